import PyProof.Rows.All
import Wide.All
import OpenK.AllK
import Wide.FinOn
import PyProof.EqAt
import PyProof.EqKinds
import PyProof.TupleCall
import KE.BitLaws
import Open.SpecLaws
import KE.OsHead
import KE.OsGo
import PySem.Challenge.RW_cutparts_s06_pieces
set_option Elab.async false
set_option linter.all false
set_option maxRecDepth 100000
namespace L2
open PySem PySem.Spec PyProof.Rows

/-- a key: an int or a str -/
abbrev Key := Sum Int Str
def keyIs : Key → Value → Bool
  | .inl k, v => Value.isInt k v
  | .inr x, v => Value.isStrOf x v
def keyH (w : World) : Key → Int
  | .inl k => hashInt k
  | .inr x => hashStr w x
theorem keyIs_shape : ∀ {k : Key} {v : Value}, keyIs k v = true → (∃ i t, k = Sum.inl i ∧ v = Value.int i t) ∨ (∃ x t, k = Sum.inr x ∧ v = Value.str x t)
  | .inl i, v, h => by
    obtain ⟨t, e⟩ := Value.isInt_shape (k := i) (v := v) h
    exact .inl ⟨i, t, rfl, e⟩
  | .inr x, v, h => by
    obtain ⟨t, e⟩ := Value.isStrOf_shape (x := x) (v := v) h
    exact .inr ⟨x, t, rfl, e⟩
theorem key_ll (a b : Int) : decide ((Sum.inl a : Key) = Sum.inl b) = (a == b) := by
  by_cases e : a = b
  · subst e; simp
  · have h : ¬ (Sum.inl a : Key) = Sum.inl b := fun q => e (Sum.inl.inj q)
    rw [decide_eq_false h]
    exact (beq_eq_false_iff_ne.mpr e).symm
theorem key_rr (a b : Str) : decide ((Sum.inr a : Key) = Sum.inr b) = decide (a = b) := by
  by_cases e : a = b
  · subst e; simp
  · have h : ¬ (Sum.inr a : Key) = Sum.inr b := fun q => e (Sum.inr.inj q)
    rw [decide_eq_false h, decide_eq_false e]
theorem key_lr (a : Int) (b : Str) : decide ((Sum.inl a : Key) = Sum.inr b) = false := decide_eq_false (fun q => nomatch q)
theorem key_rl (a : Str) (b : Int) : decide ((Sum.inr a : Key) = Sum.inl b) = false := decide_eq_false (fun q => nomatch q)

def mixKind (prog : Program) (w : World) : PySem.KeyKind prog w Key where
  is := keyIs
  hash := keyH w
  inj := fun v a b ha hb => by
    rcases keyIs_shape ha with ⟨i, t, rfl, rfl⟩ | ⟨x, t, rfl, rfl⟩
    · rcases keyIs_shape hb with ⟨j, u, rfl, e⟩ | ⟨y, u, rfl, e⟩
      · injection e with e1 _; rw [e1]
      · exact nomatch e
    · rcases keyIs_shape hb with ⟨j, u, rfl, e⟩ | ⟨y, u, rfl, e⟩
      · exact nomatch e
      · injection e with e1 _; rw [e1]
  byValue := fun k v h => by
    rcases keyIs_shape h with ⟨i, t, rfl, rfl⟩ | ⟨x, t, rfl, rfl⟩ <;> rfl
  pyHash := fun hv h => by
    rcases keyIs_shape hv with ⟨i, t, rfl, rfl⟩ | ⟨x, t, rfl, rfl⟩
    · exact wpAny_pyHash_int h
    · exact wpAny_pyHash_str h
  eqBool := fun hu hv h => by
    rcases keyIs_shape hu with ⟨i, t, rfl, rfl⟩ | ⟨x, t, rfl, rfl⟩
    · rcases keyIs_shape hv with ⟨j, u, rfl, rfl⟩ | ⟨y, u, rfl, rfl⟩
      · rw [key_ll] at h; exact wpAny_eqBool_int h
      · rw [key_lr] at h; exact SeqAt.EqAt.int_str i t y u _ _ _ _ h
    · rcases keyIs_shape hv with ⟨j, u, rfl, rfl⟩ | ⟨y, u, rfl, rfl⟩
      · rw [key_rl] at h; exact SeqAt.EqAt.str_int x t j u _ _ _ _ h
      · rw [key_rr] at h; exact wpAny_eqBool_str h
  «strs» := fun k x t v h => by
    rcases keyIs_shape h with ⟨i, u, rfl, e⟩ | ⟨y, u, rfl, e⟩
    · exact nomatch e
    · injection e with e1 _
      subst e1
      cases v <;> rfl

end L2

namespace L2
open PySem PySem.Spec PyProof.Rows

/-- a value, without the heap -/
inductive V where
  | non | bl (b : Bool) | int (i : Int) | str (x : Str) | byt (b : Array UInt8) | flt (b : UInt64) | ref (a : Addr) | ty (n : String)
  deriving DecidableEq

def RelV : V → Value → Prop
  | .non, u => u = Value.none
  | .bl b, u => u = Value.bool b
  | .int i, u => ∃ t, u = Value.int i t
  | .str x, u => ∃ t, u = Value.str x t
  | .byt b, u => ∃ t, u = Value.bytes b t
  | .flt b, u => ∃ t, u = Value.float b t
  | .ref a, u => u = Value.ref a
  | .ty n, u => u = Value.type n

abbrev Vals : List V → List Value → Prop := Paired RelV
theorem Vals.length {xs : List V} {us : List Value} (r : Vals xs us) : xs.length = us.length := Paired.length r
theorem Vals.get : ∀ {xs : List V} {us : List Value} {i : Nat} {x : V}, Vals xs us → xs[i]? = some x → ∃ u, us[i]? = some u ∧ RelV x u
  | _, _, _, _, .nil, e => by simp at e
  | _, _, 0, _, .cons r _, e => by simp at e; subst e; exact ⟨_, rfl, r⟩
  | _, _, i + 1, x, .cons _ t, e => by
    obtain ⟨u, h1, h2⟩ := Vals.get (i := i) (x := x) t (by simpa using e)
    exact ⟨u, by simpa using h1, h2⟩
theorem Vals.set {x : V} {u : Value} (r : RelV x u) : ∀ {xs : List V} {us : List Value} (i : Nat), Vals xs us → Vals (xs.set i x) (us.set i u)
  | _, _, _, .nil => .nil
  | _, _, 0, .cons _ t => .cons r t
  | _, _, i + 1, .cons q t => .cons q (Vals.set r i t)
theorem Vals.append : ∀ {xs ys : List V} {us ws : List Value}, Vals xs us → Vals ys ws → Vals (xs ++ ys) (us ++ ws)
  | _, _, _, _, .nil, s => s
  | _, _, _, _, .cons r t, s => .cons r (Vals.append t s)
theorem Vals.take : ∀ {xs : List V} {us : List Value} (n : Nat), Vals xs us → Vals (xs.take n) (us.take n)
  | _, _, 0, _ => .nil
  | _, _, _ + 1, .nil => .nil
  | _, _, n + 1, .cons r t => .cons r (Vals.take n t)
theorem Vals.drop : ∀ {xs : List V} {us : List Value} (n : Nat), Vals xs us → Vals (xs.drop n) (us.drop n)
  | _, _, 0, r => r
  | _, _, _ + 1, .nil => .nil
  | _, _, n + 1, .cons _ t => Vals.drop n t
def RelO : Option V → Option Value → Prop
  | some v, some u => RelV v u
  | none, none => True
  | _, _ => False
def KV {κ : Type} : List (κ × V) → List (κ × Value) → Prop := Paired fun (p : κ × V) (q : κ × Value) => p.1 = q.1 ∧ RelV p.2 q.2

/-- a key of a dict (00_mix): an int or a text -/
def kV : Key → V
  | .inl i => .int i
  | .inr x => .str x

/-- what stands at a tracked address -/
inductive HO where
  /-- a list -/
  | lst (xs : List V)
  /-- a tuple (never changes) -/
  | tup (xs : List V)
  /-- a dict whose keys are ints and texts; one whose keys are tuples of ints and texts (the empty one is both) -/
  | dK (kvs : List (Key × V)) | dT (kvs : List (List Key × V))
  /-- a set of ints: its members, its size -/
  | set (S : Int → Bool) (n : Nat)
  /-- an instance of the class at C, its dict at dx, its attributes -/
  | ins (C dx : Addr) (fs : List (Str × V))
  /-- the dict of the instance at x -/
  | own (x : Addr)
  /-- the dict of an exception -/
  | xd (fs : List (Str × V))
  /-- a bound method, f of x -/
  | met (f x : Addr)
  /-- a range object lo, lo + 1, .. below hi -/
  | rng (lo hi : Int)
  /-- a thing that is known to the object (the script; a dict while a loop walks it): read, never written while it is so -/
  | frz (o : Obj) (u : HO)
  /-- a code object's table -/
  | tbl (ps : Array Value)
  /-- any other thing, by what is true of its one object (a def of one's own: SetO a S n := HO.ext fun h => ..) -/
  | ext (φ : Heap → Prop)

abbrev Hp := Addr → Option HO
def upd (H : Hp) (a : Addr) (o : HO) : Hp := fun b => if b = a then some o else H b
theorem upd_same {H : Hp} {a : Addr} {o : HO} : upd H a o a = some o := by unfold upd; rw [if_pos rfl]
theorem upd_ne {H : Hp} {a b : Addr} {o : HO} (h : b ≠ a) : upd H a o b = H b := by unfold upd; rw [if_neg h]
/-- two objects of different content stand apart -/
theorem ne_of {H : Hp} {a b : Addr} {o u : HO} (h : H a = some o) (h' : H b = some u) (d : o ≠ u) : a ≠ b := by
  intro e; subst e; rw [h] at h'; exact d (Option.some.inj h')
theorem ne_of_none {H : Hp} {a b : Addr} {o : HO} (h : H a = some o) (h' : H b = none) : a ≠ b := by
  intro e; subst e; rw [h] at h'; cases h'

section
variable (P : Program) (w : World)
def ObjOk (H : Hp) (h : Heap) (a : Addr) : HO → Prop
  | .lst xs => xs.length ≤ sizeLine ∧ ∃ (its : List Value) (n : Nat), Vals xs its ∧ h.get? a = some { cls := .type "list", data := .seq its.toArray n }
  | .tup xs => xs.length ≤ sizeLine ∧ ∃ its : List Value, Vals xs its ∧ IsTup h a its.toArray
  | .dK kvs => kvs.length ≤ sizeLine ∧ (a == sysModules) = false ∧ ∃ vs, KV kvs vs ∧ h.DictOf (mixKind P w) a vs
  | .dT kvs => kvs.length ≤ sizeLine ∧ (a == sysModules) = false ∧ ∃ xs : List (List Key × Addr × Value),
      Paired (fun (p : List Key × V) (q : List Key × Addr × Value) => p.1 = q.1 ∧ H q.2.1 = some (.tup (p.1.map kV)) ∧ RelV p.2 q.2.2) kvs xs ∧
      ∃ o es ep, h.get? a = some o ∧ o.ExactDict ∧ o.data = .dict es ep ∧ es.toList = xs.map (entryOfKey (tupleKind (mixKind P w))) ∧ (xs.map (·.1)).Nodup
  | .set S n => h.SetOf (intKind P w) a S n
  | .ins C dx fs => H dx = some (.own a) ∧ fs.length ≤ 1000 ∧ dx ≠ a ∧ h.get? a = some (PySem.W.instObj C dx) ∧
      ∃ mA, h.Ns1 dx mA ∧ (∀ f, RelO (fs.lookup f) (mA f)) ∧ PySem.Within mA (fs.map (·.1))
  | .own _ => ∃ o, h.get? a = some o
  | .xd fs => ∃ mA, h.Ns1 a mA ∧ ∀ f, RelO (fs.lookup f) (mA f)
  | .rng lo hi => ∃ t u v, h.get? a = some { cls := .type "range", data := .fields #[.int lo t, .int hi u, .int 1 v] }
  | .frz o u => h.get? a = some o ∧ ObjOk H h a u
  | .tbl ps => h.get? a = some { cls := .none, data := .fields ps }
  | .met f x => h.get? a = some (PySem.W.methodObj (.ref f) (.ref x))
  | .ext φ => φ h ∧ (∃ o, h.get? a = some o) ∧ ∀ h1 h2 : Heap, φ h1 → (∀ o, h1.get? a = some o → h2.get? a = some o) → φ h2
/-- the abstract heap is held -/
def HOk (H : Hp) (h : Heap) : Prop := ∀ a o, H a = some o → ObjOk P w H h a o
end

section
variable {P : Program} {w : World} {H H' : Hp} {h h' : Heap} {a : Addr} {o : HO}
theorem ObjOk.lt (x : ObjOk P w H h a o) : a < h.objs.size := by
  cases o with
  | lst xs => obtain ⟨_, _, _, _, e⟩ := x; exact Heap.lt_size e
  | tup xs => obtain ⟨_, _, _, p⟩ := x; exact p.lt
  | dK kvs => obtain ⟨_, _, _, _, o, _, _, e, _⟩ := x; exact Heap.lt_size e
  | dT kvs => obtain ⟨_, _, _, _, o, _, _, e, _⟩ := x; exact Heap.lt_size e
  | set S n => obtain ⟨o, _, _, _, e, _⟩ := x; exact Heap.lt_size e
  | ins C dx fs => obtain ⟨_, _, _, e, _⟩ := x; exact Heap.lt_size e
  | own y => obtain ⟨_, e⟩ := x; exact Heap.lt_size e
  | xd fs => obtain ⟨_, ⟨_, _, _, e, _⟩, _⟩ := x; exact Heap.lt_size e
  | rng lo hi => obtain ⟨_, _, _, e⟩ := x; exact Heap.lt_size e
  | frz ob u => obtain ⟨e, _⟩ := x; exact Heap.lt_size e
  | tbl ps => exact Heap.lt_size (show h.get? a = some _ from x)
  | met f y => exact Heap.lt_size (show h.get? a = some _ from x)
  | ext φ => obtain ⟨_, ⟨_, e⟩, _⟩ := x; exact Heap.lt_size e
theorem Paired.mapP {α β : Type} {F G : α → β → Prop} : ∀ {l₁ : List α} {l₂ : List β}, Paired F l₁ l₂ → (∀ a b, F a b → G a b) → Paired G l₁ l₂
  | _, _, .nil, _ => .nil
  | _, _, .cons r t, f => .cons (f _ _ r) (Paired.mapP t f)
theorem Paired.imp' {α β : Type} {F G : α → β → Prop} (f : ∀ a b, F a b → G a b) {l₁ : List α} {l₂ : List β} (r : Paired F l₁ l₂) : Paired G l₁ l₂ := Paired.mapP r f
/-- what an object's description leans on: its own object, its own dict, the tuples -/
theorem ObjOk.stay (x : ObjOk P w H h a o) (k : ∀ b u, (b = a ∨ H b = some (.own a)) → h.get? b = some u → h'.get? b = some u)
    (ho : ∀ b, H b = some (.own a) → H' b = some (.own a)) (ht : ∀ b xs, H b = some (.tup xs) → H' b = some (.tup xs)) : ObjOk P w H' h' a o := by
  induction o with
  | lst xs => obtain ⟨z, its, n, r, e⟩ := x; exact ⟨z, its, n, r, k _ _ (.inl rfl) e⟩
  | tup xs => obtain ⟨z, its, r, ob, e, c⟩ := x; exact ⟨z, its, r, ob, k _ _ (.inl rfl) e, c⟩
  | dK kvs => obtain ⟨z, y, vs, r, ob, es, ep, e, c⟩ := x; exact ⟨z, y, vs, r, ob, es, ep, k _ _ (.inl rfl) e, c⟩
  | dT kvs =>
    obtain ⟨z, y, xs, r, ob, es, ep, e, c⟩ := x
    exact ⟨z, y, xs, Paired.mapP r fun p q z => ⟨z.1, ht _ _ z.2.1, z.2.2⟩, ob, es, ep, k _ _ (.inl rfl) e, c⟩
  | set S n => obtain ⟨ob, es, ep, t, e, c⟩ := x; exact ⟨ob, es, ep, t, k _ _ (.inl rfl) e, c⟩
  | ins C dx fs =>
    obtain ⟨d, z, ne, e, mA, ⟨od, es, ep, e2, c⟩, r⟩ := x
    exact ⟨ho _ d, z, ne, k _ _ (.inl rfl) e, mA, ⟨od, es, ep, k _ _ (.inr d) e2, c⟩, r⟩
  | own y => obtain ⟨ob, e⟩ := x; exact ⟨ob, k _ _ (.inl rfl) e⟩
  | xd fs => obtain ⟨mA, ⟨od, es, ep, e, c⟩, r⟩ := x; exact ⟨mA, ⟨od, es, ep, k _ _ (.inl rfl) e, c⟩, r⟩
  | rng lo hi => obtain ⟨t, u, v, e⟩ := x; exact ⟨t, u, v, k _ _ (.inl rfl) e⟩
  | frz ob u ih => obtain ⟨e, q⟩ := x; exact ⟨k _ _ (.inl rfl) e, ih q⟩
  | tbl ps =>
    have e : h.get? a = some { cls := .none, data := .fields ps } := x
    show h'.get? a = some { cls := .none, data := .fields ps }
    exact k a _ (.inl rfl) e
  | met f y =>
    have e : h.get? a = some (PySem.W.methodObj (.ref f) (.ref y)) := x
    show h'.get? a = some (PySem.W.methodObj (.ref f) (.ref y))
    exact k a _ (.inl rfl) e
  | ext φ => obtain ⟨p, ⟨o, e⟩, st⟩ := x; exact ⟨st _ _ p fun o q => k _ _ (.inl rfl) q, ⟨o, k _ _ (.inl rfl) e⟩, st⟩
theorem HOk.lt (x : HOk P w H h) (e : H a = some o) : a < h.objs.size := (x a o e).lt
theorem HOk.fresh (x : HOk P w H h) (e : h.objs.size ≤ a) : H a = none := by
  cases q : H a with
  | none => rfl
  | some u => exact absurd (Nat.lt_of_lt_of_le (x.lt q) e) (Nat.lt_irrefl _)
/-- every object of the heap is kept -/
theorem HOk.kept (x : HOk P w H h) (k : ∀ b u, h.get? b = some u → h'.get? b = some u) : HOk P w H h' := fun a o e =>
  (x a o e).stay (fun b u _ q => k b u q) (fun _ q => q) fun _ _ q => q
/-- a new object is laid and tracked -/
theorem HOk.laid (x : HOk P w H h) (k : ∀ b u, h.get? b = some u → h'.get? b = some u) (hp : h.objs.size ≤ a) (new : ObjOk P w (upd H a o) h' a o) : HOk P w (upd H a o) h' := fun b u e => by
  have hn := x.fresh hp
  by_cases hb : b = a
  · subst hb; rw [upd_same] at e; cases e; exact new
  · rw [upd_ne hb] at e
    exact (x b u e).stay (fun c v _ q => k c v q) (fun c q => by rw [upd_ne (ne_of_none q hn)]; exact q) fun c xs q => by rw [upd_ne (ne_of_none q hn)]; exact q
end

/-- what may be read as u: it is u, or a known u -/
def Rd (H : Hp) (a : Addr) (u : HO) : Prop := H a = some u ∨ ∃ o, H a = some (.frz o u)
theorem Rd.ok {P : Program} {w : World} {H : Hp} {h : Heap} {a : Addr} {u : HO} (r : Rd H a u) (x : HOk P w H h) : ObjOk P w H h a u := by
  rcases r with r | ⟨o, r⟩
  · exact x a u r
  · obtain ⟨_, q⟩ := x a _ r
    exact q
/-- what may be written -/
def Mut : Option HO → Prop
  | some (.lst _) => True
  | some (.dK _) => True
  | some (.dT _) => True
  | some (.set _ _) => True
  | some (.ins _ _ _) => True
  | some (.ext _) => True
  | _ => False
section
variable {P : Program} {w : World} {H : Hp} {h h' : Heap} {x e : Addr} {o' : HO}
/-- the object at e is changed: x itself, or the dict of the instance x -/
theorem HOk.write (ok : HOk P w H h) (mu : Mut (H x)) (he : e = x ∨ H e = some (.own x)) (k : ∀ b u, b ≠ e → h.get? b = some u → h'.get? b = some u) (heo : ∃ u, h'.get? e = some u)
    (new : ObjOk P w (upd H x o') h' x o') : HOk P w (upd H x o') h' := fun b u q => by
  have nown : ∀ c y, H c = some (.own y) → c ≠ x := fun c y r z => by subst z; rw [r] at mu; exact mu
  have ntup : ∀ c xs, H c = some (.tup xs) → c ≠ x := fun c xs r z => by subst z; rw [r] at mu; exact mu
  by_cases hb : b = x
  · subst hb; rw [upd_same] at q; cases q; exact new
  · rw [upd_ne hb] at q
    by_cases hbe : b = e
    · have q' : H b = some (.own x) := by
        rcases he with z | z
        · exact absurd (hbe.trans z) hb
        · rw [hbe]; exact z
      rw [q] at q'; cases q'
      obtain ⟨v, hv⟩ := heo
      exact ⟨v, by rw [hbe]; exact hv⟩
    · refine (ok b u q).stay (fun c v hc r => k c v ?_ r) (fun c r => by rw [upd_ne (nown c b r)]; exact r) fun c xs r => by rw [upd_ne (ntup c xs r)]; exact r
      rcases hc with rfl | hc
      · exact hbe
      · rintro rfl
        rcases he with z | z
        · exact nown c b hc z
        · rw [hc] at z; cases z; exact hb rfl
end

structure Un (fs ex : List Addr) (H H' : Hp) (h h' : Heap) : Prop where
  keep : ∀ b o, h.get? b = some o → H b = none → b ∉ fs → b ∉ ex → h'.get? b = some o
  slot : ∀ b o, h.get? b = some o → H b = none → b ∈ fs → b ∉ ex → ∃ sl, h'.get? b = some { o with slots := sl }
  free : ∀ b o, h.get? b = some o → H b = none → b ∉ ex → H' b = none
  there : ∀ b o, h.get? b = some o → b ∉ ex → ∃ o', h'.get? b = some o'
  tups : ∀ b xs, H b = some (.tup xs) → H' b = some (.tup xs)
  frzs : ∀ b o u, H b = some (.frz o u) → H' b = some (.frz o u)
  tbls : ∀ b ps, H b = some (.tbl ps) → ∃ more, H' b = some (.tbl (ps ++ more))
section
variable {fs fs' ex ex' : List Addr} {H H1 H2 : Hp} {h h1 h2 h' : Heap} {a x e : Addr} {o : HO}
theorem Un.any (u : Un fs ex H H1 h h1) {b : Addr} {ob : Obj} (q : h.get? b = some ob) (n : H b = none) (hx : b ∉ ex) : ∃ sl, h1.get? b = some { ob with slots := sl } := by
  by_cases hb : b ∈ fs
  · exact u.slot b ob q n hb hx
  · exact ⟨ob.slots, u.keep b ob q n hb hx⟩
theorem Un.kept (k : ∀ b u, h.get? b = some u → h'.get? b = some u) : Un fs ex H H h h' :=
  ⟨fun b ob q _ _ _ => k b ob q, fun b ob q _ _ _ => ⟨ob.slots, k b ob q⟩, fun _ _ _ n _ => n, fun b ob q _ => ⟨ob, k b ob q⟩, fun _ _ q => q, fun _ _ _ q => q, fun _ ps q => ⟨#[], by rw [q]; simp⟩⟩
theorem Un.refl : Un fs ex H H h h := Un.kept fun _ _ q => q
theorem Un.laid (k : ∀ b u, h.get? b = some u → h'.get? b = some u) (hp : h.objs.size ≤ a) (hn : H a = none) : Un fs ex H (upd H a o) h h' where
  keep := fun b u q _ _ _ => k b u q
  slot := fun b u q _ _ _ => ⟨u.slots, k b u q⟩
  free := fun b u q n _ => by rw [upd_ne (Nat.ne_of_lt (Nat.lt_of_lt_of_le (Heap.lt_size q) hp))]; exact n
  there := fun b u q _ => ⟨u, k b u q⟩
  tups := fun b xs q => by rw [upd_ne (ne_of_none q hn)]; exact q
  frzs := fun b u xs q => by rw [upd_ne (ne_of_none q hn)]; exact q
  tbls := fun b ps q => ⟨#[], by rw [upd_ne (ne_of_none q hn), q]; simp⟩
theorem Un.write (mu : Mut (H x)) (he : e = x ∨ H e = some (.own x)) (k : ∀ b u, b ≠ e → h.get? b = some u → h'.get? b = some u) (heo : ∃ u, h'.get? e = some u) : Un fs ex H (upd H x o) h h' := by
  have hx : ∀ b, H b = none → b ≠ x := fun b n z => by subst z; rw [n] at mu; exact mu
  have hb : ∀ b, H b = none → b ≠ e := fun b n z => by
    subst z
    rcases he with r | r
    · exact hx b n r
    · rw [n] at r; cases r
  have hm : ∀ b u, H b = some u → ¬ Mut (some u) → b ≠ x := fun b u q nm z => by subst z; rw [q] at mu; exact nm mu
  refine ⟨fun b u q n _ _ => k b u (hb b n) q, fun b u q n _ _ => ⟨u.slots, k b u (hb b n) q⟩, fun b u q n _ => by rw [upd_ne (hx b n)]; exact n, fun b u q _ => ?_,
    fun b xs q => by rw [upd_ne (hm b _ q fun z => z)]; exact q, fun b u xs q => by rw [upd_ne (hm b _ q fun z => z)]; exact q, fun b ps q => ⟨#[], by rw [upd_ne (hm b _ q fun z => z), q]; simp⟩⟩
  by_cases hbe : b = e
  · subst hbe; exact heo
  · exact ⟨u, k b u hbe q⟩
end

def trk (h : Heap) (H : Hp) : List Addr := (List.range h.objs.size).filter fun a => (H a).isSome
def hidT (h : Heap) (H : Hp) : Heap := PySem.W.hideAll h (trk h H)
theorem hidT_size (h : Heap) (H : Hp) : (hidT h H).objs.size = h.objs.size := PySem.W.hideAll_size _ _
theorem hidT_get {h : Heap} {H : Hp} {b : Addr} {o : Obj} (e : h.get? b = some o) (n : H b = none) : (hidT h H).get? b = some o :=
  PySem.W.hideAll_get _ e fun hm => by
    have q : (H b).isSome = true := (List.mem_filter.mp hm).2
    rw [n] at q; simp at q
theorem of_hidT {h : Heap} {H : Hp} {b : Addr} {o : Obj} (e : (hidT h H).get? b = some o) : h.get? b = some o ∧ H b = none := by
  have e' : h.get? b = some o := PySem.W.of_hideAll (trk h H) e
  refine ⟨e', ?_⟩
  cases q : H b with
  | none => rfl
  | some x =>
    have hm : b ∈ trk h H := List.mem_filter.mpr ⟨List.mem_range.mpr (Heap.lt_size e'), by simp [q]⟩
    have z : (hidT h H).get? b = none := PySem.W.hideAll_none (trk h H) hm
    rw [z] at e; cases e

end L2

namespace L2
open PySem PySem.Spec PyProof.Rows

/-- the module's facts, over the base: the heap at the law's entry without what is tracked there -/
structure Mod (K : PySem.W.Frag) (mg : Str → Option Value) (base : Heap) : Prop where
  kin : K.In base
  glob : base.Ns mainGlobals mg
  blt : ∃ mb, base.Ns builtinsNs mb ∧ ∀ x : Str, x ≠ "__name__" → mb x = bootBuiltins x
  nolimit : base.NoLimit

/-- the context: a def's body (or a comprehension's block) running. base: fixed through the whole law; s₀, H₀: the entry; outer: the frames whose slots others may change (a def's callers); stack: all frames that run;
   ex: iterators that were made ahead of the entry and are walked here (a comprehension's); fn: the names whose cells were made at the entry (a def: all; a comprehension's block: its own); calm: not within an except suite; pn: pins that every state bears; xe: what is wanted of an exception that leaves the code -/
structure Cx where
  prog : Program
  w : World
  K : PySem.W.Frag
  mg : Str → Option Value
  base : Heap
  A : Around
  N : List Str
  s_0 : Shared
  H_0 : Hp
  env : Env
  outer : List Env
  stack : List Env
  ex : List Addr
  fn : Str → Bool
  calm : Bool
  pn : List (Addr × Obj)
  xe : Value → Shared → Prop
/-- the callers' frames -/
def frs (l : List Env) : List Addr := l.filterMap (·.frame)
abbrev Cx.fs (X : Cx) : List Addr := frs X.outer

def Vis (sc : Scope) (x : Str) : Prop := sc.names.lookup x = some .local ∨ sc.names.lookup x = some .cell ∨ sc.names.lookup x = some .free
def Loc (sc : Scope) (x : Str) : Prop := sc.names.lookup x = some .local ∨ sc.names.lookup x = some .cell
def Look (env : Env) (h : Heap) (m : Str → Option Value) (x : Str) (u : Value) : Prop :=
  (env.kindOf x = some .local ∧ m x = some u) ∨ ((env.kindOf x = some .cell ∨ env.kindOf x = some .free) ∧ ∃ c, env.cells.lookup x = some c ∧ h.IsCell c (some u))

structure Cx.Ok (X : Cx) : Prop where
  mod : Mod X.K X.mg X.base
  kind : X.env.scope.kind = .function
  glob : X.env.globals = mainGlobals
  blt : X.env.builtins = builtinsNs
  above : X.s_0.heap.objs.size ≤ X.env.locals
  inj : ∀ x y c, X.env.cells.lookup x = some c → X.env.cells.lookup y = some c → x = y
  has : ∀ x, (X.env.kindOf x = some .cell ∨ X.env.kindOf x = some .free) → ∃ c, X.env.cells.lookup x = some c
  cab : ∀ x c, X.fn x = true → X.env.cells.lookup x = some c → X.s_0.heap.objs.size ≤ c
  hd : X.calm = true → X.A.handled = none
  frames : X.A.frames = some X.stack
  stk : X.stack = X.outer ∨ (X.stack = X.env :: X.outer ∧ X.env.frame = some X.env.locals)
  exf : ∀ b ∈ X.ex, b ≠ X.env.locals ∧ ∀ x c, X.env.cells.lookup x = some c → c ≠ b
  bs : ∀ b o, X.base.get? b = some o → X.s_0.heap.get? b = some o ∧ X.H_0 b = none
  bsz : X.base.objs.size ≤ X.s_0.heap.objs.size
  noex : ∀ b o, X.base.get? b = some o → b ∉ X.ex
  exfs : ∀ b ∈ X.ex, b ∉ X.fs
  funs : X.s_0.heap.FunFrames X.base X.outer
  frf : ∀ b ∈ X.fs, X.H_0 b = none

structure Inv (X : Cx) (pins : List (Addr × Obj)) (σ : List (Option V)) (H : Hp) (s : Shared) : Prop where
  ok : X.Ok
  os : s.os = X.s_0.os
  bare : AllBare s.gens
  base : Un X.fs X.ex X.H_0 H X.s_0.heap s.heap
  loc : ∃ m, s.heap.Ns X.env.locals m ∧ ∀ (i : Nat) (x : Str) (v : V), X.N[i]? = some x → σ[i]? = some (some v) → Vis X.env.scope x → ∃ u, RelV v u ∧ Look X.env s.heap m x u
  cell : ∀ x c, X.env.cells.lookup x = some c → ∃ v, s.heap.IsCell c v
  free : H X.env.locals = none
  freeC : ∀ x c, X.env.cells.lookup x = some c → H c = none
  pin : ∀ p ∈ X.pn ++ pins, s.heap.get? p.1 = some p.2 ∧ H p.1 = none ∧ p.1 ≠ X.env.locals ∧ p.1 ∉ X.fs ∧ ∀ v, p.2.data ≠ .cell v
  hok : HOk X.prog X.w H s.heap
  len : σ.length = X.N.length

section
variable {X : Cx} {pins : List (Addr × Obj)} {σ : List (Option V)} {H H' : Hp} {s : Shared} {h' : Heap}

theorem Cx.Ok.nofr (ok : X.Ok) {b : Addr} {o : Obj} (e : X.base.get? b = some o) : b ∉ X.fs := fun hb => by
  have := (ok.funs.mem hb).1
  rw [e] at this; cases this
theorem Inv.bs (I : Inv X pins σ H s) : ∀ b o, X.base.get? b = some o → s.heap.get? b = some o ∧ H b = none := fun b o e =>
  ⟨I.base.keep b o (I.ok.bs b o e).1 (I.ok.bs b o e).2 (I.ok.nofr e) (I.ok.noex b o e), I.base.free b o (I.ok.bs b o e).1 (I.ok.bs b o e).2 (I.ok.noex b o e)⟩
theorem Inv.bk (I : Inv X pins σ H s) : ∀ b o, X.base.get? b = some o → s.heap.get? b = some o := fun b o e => (I.bs b o e).1
theorem Inv.mod (I : Inv X pins σ H s) : Mod X.K X.mg X.base := I.ok.mod
theorem Inv.kIn (I : Inv X pins σ H s) : X.K.In s.heap := I.ok.mod.kin.keeps I.bk
/-- the frame over the base: for OpenK's rules (K.In X.base is I.mod.kin) -/
theorem Inv.fr (I : Inv X pins σ H s) : ∃ m, Fr X.base X.env.locals s.heap m :=
  let ⟨m, hn, _⟩ := I.loc
  ⟨m, hn, I.bk, Nat.le_trans I.ok.bsz I.ok.above⟩
theorem Inv.lt (I : Inv X pins σ H s) : X.env.locals < s.heap.objs.size := let ⟨_, hn, _⟩ := I.loc; hn.lt
theorem Inv.sz (I : Inv X pins σ H s) : X.s_0.heap.objs.size ≤ s.heap.objs.size := Nat.le_trans I.ok.above (Nat.le_of_lt I.lt)
theorem Inv.nofs (I : Inv X pins σ H s) {a : Addr} (h : s.heap.objs.size ≤ a) : a ∉ X.fs := fun hb => by
  obtain ⟨_, o, ho, _⟩ := I.ok.funs.mem hb
  exact absurd (Nat.lt_of_lt_of_le (Heap.lt_size ho) (Nat.le_trans I.sz h)) (Nat.lt_irrefl _)
theorem Inv.cne (I : Inv X pins σ H s) : ∀ x c, X.env.cells.lookup x = some c → c ≠ X.env.locals := fun x c e z => by
  obtain ⟨v, o, ho, hd⟩ := I.cell x c e
  obtain ⟨m, ⟨o', es, ep, ho', hd', _⟩, _⟩ := I.loc
  rw [z, ho'] at ho; cases ho; rw [hd'] at hd; cases hd
theorem Inv.funs (I : Inv X pins σ H s) : s.heap.FunFrames X.base X.outer := by
  have all : ∀ (l : List Env), (∀ b ∈ frs l, b ∈ X.fs) → X.s_0.heap.FunFrames X.base l → s.heap.FunFrames X.base l := by
    intro l
    induction l with
    | nil => intro _ _; trivial
    | cons env r ih =>
      intro hs hl
      obtain ⟨hk, ⟨L, o, hf, hn, ho, hd⟩, hr⟩ := hl
      have hL : L ∈ X.fs := hs L (by unfold frs; rw [List.filterMap_cons, hf]; exact List.mem_cons_self)
      obtain ⟨sl, e⟩ := I.base.slot L o ho (I.ok.frf L hL) hL fun z => I.ok.exfs L z hL
      exact ⟨hk, ⟨L, _, hf, hn, e, hd⟩, ih (fun b hb => hs b (by unfold frs; rw [List.filterMap_cons, hf]; exact List.mem_cons_of_mem _ hb)) hr⟩
  exact all X.outer (fun _ hb => hb) I.ok.funs

/-- the frames that run, for a call -/
theorem Inv.stack (I : Inv X pins σ H s) : s.heap.FunFrames X.base X.stack := by
  rcases I.ok.stk with e | ⟨e, hf⟩
  · rw [e]; exact I.funs
  · rw [e]
    obtain ⟨m, hn, _⟩ := I.loc
    refine .cons (by rw [I.ok.kind]; decide) hf hn ?_ I.funs
    exact Heap.get?_none_of_le (Nat.le_trans I.ok.bsz I.ok.above)
theorem Inv.stkSub (I : Inv X pins σ H s) : ∀ b ∈ frs X.stack, b ∈ X.env.locals :: X.fs := fun b hb => by
  rcases I.ok.stk with e | ⟨e, hf⟩
  · rw [e] at hb; exact List.mem_cons_of_mem _ hb
  · rw [e] at hb
    unfold frs at hb
    rw [List.filterMap_cons, hf] at hb
    exact hb
theorem Inv.stkFree (I : Inv X pins σ H s) : ∀ b ∈ frs X.stack, H b = none := fun b hb => by
  rcases List.mem_cons.mp (I.stkSub b hb) with e | hb
  · rw [e]; exact I.free
  · obtain ⟨_, o, ho, _⟩ := I.ok.funs.mem hb
    exact I.base.free b o ho (I.ok.frf b hb) fun z => I.ok.exfs b z hb

/-- THE STEP: the untracked objects but the frame and the records at ch are kept (the callers' frames up to slots), the frame's map is kept, the new abstract heap is held -/
theorem Inv.step {g' : Array GenState} {t' : Nat} {d' : Drawn} {ch : List Addr} (I : Inv X pins σ H s)
    (hch : ∀ b ∈ ch, (b ∈ X.ex ∨ X.s_0.heap.objs.size ≤ b) ∧ b ≠ X.env.locals ∧ (∀ x c, X.env.cells.lookup x = some c → c ≠ b) ∧ ∀ p ∈ X.pn ++ pins, p.1 ≠ b)
    (keep : ∀ b o, b ≠ X.env.locals → b ∉ X.fs → b ∉ ch → s.heap.get? b = some o → H b = none → h'.get? b = some o)
    (slot : ∀ b o, b ≠ X.env.locals → b ∈ X.fs → b ∉ ch → s.heap.get? b = some o → H b = none → ∃ sl, h'.get? b = some { o with slots := sl }) (free : ∀ b o, b ∉ ch → s.heap.get? b = some o → H b = none → H' b = none)
    (there : ∀ b o, b ∉ ch → s.heap.get? b = some o → ∃ o', h'.get? b = some o')
    (tups : ∀ b xs, H b = some (.tup xs) → H' b = some (.tup xs)) (frzs : ∀ b o u, H b = some (.frz o u) → H' b = some (.frz o u)) (tbls : ∀ b ps, H b = some (.tbl ps) → ∃ more, H' b = some (.tbl (ps ++ more)))
    (ns : ∀ m, s.heap.Ns X.env.locals m → h'.Ns X.env.locals m) (hok : HOk X.prog X.w H' h') (hg : AllBare g') :
    Inv X pins σ H' { s with heap := h', gens := g', drawn := d', toks := t' } := by
  have neL : ∀ b o, X.s_0.heap.get? b = some o → b ≠ X.env.locals := fun b o e => Nat.ne_of_lt (Nat.lt_of_lt_of_le (Heap.lt_size e) I.ok.above)
  have neC : ∀ b o, X.s_0.heap.get? b = some o → b ∉ X.ex → b ∉ ch := fun b o e hx hb => by
    rcases (hch b hb).1 with z | z
    · exact hx z
    · exact absurd (Nat.lt_of_lt_of_le (Heap.lt_size e) z) (Nat.lt_irrefl _)
  have cellK : ∀ x c, X.env.cells.lookup x = some c → ∀ v, s.heap.IsCell c v → h'.IsCell c v := fun x c e v ⟨o, ho, hd⟩ => by
    have nch : c ∉ ch := fun z => (hch c z).2.2.1 x c e rfl
    by_cases hc : c ∈ X.fs
    · obtain ⟨sl, q⟩ := slot c o (I.cne x c e) hc nch ho (I.freeC x c e)
      exact ⟨_, q, hd⟩
    · exact ⟨o, keep c o (I.cne x c e) hc nch ho (I.freeC x c e), hd⟩
  refine ⟨I.ok, I.os, hg, ⟨fun b o e n hb hx => ?_, fun b o e n hb hx => ?_, fun b o e n hx => ?_, fun b o e hx => ?_, fun b xs e => tups b xs (I.base.tups b xs e), fun b o xs e => frzs b o xs (I.base.frzs b o xs e), fun b ps e => ?_⟩, ?_, fun x c e => ?_, ?_, fun x c e => ?_, fun p hp => ?_, hok, I.len⟩
  · exact keep b o (neL b o e) hb (neC b o e hx) (I.base.keep b o e n hb hx) (I.base.free b o e n hx)
  · obtain ⟨sl, e1⟩ := I.base.slot b o e n hb hx
    obtain ⟨sl', e2⟩ := slot b _ (neL b o e) hb (neC b o e hx) e1 (I.base.free b o e n hx)
    exact ⟨sl', e2⟩
  · obtain ⟨o', e1⟩ := I.base.there b o e hx
    exact free b o' (neC b o e hx) e1 (I.base.free b o e n hx)
  · obtain ⟨o', e1⟩ := I.base.there b o e hx
    exact there b o' (neC b o e hx) e1
  · obtain ⟨m1, e1⟩ := I.base.tbls b ps e
    obtain ⟨m2, e2⟩ := tbls b _ e1
    exact ⟨m1 ++ m2, by rw [e2, Array.append_assoc]⟩
  · obtain ⟨m, hn, hl⟩ := I.loc
    refine ⟨m, ns m hn, fun i x v e1 e2 e3 => ?_⟩
    obtain ⟨u, r, l⟩ := hl i x v e1 e2 e3
    refine ⟨u, r, ?_⟩
    rcases l with l | ⟨k, c, e, z⟩
    · exact .inl l
    · exact .inr ⟨k, c, e, cellK x c e _ z⟩
  · obtain ⟨v, z⟩ := I.cell x c e
    exact ⟨v, cellK x c e v z⟩
  · obtain ⟨m, ⟨o, _, _, ho, _⟩, _⟩ := I.loc
    exact free _ o (fun z => (hch _ z).2.1 rfl) ho I.free
  · obtain ⟨v, o, ho, hd⟩ := I.cell x c e
    exact free c o (fun z => (hch c z).2.2.1 x c e rfl) ho (I.freeC x c e)
  · obtain ⟨e, n, ne, nf, d⟩ := I.pin p hp
    have nch : p.1 ∉ ch := fun z => (hch p.1 z).2.2.2 p hp rfl
    exact ⟨keep p.1 p.2 ne nf nch e n, free p.1 p.2 nch e n, ne, nf, d⟩
/-- .. where the frame's own object is kept too -/
theorem Inv.un {t' : Nat} (I : Inv X pins σ H s) (u : Un X.fs [] H H' s.heap h') (hok : HOk X.prog X.w H' h') : Inv X pins σ H' { s with heap := h', toks := t' } := by
  obtain ⟨m, ⟨o, es, ep, ho, r⟩, _⟩ := id I.loc
  obtain ⟨sl, hL⟩ := u.any ho I.free (by simp)
  exact I.step (g' := s.gens) (d' := s.drawn) (ch := []) (fun _ z => nomatch z) (fun b o _ hb _ e n => u.keep b o e n hb (by simp)) (fun b o _ hb _ e n => u.slot b o e n hb (by simp)) (fun b o _ e n => u.free b o e n (by simp)) (fun b o _ e => u.there b o e (by simp)) u.tups u.frzs u.tbls (fun m' hm => by
    obtain ⟨o', es', ep', ho', r'⟩ := hm
    rw [ho] at ho'; cases ho'
    exact ⟨_, es', ep', hL, r'⟩) hok I.bare
/-- behind a call (or a comprehension's block): the slots of this frame may have changed too, the records at ch may have turned -/
theorem Inv.call {g' : Array GenState} {t' : Nat} {d' : Drawn} {ch : List Addr} (I : Inv X pins σ H s) (u : Un (frs X.stack) ch H H' s.heap h') (hok : HOk X.prog X.w H' h') (hg : AllBare g')
    (hch : ∀ b ∈ ch, (b ∈ X.ex ∨ X.s_0.heap.objs.size ≤ b) ∧ b ≠ X.env.locals ∧ (∀ x c, X.env.cells.lookup x = some c → c ≠ b) ∧ ∀ p ∈ X.pn ++ pins, p.1 ≠ b) :
    Inv X pins σ H' { s with heap := h', gens := g', drawn := d', toks := t' } := by
  obtain ⟨m, ⟨o, es, ep, ho, r⟩, _⟩ := id I.loc
  obtain ⟨sl, hL⟩ := u.any ho I.free fun z => (hch _ z).2.1 rfl
  exact I.step (ch := ch) hch (fun b o hL hb hc e n => u.keep b o e n (fun z => (List.mem_cons.mp (I.stkSub b z)).elim hL hb) hc) (fun b o _ _ hc e n => u.any e n hc) (fun b o hc e n => u.free b o e n hc) (fun b o hc e => u.there b o e hc) u.tups u.frzs u.tbls (fun m' hm => by
    obtain ⟨o', es', ep', ho', r'⟩ := hm
    rw [ho] at ho'; cases ho'
    exact ⟨_, es', ep', hL, r'⟩) hok hg
/-- an untracked record of ours (an iterator) has turned -/
theorem Inv.turned {t' : Nat} {it : Addr} (I : Inv X pins σ H s) (k : ∀ b o, b ≠ it → s.heap.get? b = some o → h'.get? b = some o) (hn : H it = none) (hL : it ≠ X.env.locals)
    (h1 : it ∈ X.ex ∨ X.s_0.heap.objs.size ≤ it) (h2 : ∀ x c, X.env.cells.lookup x = some c → c ≠ it) (h3 : ∀ p ∈ X.pn ++ pins, p.1 ≠ it) : Inv X pins σ H { s with heap := h', toks := t' } := by
  have nit : ∀ b u, H b = some u → b ≠ it := fun b u e z => by rw [z, hn] at e; cases e
  refine I.step (g' := s.gens) (d' := s.drawn) (ch := [it]) (fun b hb => ?_) (fun b o _ _ hc e _ => k b o (fun z => hc (by simp [z])) e) (fun b o _ _ hc e _ => ⟨o.slots, k b o (fun z => hc (by simp [z])) e⟩) (fun _ _ _ _ n => n)
    (fun b o hc e => ⟨o, k b o (fun z => hc (by simp [z])) e⟩) (fun _ _ e => e) (fun _ _ _ e => e) (fun b ps e => ⟨#[], by rw [e]; simp⟩) (fun m hm => ?_) (fun b u e => ?_) I.bare
  · have e : b = it := by simpa using hb
    subst e
    exact ⟨h1, hL, h2, h3⟩
  · obtain ⟨o, es, ep, ho, r⟩ := hm
    exact ⟨o, es, ep, k _ o (Ne.symm hL) ho, r⟩
  · refine (I.hok b u e).stay (fun c v hc q => k c v ?_ q) (fun _ q => q) fun _ _ q => q
    rcases hc with z | z
    · rw [z]; exact nit b u e
    · exact nit c _ z
theorem Inv.tok (I : Inv X pins σ H s) (t : Nat) : Inv X pins σ H { s with toks := t } := I.un (h' := s.heap) (t' := t) Un.refl I.hok
/-- all objects kept -/
theorem Inv.kept {t' : Nat} (I : Inv X pins σ H s) (k : ∀ b u, s.heap.get? b = some u → h'.get? b = some u) : Inv X pins σ H { s with heap := h', toks := t' } := I.un (Un.kept k) (I.hok.kept k)
/-- a new object laid and tracked -/
theorem Inv.laid {a : Addr} {o : HO} {t' : Nat} (I : Inv X pins σ H s) (k : ∀ b u, s.heap.get? b = some u → h'.get? b = some u) (hp : s.heap.objs.size ≤ a) (new : ObjOk X.prog X.w (upd H a o) h' a o) :
    Inv X pins σ (upd H a o) { s with heap := h', toks := t' } := I.un (Un.laid k hp (I.hok.fresh hp)) (I.hok.laid k hp new)
/-- an object written -/
theorem Inv.write {x e : Addr} {o : HO} {t' : Nat} (I : Inv X pins σ H s) (mu : Mut (H x)) (he : e = x ∨ H e = some (.own x)) (k : ∀ b u, b ≠ e → s.heap.get? b = some u → h'.get? b = some u) (heo : ∃ u, h'.get? e = some u)
    (new : ObjOk X.prog X.w (upd H x o) h' x o) : Inv X pins σ (upd H x o) { s with heap := h', toks := t' } := I.un (Un.write mu he k heo) (I.hok.write mu he k heo new)
/-- forgetting slots, pins -/
theorem Inv.weak {σ' : List (Option V)} (I : Inv X pins σ H s) (hl : σ'.length = σ.length) (w : ∀ (i : Nat) v, σ'[i]? = some (some v) → σ[i]? = some (some v)) : Inv X pins σ' H s :=
  ⟨I.ok, I.os, I.bare, I.base, let ⟨m, hn, hl'⟩ := I.loc; ⟨m, hn, fun i x v e1 e2 e3 => hl' i x v e1 (w i v e2) e3⟩, I.cell, I.free, I.freeC, I.pin, I.hok, hl.trans I.len⟩
theorem Inv.pins_of {pins' : List (Addr × Obj)} (I : Inv X pins σ H s) (h : ∀ p ∈ pins', s.heap.get? p.1 = some p.2 ∧ H p.1 = none ∧ p.1 ≠ X.env.locals ∧ p.1 ∉ X.fs ∧ ∀ v, p.2.data ≠ .cell v) : Inv X pins' σ H s :=
  ⟨I.ok, I.os, I.bare, I.base, I.loc, I.cell, I.free, I.freeC, fun p hp => (List.mem_append.mp hp).elim (fun z => I.pin p (List.mem_append_left _ z)) (h p), I.hok, I.len⟩

theorem nodup_ix {N : List Str} (hN : N.Nodup) {i j : Nat} {x : Str} (a : N[i]? = some x) (b : N[j]? = some x) : i = j := by
  obtain ⟨h1, e1⟩ := List.getElem?_eq_some_iff.mp a
  obtain ⟨h2, e2⟩ := List.getElem?_eq_some_iff.mp b
  exact (List.getElem_inj hN).mp (e1.trans e2.symm)

/-- a name is stored; what changed -/
theorem store_ok2 {M : Model} {A : Around} {E : Value → Shared → Prop} {i : Nat} {x : Str} {v : V} {u : Value} {Q : Unit → Shared → Prop} (I : Inv X pins σ H s) (hN : X.N.Nodup) (hi : X.N[i]? = some x) (hx : Loc X.env.scope x) (r : RelV v u)
    (h : ∀ s', Inv X pins (σ.set i (some v)) H s' → (∃ a, Heap.SameBut a s.heap s'.heap ∧ (a = X.env.locals ∨ X.env.cells.lookup x = some a)) → Q () s') (hf : X.fn x = true ∨ X.env.scope.names.lookup x = some .local := by first | exact .inl rfl | exact .inr rfl | assumption) : wpAny M A (storeName X.env x u) Q E s := by
  obtain ⟨m, hn, hl⟩ := id I.loc
  have hcls : (X.env.scope.kind == .class || (X.env.scope.kind == .module && X.env.locals != X.env.globals)) = false := by rw [I.ok.kind]; rfl
  have hiσ : i < σ.length := by rw [I.len]; exact (List.getElem?_eq_some_iff.mp hi).1
  have cne := I.cne
  have tracked : ∀ {a : Addr} {h' : Heap}, (∃ o, s.heap.get? a = some o ∧ H a = none) → Heap.SameBut a s.heap h' → HOk X.prog X.w H h' := fun {a h'} ha hs b ob e => by
    obtain ⟨_, _, hfree⟩ := ha
    refine (I.hok b ob e).stay (fun c w' hc q => (hs.2 c ?_).trans q) (fun _ q => q) fun _ _ q => q
    rintro rfl
    rcases hc with rfl | hc
    · rw [hfree] at e; cases e
    · rw [hfree] at hc; cases hc
  rcases hx with hk | hk
  · refine wpAny_storeName_local hk hn (fun h' hn' hs => ?_) hcls
    obtain ⟨oL, _, _, hoL, _⟩ := id hn
    refine h _ ⟨I.ok, I.os, I.bare, ⟨fun b o e n hb hx => ?_, fun b o e n hb hx => ?_, I.base.free, fun b o e hx => ?_, I.base.tups, I.base.frzs, I.base.tbls⟩, ⟨_, hn', fun j y v' e1 e2 e3 => ?_⟩, fun y c e => ?_, I.free, I.freeC, fun p hp => ?_, tracked ⟨oL, hoL, I.free⟩ hs, by simpa using I.len⟩ ⟨_, hs, .inl rfl⟩
    · exact (hs.2 b (Nat.ne_of_lt (Nat.lt_of_lt_of_le (Heap.lt_size e) I.ok.above))).trans (I.base.keep b o e n hb hx)
    · obtain ⟨sl, e1⟩ := I.base.slot b o e n hb hx
      exact ⟨sl, (hs.2 b (Nat.ne_of_lt (Nat.lt_of_lt_of_le (Heap.lt_size e) I.ok.above))).trans e1⟩
    · obtain ⟨o', e1⟩ := I.base.there b o e hx
      exact ⟨o', (hs.2 b (Nat.ne_of_lt (Nat.lt_of_lt_of_le (Heap.lt_size e) I.ok.above))).trans e1⟩
    · by_cases hj : j = i
      · subst hj
        rw [hi] at e1; cases e1
        rw [List.getElem?_set_self hiσ] at e2
        cases e2
        exact ⟨u, r, .inl ⟨hk, by simp⟩⟩
      · rw [List.getElem?_set_ne (Ne.symm hj)] at e2
        obtain ⟨u', r', q⟩ := hl j y v' e1 e2 e3
        refine ⟨u', r', ?_⟩
        rcases q with ⟨k, e⟩ | ⟨k, c, e, z⟩
        · refine .inl ⟨k, ?_⟩
          have : y ≠ x := fun e => hj (nodup_ix hN e1 (e ▸ hi))
          simp [this, e]
        · exact .inr ⟨k, c, e, z.sameBut hs (cne y c e)⟩
    · obtain ⟨w', z⟩ := I.cell y c e
      exact ⟨w', z.sameBut hs (cne y c e)⟩
    · obtain ⟨e, n, ne, nf, d⟩ := I.pin p hp
      exact ⟨(hs.2 p.1 ne).trans e, n, ne, nf, d⟩
  · have hfn : X.fn x = true := by
      rcases hf with z | z
      · exact z
      · rw [z] at hk; cases hk
    obtain ⟨c, hc⟩ := I.ok.has x (.inl hk)
    obtain ⟨w', z⟩ := I.cell x c hc
    refine wpAny_storeName_cell I.ok.kind hk hc z (fun h' hc' hs => ?_)
    obtain ⟨oc, hoc, hocd⟩ := id z
    refine h { s with heap := h' } ⟨I.ok, I.os, I.bare, ⟨fun b o e n hb hx => ?_, fun b o e n hb hx => ?_, I.base.free, fun b o e hx => ?_, I.base.tups, I.base.frzs, I.base.tbls⟩, ⟨m, hn.sameBut hs (Ne.symm (cne x c hc)), fun j y v' e1 e2 e3 => ?_⟩, fun y c' e => ?_, I.free, I.freeC, fun p hp => ?_, tracked ⟨oc, hoc, I.freeC x c hc⟩ hs, by simpa using I.len⟩ ⟨c, hs, .inr hc⟩
    · exact (hs.2 b (Nat.ne_of_lt (Nat.lt_of_lt_of_le (Heap.lt_size e) (I.ok.cab x c hfn hc)))).trans (I.base.keep b o e n hb hx)
    · obtain ⟨sl, e1⟩ := I.base.slot b o e n hb hx
      exact ⟨sl, (hs.2 b (Nat.ne_of_lt (Nat.lt_of_lt_of_le (Heap.lt_size e) (I.ok.cab x c hfn hc)))).trans e1⟩
    · obtain ⟨o', e1⟩ := I.base.there b o e hx
      exact ⟨o', (hs.2 b (Nat.ne_of_lt (Nat.lt_of_lt_of_le (Heap.lt_size e) (I.ok.cab x c hfn hc)))).trans e1⟩
    · by_cases hj : j = i
      · subst hj
        rw [hi] at e1; cases e1
        rw [List.getElem?_set_self hiσ] at e2
        cases e2
        exact ⟨u, r, .inr ⟨.inl hk, c, hc, hc'⟩⟩
      · rw [List.getElem?_set_ne (Ne.symm hj)] at e2
        obtain ⟨u', r', q⟩ := hl j y v' e1 e2 e3
        refine ⟨u', r', ?_⟩
        rcases q with q | ⟨k, c', e, z'⟩
        · exact .inl q
        · refine .inr ⟨k, c', e, z'.sameBut hs ?_⟩
          rintro rfl
          exact hj (nodup_ix hN e1 (I.ok.inj _ _ _ e hc ▸ hi))
    · by_cases hcc : c' = c
      · subst hcc; exact ⟨_, hc'⟩
      · obtain ⟨w2, z2⟩ := I.cell y c' e
        exact ⟨w2, z2.sameBut hs hcc⟩
    · obtain ⟨e, n, ne, nf, d⟩ := I.pin p hp
      refine ⟨(hs.2 p.1 ?_).trans e, n, ne, nf, d⟩
      intro q
      rw [q, hoc] at e
      have q' : oc = p.2 := Option.some.inj e
      exact d w' (by rw [← q']; exact hocd)
theorem store_ok {M : Model} {A : Around} {E : Value → Shared → Prop} {i : Nat} {x : Str} {v : V} {u : Value} {Q : Unit → Shared → Prop} (I : Inv X pins σ H s) (hN : X.N.Nodup) (hi : X.N[i]? = some x) (hx : Loc X.env.scope x) (r : RelV v u)
    (h : ∀ s', Inv X pins (σ.set i (some v)) H s' → Q () s') (hf : X.fn x = true ∨ X.env.scope.names.lookup x = some .local := by first | exact .inl rfl | exact .inr rfl | assumption) : wpAny M A (storeName X.env x u) Q E s :=
  store_ok2 I hN hi hx r (fun s' I' _ => h s' I') hf
/-- behind a call or a block, the state as it is -/
theorem Inv.call' {s' : Shared} {ch : List Addr} (I : Inv X pins σ H s) (ho : s'.os = s.os) (u : Un (frs X.stack) ch H H' s.heap s'.heap) (hok : HOk X.prog X.w H' s'.heap) (hg : AllBare s'.gens)
    (hch : ∀ b ∈ ch, (b ∈ X.ex ∨ X.s_0.heap.objs.size ≤ b) ∧ b ≠ X.env.locals ∧ (∀ x c, X.env.cells.lookup x = some c → c ≠ b) ∧ ∀ p ∈ X.pn ++ pins, p.1 ≠ b) : Inv X pins σ H' s' := by
  obtain ⟨h', g', d', t', o'⟩ := s'
  have e : o' = s.os := ho
  subst e
  exact I.call (g' := g') (t' := t') (d' := d') u hok hg hch
end

/-- an exception: its class, its own dict's address (where it has one), the abstract heap behind it -/
abbrev XK := Value → Option Addr → Hp → Prop
abbrev St := List (Option V)
abbrev VK := V → Hp → Prop
/-- an expression's reading; a test's; an argument list's -/
abbrev TE := St → Hp → VK → Prop
abbrev TT := St → Hp → (Bool → Hp → Prop) → Prop
abbrev TA := St → Hp → (List V → Hp → Prop) → Prop
/-- what is wanted behind a statement -/
structure Ends where
  nx : St → Hp → Prop
  rt : VK
  bk : St → Hp → Prop := fun _ _ => False
  ct : St → Hp → Prop := fun _ _ => False
abbrev TS := Ends → St → Hp → Prop

def EP (X : Cx) (pins : List (Addr × Obj)) (σ : St) (Q : VK) (u : Value) (s' : Shared) : Prop := ∃ v H', Inv X pins σ H' s' ∧ RelV v u ∧ Q v H'
def TP (X : Cx) (pins : List (Addr × Obj)) (σ : St) (Q : Bool → Hp → Prop) (b : Bool) (s' : Shared) : Prop := ∃ H', Inv X pins σ H' s' ∧ Q b H'
def AP (X : Cx) (pins : List (Addr × Obj)) (σ : St) (Q : List V → Hp → Prop) (us : List Value) (s' : Shared) : Prop := ∃ vs H', Inv X pins σ H' s' ∧ Vals vs us ∧ Q vs H'
def SP (X : Cx) (pins : List (Addr × Obj)) (D : Ends) (f : Flow) (s' : Shared) : Prop :=
  match f with
  | .next => ∃ σ' H', Inv X pins σ' H' s' ∧ D.nx σ' H'
  | .brk => ∃ σ' H', Inv X pins σ' H' s' ∧ D.bk σ' H'
  | .cont => ∃ σ' H', Inv X pins σ' H' s' ∧ D.ct σ' H'
  | .ret u => ∃ v σ' H', Inv X pins σ' H' s' ∧ RelV v u ∧ D.rt v H'

def PE (X : Cx) (e : Expr) (t : TE) : Prop :=
  ∀ (pins : List (Addr × Obj)) (s : Shared) (σ : St) (H : Hp) (Q : VK), Inv X pins σ H s → t σ H Q → wpAny (model X.prog X.w) X.A (eval e X.env) (EP X pins σ Q) X.xe s
def PT (X : Cx) (e : Expr) (t : TT) : Prop :=
  ∀ (pins : List (Addr × Obj)) (s : Shared) (σ : St) (H : Hp) (Q : Bool → Hp → Prop), Inv X pins σ H s → t σ H Q → wpAny (model X.prog X.w) X.A (isTrue e X.env (eval e X.env)) (TP X pins σ Q) X.xe s
/-- a test whatever its 'whole' is (and, or) -/
def PW (X : Cx) (e : Expr) (t : TT) : Prop :=
  ∀ (whole : Sem Value) (pins : List (Addr × Obj)) (s : Shared) (σ : St) (H : Hp) (Q : Bool → Hp → Prop), Inv X pins σ H s → t σ H Q → wpAny (model X.prog X.w) X.A (isTrue e X.env whole) (TP X pins σ Q) X.xe s
theorem PW.pt {X : Cx} {e : Expr} {t : TT} (h : PW X e t) : PT X e t := h _
/-- an argument list (no star), from the left -/
def PA (X : Cx) (es : List Expr) (t : TA) : Prop :=
  ∀ (pos : Pos) (pins : List (Addr × Obj)) (s : Shared) (σ : St) (H : Hp) (Q : List V → Hp → Prop), Inv X pins σ H s → t σ H Q → wpAny (model X.prog X.w) X.A (spliced (backTo pos (starEach es X.env))) (AP X pins σ Q) X.xe s
def PS (X : Cx) (st : Stmt) (t : TS) : Prop :=
  ∀ (pins : List (Addr × Obj)) (s : Shared) (σ : St) (H : Hp) (D : Ends), Inv X pins σ H s → t D σ H → wpAny (model X.prog X.w) X.A (exec st X.env) (SP X pins D) X.xe s
def PSs (X : Cx) (st : List Stmt) (t : TS) : Prop :=
  ∀ (pins : List (Addr × Obj)) (s : Shared) (σ : St) (H : Hp) (D : Ends), Inv X pins σ H s → t D σ H → wpAny (model X.prog X.w) X.A (execs st X.env) (SP X pins D) X.xe s
/-- weaken the end -/
theorem thn {α : Type} {t : Sem α} {Q Q' : α → Shared → Prop} {M : Model} {A : Around} {E : Value → Shared → Prop} {s : Shared} (h : wpAny M A t Q E s) (hQ : ∀ a s, Q a s → Q' a s) : wpAny M A t Q' E s := wpAny_mono h hQ fun _ _ x => x
end L2

namespace L2
open PySem PySem.Spec PyProof.Rows
section
variable {X : Cx}

def tVar (i : Nat) : TE := fun σ H Q => ∃ v, σ[i]? = some (some v) ∧ Q v H
def tC (v : V) : TE := fun _ H Q => Q v H
theorem pe_var {i : Nat} {x : Str} {pos : Pos} (hN : X.N[i]? = some x) (hv : Vis X.env.scope x) (hd : (x == ("__debug__" : Str)) = false := by decide) (hcd : (x == ("__classdict__" : Str)) = false := by decide) : PE X (.Name x pos) (tVar i) := by
  intro pins s σ H Q I h
  obtain ⟨v, e, h⟩ := h
  obtain ⟨m, hn, hl⟩ := I.loc
  obtain ⟨u, r, l⟩ := hl i x v hN e hv
  have fin : EP X pins σ Q u s := ⟨v, H, I, r, h⟩
  rcases l with ⟨hk, hm⟩ | ⟨hk, c, hc, hcell⟩
  · exact wpAny_Name (wpAny_loadName_local I.ok.kind hk hn hm fin) hd
  · rcases hk with hk | hk
    · exact wpAny_Name (wpAny_loadName_cell I.ok.kind hk hc hcell fin) hd
    · exact wpAny_Name (wpAny_loadName_free I.ok.kind hk hc hcell fin hcd) hd
theorem pe_int {i j pos} : PE X (.Constant (.int i) j pos) (tC (.int i)) := fun _ _ _ H _ I h => wpAny_Constant_int ⟨.int i, H, I.tok _, ⟨_, rfl⟩, h⟩
theorem pe_bl {b j pos} : PE X (.Constant (.bool b) j pos) (tC (.bl b)) := fun _ _ _ H _ I h => Constant_bool ⟨.bl b, H, I, rfl, h⟩
theorem pe_non {j pos} : PE X (.Constant .none j pos) (tC .non) := fun _ _ _ H _ I h => Constant_none ⟨.non, H, I, rfl, h⟩
theorem pe_str {x j pos} : PE X (.Constant (.str x) j pos) (tC (.str x)) := fun _ _ _ H _ I h => Calls.Constant_str ⟨.str x, H, I.tok _, ⟨_, rfl⟩, h⟩

/-- a global name of the def -/
def Gl (X : Cx) (x : Str) : Prop := X.env.kindOf x = some .globalImplicit
theorem ld_glob {E : Value → Shared → Prop} {pins : List (Addr × Obj)} {s : Shared} {σ : St} {H : Hp} {x : Str} {u : Value} {pos : Pos} {Q : Value → Shared → Prop} (I : Inv X pins σ H s) (hg : Gl X x) (hm : X.mg x = some u) (h : Q u s)
    (hd : (x == ("__debug__" : Str)) = false := by decide) : wpAny (model X.prog X.w) X.A (eval (.Name x pos) X.env) Q E s :=
  Calls.Name_function_global I.ok.kind hg (Calls.loadGlobal_global (by rw [I.ok.glob]; exact I.mod.glob.keeps I.bk) hm h) hd
theorem ld_blt {E : Value → Shared → Prop} {pins : List (Addr × Obj)} {s : Shared} {σ : St} {H : Hp} {x : Str} {u : Value} {pos : Pos} {Q : Value → Shared → Prop} (I : Inv X pins σ H s) (hg : Gl X x) (hm : X.mg x = none) (hv : bootBuiltins x = some u) (h : Q u s)
    (hn : x ≠ "__name__" := by decide) (hd : (x == ("__debug__" : Str)) = false := by decide) : wpAny (model X.prog X.w) X.A (eval (.Name x pos) X.env) Q E s := by
  obtain ⟨mb, h1, h2⟩ := I.mod.blt
  exact Calls.Name_function_global I.ok.kind hg (Calls.loadGlobal_builtin (by rw [I.ok.glob]; exact I.mod.glob.keeps I.bk) hm (by rw [I.ok.blt]; exact h1.keeps I.bk) ((h2 x hn).trans hv) h) hd
/-- a module's constant, a class, a function, as a value -/
theorem pe_glob {x : Str} {v : V} {u : Value} {pos : Pos} (hg : Gl X x) (hm : X.mg x = some u) (r : RelV v u) (hd : (x == ("__debug__" : Str)) = false := by decide) : PE X (.Name x pos) (tC v) :=
  fun _ _ _ H _ I h => ld_glob I hg hm ⟨v, H, I, r, h⟩ hd
variable {a b : Expr} {ta tb : TE} {pos : Pos}
/-- a comparison as a value, as a test -/
def tB (t : TE) : TT := fun σ H Q => t σ H fun x H1 => ∃ c, x = .bl c ∧ Q c H1
/-- an expression whose value is a bool, as a test -/
theorem pt_val {e : Expr} {t : TE} (h : PE X e t) (he : ∀ whole, isTrue e X.env whole = (do let v ← whole; standAt e.pos; holding [v] (truthy v)) := by intro _; rfl) : PT X e (tB t) := by
  intro pins s σ H Q I hw
  refine isTrue_plain (thn (h pins s σ H _ I hw) fun v s1 ⟨x, H1, I1, r1, q1⟩ => ?_) (he _)
  obtain ⟨d, rfl, q⟩ := q1
  cases r1
  exact wpAny_truthy_bool ⟨H1, I1, q⟩

variable {tA tB' : TT} {rest : List Expr}
def tAnd (t u : TT) : TT := fun σ H Q => t σ H fun c H1 => if c = true then u σ H1 Q else Q false H1
def tOr (t u : TT) : TT := fun σ H Q => t σ H fun c H1 => if c = true then Q true H1 else u σ H1 Q
def tNot (t : TT) : TT := fun σ H Q => t σ H fun c H1 => Q (!c) H1
theorem pw_and1 (ha : PT X a tA) : PW X (.BoolOp .And [a] pos) tA := by
  intro wh pins s σ H Q I h
  refine isTrue_and (thn (ha pins s σ H Q I h) fun c s1 e => ?_)
  cases c with
  | true => exact isTrue_and_nil e
  | false => exact e
theorem pw_or1 (ha : PT X a tA) : PW X (.BoolOp .Or [a] pos) tA := by
  intro wh pins s σ H Q I h
  refine isTrue_or (thn (ha pins s σ H Q I h) fun c s1 e => ?_)
  cases c with
  | false => exact isTrue_or_nil e
  | true => exact e
theorem pw_and (ha : PT X a tA) (hb : PW X (.BoolOp .And (b :: rest) pos) tB') : PW X (.BoolOp .And (a :: b :: rest) pos) (tAnd tA tB') := by
  intro wh pins s σ H Q I h
  refine isTrue_and (thn (ha pins s σ H _ I h) fun c s1 ⟨H1, I1, q1⟩ => ?_)
  cases c with
  | true => exact hb wh pins s1 σ H1 Q I1 q1
  | false => exact ⟨H1, I1, q1⟩
theorem pw_or (ha : PT X a tA) (hb : PW X (.BoolOp .Or (b :: rest) pos) tB') : PW X (.BoolOp .Or (a :: b :: rest) pos) (tOr tA tB') := by
  intro wh pins s σ H Q I h
  refine isTrue_or (thn (ha pins s σ H _ I h) fun c s1 ⟨H1, I1, q1⟩ => ?_)
  cases c with
  | true => exact ⟨H1, I1, q1⟩
  | false => exact hb wh pins s1 σ H1 Q I1 q1
theorem pt_not (ha : PT X a tA) : PT X (.UnaryOp .Not a pos) (tNot tA) := by
  intro pins s σ H Q I h
  exact isTrue_not (ha pins s σ H (fun c H1 => Q (!c) H1) I h)
def tOrV (ta tb : TE) : TE := fun σ H Q => ta σ H fun x H1 => ∃ c, x = .bl c ∧ if c = true then Q (.bl true) H1 else tb σ H1 Q
theorem pe_one {op} {t : TE} (h : PE X a t) : PE X (.BoolOp op [a] pos) t := fun pins s σ H Q I hw => BoolOp_one (h pins s σ H Q I hw)
theorem pe_or (ha : PE X a ta) (hb : PE X (.BoolOp .Or (b :: rest) pos) tb) : PE X (.BoolOp .Or (a :: b :: rest) pos) (tOrV ta tb) := by
  intro pins s σ H Q I h
  refine BoolOp_or (thn (ha pins s σ H _ I h) fun v s1 ⟨x, H1, I1, r1, q1⟩ => ?_)
  obtain ⟨c, rfl, q1⟩ := q1
  cases r1
  refine wpAny_truthy_bool ?_
  cases c with
  | false => exact hb pins s1 σ H1 Q I1 q1
  | true => exact ⟨.bl true, H1, I1, rfl, q1⟩
/-- a if t else b -/
def tIf (t : TT) (ta tb : TE) : TE := fun σ H Q => t σ H fun c H1 => if c = true then ta σ H1 Q else tb σ H1 Q
theorem pe_ifExp {c : Expr} (hc : PT X c tA) (ha : PE X a ta) (hb : PE X b tb) : PE X (.IfExp c a b pos) (tIf tA ta tb) := by
  intro pins s σ H Q I h
  refine wpAny_IfExp (thn (hc pins s σ H _ I h) fun d s1 ⟨H1, I1, q1⟩ => ?_)
  cases d with
  | true => exact ha pins s1 σ H1 Q I1 q1
  | false => exact hb pins s1 σ H1 Q I1 q1
end
end L2

namespace L2
open PySem PySem.Spec PyProof.Rows

def SqL (K : PySem.W.Frag) (H : Hp) (a : Addr) (xs : List V) : Prop :=
  Rd H a (.lst xs) ∨
    ∃ (o : Obj) (its : Array Value) (n : Nat), K.lookup a = some o ∧ o.cls = .type "list" ∧ o.dict = none ∧ o.data = .seq its n ∧ its.size ≤ sizeLine ∧ Vals xs its.toList
def SqT (K : PySem.W.Frag) (H : Hp) (a : Addr) (xs : List V) : Prop :=
  Rd H a (.tup xs) ∨
    ∃ (o : Obj) (its : Array Value) (n : Nat), K.lookup a = some o ∧ o.cls = .type "tuple" ∧ o.data = .seq its n ∧ its.size ≤ sizeLine ∧ Vals xs its.toList
def absV : Value → Option V
  | .none => some .non
  | .bool b => some (.bl b)
  | .int i _ => some (.int i)
  | .str x _ => some (.str x)
  | .bytes b _ => some (.byt b)
  | .float b _ => some (.flt b)
  | .ref a => some (.ref a)
  | .type n => some (.ty n)
  | _ => none
theorem RelV.abs {x : V} {u : Value} (r : RelV x u) : absV u = some x := by
  cases x with
  | non => cases r; rfl
  | bl _ => cases r; rfl
  | int _ => obtain ⟨t, rfl⟩ := r; rfl
  | str _ => obtain ⟨t, rfl⟩ := r; rfl
  | byt _ => obtain ⟨t, rfl⟩ := r; rfl
  | flt _ => obtain ⟨t, rfl⟩ := r; rfl
  | ref _ => cases r; rfl
  | ty _ => cases r; rfl
theorem RelV.inj {x y : V} {u : Value} (r : RelV x u) (q : RelV y u) : x = y := Option.some.inj (r.abs.symm.trans q.abs)
theorem Vals.inj : ∀ {xs ys : List V} {us : List Value}, Vals xs us → Vals ys us → xs = ys
  | _, _, _, .nil, .nil => rfl
  | _, _, _, .cons r t, .cons r' t' => by rw [r.inj r', Vals.inj t t']
section
variable {X : Cx} {pins : List (Addr × Obj)} {σ : St} {H : Hp} {s : Shared} {a : Addr} {xs ys : List V}
theorem SqL.of {K : PySem.W.Frag} (h : H a = some (.lst xs)) : SqL K H a xs := .inl (.inl h)
theorem SqT.of {K : PySem.W.Frag} (h : H a = some (.tup xs)) : SqT K H a xs := .inl (.inl h)
theorem Inv.list (I : Inv X pins σ H s) (h : SqL X.K H a xs) : ∃ its : List Value, Vals xs its ∧ PlainL s.heap a its.toArray ∧ xs.length ≤ sizeLine := by
  rcases h with h | ⟨o, its, n, hk, hc, hd, hs, hz, r⟩
  · obtain ⟨z, its, n, r, e⟩ := h.ok I.hok
    exact ⟨its, r, ⟨_, n, e, rfl, rfl, rfl⟩, z⟩
  · refine ⟨its.toList, r, ⟨o, n, I.kIn a o hk, hc, hd, by simpa using hs⟩, ?_⟩
    have e := r.length
    simp only [Array.length_toList] at e
    omega
theorem Inv.tuple (I : Inv X pins σ H s) (h : SqT X.K H a xs) : ∃ its : List Value, Vals xs its ∧ IsTup s.heap a its.toArray ∧ xs.length ≤ sizeLine := by
  rcases h with h | ⟨o, its, n, hk, hc, hs, hz, r⟩
  · obtain ⟨z, its, r, p⟩ := h.ok I.hok
    exact ⟨its, r, p, z⟩
  · refine ⟨its.toList, r, ⟨o, I.kIn a o hk, hc, n, by simpa using hs⟩, ?_⟩
    have e := r.length
    simp only [Array.length_toList] at e
    omega
theorem Inv.list_inj (I : Inv X pins σ H s) (h : SqL X.K H a xs) (h' : SqL X.K H a ys) : xs = ys := by
  obtain ⟨its, r, ⟨o, n, e, _, _, d⟩, _⟩ := I.list h
  obtain ⟨its', r', ⟨o', n', e', _, _, d'⟩, _⟩ := I.list h'
  rw [e] at e'; cases e'
  rw [d] at d'
  injection d' with d1 _
  have : its = its' := by simpa using congrArg Array.toList d1
  subst this
  exact r.inj r'
theorem Inv.tuple_inj (I : Inv X pins σ H s) (h : SqT X.K H a xs) (h' : SqT X.K H a ys) : xs = ys := by
  obtain ⟨its, r, ⟨o, e, _, n, d⟩, _⟩ := I.tuple h
  obtain ⟨its', r', ⟨o', e', _, n', d'⟩, _⟩ := I.tuple h'
  rw [e] at e'; cases e'
  rw [d] at d'
  injection d' with d1 _
  have : its = its' := by simpa using congrArg Array.toList d1
  subst this
  exact r.inj r'
end

abbrev Cx.wish (X : Cx) (E : Value → Shared → Prop) : Cx := { X with xe := E }
/-- no exception leaves -/
abbrev Cx.nox (X : Cx) : Cx := X.wish fun _ _ => False
theorem Cx.Ok.wish {X : Cx} (ok : X.Ok) (E : Value → Shared → Prop) : (X.wish E).Ok :=
  ⟨ok.mod, ok.kind, ok.glob, ok.blt, ok.above, ok.inj, ok.has, ok.cab, ok.hd, ok.frames, ok.stk, ok.exf, ok.bs, ok.bsz, ok.noex, ok.exfs, ok.funs, ok.frf⟩
theorem Cx.Ok.unwish {X : Cx} {E : Value → Shared → Prop} (ok : (X.wish E).Ok) : X.Ok :=
  ⟨ok.mod, ok.kind, ok.glob, ok.blt, ok.above, ok.inj, ok.has, ok.cab, ok.hd, ok.frames, ok.stk, ok.exf, ok.bs, ok.bsz, ok.noex, ok.exfs, ok.funs, ok.frf⟩
section
variable {X : Cx} {pins : List (Addr × Obj)} {σ : St} {H : Hp} {s : Shared} {E : Value → Shared → Prop}
theorem Inv.wish (I : Inv X pins σ H s) (E : Value → Shared → Prop) : Inv (X.wish E) pins σ H s := ⟨I.ok.wish E, I.os, I.bare, I.base, I.loc, I.cell, I.free, I.freeC, I.pin, I.hok, I.len⟩
theorem Inv.unwish (I : Inv (X.wish E) pins σ H s) : Inv X pins σ H s := ⟨I.ok.unwish, I.os, I.bare, I.base, I.loc, I.cell, I.free, I.freeC, I.pin, I.hok, I.len⟩
theorem SP.unwish {D : Ends} {f : Flow} {s' : Shared} (h : SP (X.wish E) pins D f s') : SP X pins D f s' := by
  cases f with
  | next => obtain ⟨σ', H', I, q⟩ := h; exact ⟨σ', H', I.unwish, q⟩
  | brk => obtain ⟨σ', H', I, q⟩ := h; exact ⟨σ', H', I.unwish, q⟩
  | cont => obtain ⟨σ', H', I, q⟩ := h; exact ⟨σ', H', I.unwish, q⟩
  | ret u => obtain ⟨v, σ', H', I, r, q⟩ := h; exact ⟨v, σ', H', I.unwish, r, q⟩
theorem PSs.nox {st : List Stmt} {t : TS} (h : PSs X.nox st t) : PSs X st t := fun pins s σ H D I hw =>
  wpAny_mono (h pins s σ H D (I.wish _) hw) (fun _ _ q => q.unwish) fun _ _ z => False.elim z
end

section
variable {X : Cx} {st : Stmt} {rest : List Stmt} {t u : TS} {e : Expr} {te : TE} {pos : Pos}
def tNext : TS := fun D σ H => D.nx σ H
def tSeq (t u : TS) : TS := fun D σ H => t { D with nx := u D } σ H
theorem pss_nil : PSs X [] tNext := fun _ _ σ H _ I h => wpAny_execs_nil ⟨σ, H, I, h⟩
theorem pss_cons (h1 : PS X st t) (h2 : PSs X rest u) : PSs X (st :: rest) (tSeq t u) := by
  intro pins s σ H D I h
  refine wpAny_execs_cons (thn (h1 pins s σ H { D with nx := u D } I h) fun f s1 q => ?_)
  cases f with
  | next =>
    obtain ⟨σ', H', I', q⟩ := q
    exact h2 pins s1 σ' H' D I' q
  | ret v => exact q
  | brk => exact q
  | cont => exact q
theorem pss_one (h1 : PS X st t) : PSs X [st] t := by
  intro pins s σ H D I h
  refine wpAny_execs_cons (thn (h1 pins s σ H D I h) fun f s1 q => ?_)
  cases f with
  | next => exact wpAny_execs_nil q
  | ret v => exact q
  | brk => exact q
  | cont => exact q
/-- in a def's body nothing is shown -/
theorem Inv.quiet {pins : List (Addr × Obj)} {σ : St} {H : Hp} {s : Shared} (I : Inv X pins σ H s) : interactive X.env = false := by simp [interactive, I.ok.kind]
/-- an expression whose value is dropped -/
def tDrop (te : TE) : TS := fun D σ H => te σ H fun _ H1 => D.nx σ H1
theorem ps_expr (he : PE X e te) (hs : swapsWith e none pos.line X.env = pure false := by rfl) : PS X (.Expr e pos) (tDrop te) := by
  intro pins s σ H D I h
  exact wpAny_Expr_any (thn (he pins s σ H _ I h) fun v s1 ⟨x, H1, I1, r1, q1⟩ => ⟨σ, H1, I1, q1⟩) I.quiet hs
def tRet (te : TE) : TS := fun D σ H => te σ H D.rt
theorem ps_ret (he : PE X e te) : PS X (.Return (some e) pos) (tRet te) := by
  intro pins s σ H D I h
  exact wpAny_Return_some (thn (he pins s σ H _ I h) fun v s1 ⟨x, H1, I1, r1, q1⟩ => ⟨x, σ, H1, I1, r1, q1⟩)
def tRetN : TS := fun D _ H => D.rt .non H
theorem ps_retN : PS X (.Return none pos) tRetN := fun _ _ σ H _ I h => wpAny_Return_none ⟨.non, σ, H, I, rfl, h⟩
def tIfS (c : TT) (t u : TS) : TS := fun D σ H => c σ H fun b H1 => if b = true then t D σ H1 else u D σ H1
theorem ps_if {c : Expr} {a b : List Stmt} {tc : TT} (hc : PT X c tc) (ha : PSs X a t) (hb : PSs X b u) : PS X (.If c a b pos) (tIfS tc t u) := by
  intro pins s σ H D I h
  refine wpAny_If (thn (hc pins s σ H _ I h) fun d s1 ⟨H1, I1, q1⟩ => ?_)
  cases d with
  | true => exact ha pins s1 σ H1 D I1 q1
  | false => exact hb pins s1 σ H1 D I1 q1
end

abbrev TG := V → St → Hp → (St → Hp → Prop) → Prop
abbrev TGs := List V → St → Hp → (St → Hp → Prop) → Prop
def PG (X : Cx) (target : Expr) (t : TG) : Prop :=
  ∀ (pins : List (Addr × Obj)) (s : Shared) (σ : St) (H : Hp) (v : V) (u : Value) (Q : St → Hp → Prop), Inv X pins σ H s → RelV v u → t v σ H Q →
    wpAny (model X.prog X.w) X.A (assign target X.env u) (fun _ s' => ∃ σ' H', Inv X pins σ' H' s' ∧ Q σ' H') X.xe s
/-- several targets, one after another -/
def PGs (X : Cx) (ts : List Expr) (t : TGs) : Prop :=
  ∀ (pins : List (Addr × Obj)) (s : Shared) (σ : St) (H : Hp) (vs : List V) (us : List Value) (Q : St → Hp → Prop), Inv X pins σ H s → Vals vs us → t vs σ H Q →
    wpAny (model X.prog X.w) X.A (assignInOrder ((assignEach ts X.env).map (·.2)) us) (fun _ s' => ∃ σ' H', Inv X pins σ' H' s' ∧ Q σ' H') X.xe s
/-- o[i] = v, by values -/
abbrev TSet := V → V → V → Hp → (Hp → Prop) → Prop
def PSet (X : Cx) (t : TSet) : Prop :=
  ∀ (pins : List (Addr × Obj)) (s : Shared) (σ : St) (H : Hp) (o i v : V) (ov iv u : Value) (Q : Hp → Prop), Inv X pins σ H s → RelV o ov → RelV i iv → RelV v u → t o i v H Q →
    wpAny (model X.prog X.w) X.A (setItem ov iv u) (fun _ s' => ∃ H', Inv X pins σ H' s' ∧ Q H') X.xe s
/-- a op= b, by values -/
abbrev TIp := V → V → Hp → VK → Prop
def PIp (X : Cx) (op : Operator) (t : TIp) : Prop :=
  ∀ (pins : List (Addr × Obj)) (s : Shared) (σ : St) (H : Hp) (x y : V) (v u : Value) (Q : VK), Inv X pins σ H s → RelV x v → RelV y u → t x y H Q →
    wpAny (model X.prog X.w) X.A (inplaceOp op v u) (EP X pins σ Q) X.xe s
section
variable {X : Cx} {pos : Pos}
def gName (i : Nat) : TG := fun v σ H Q => Q (σ.set i (some v)) H
theorem pg_name {i : Nat} {x : Str} (hN : X.N.Nodup) (hi : X.N[i]? = some x) (hx : Loc X.env.scope x) (hf : X.fn x = true ∨ X.env.scope.names.lookup x = some .local := by first | exact .inl rfl | exact .inr rfl | assumption) : PG X (.Name x pos) (gName i) := by
  intro pins s σ H v u Q I r h
  exact wpAny_assign_Name (store_ok I hN hi hx r (fun s' I' => ⟨_, H, I', h⟩) hf)
def gNil : TGs := fun vs σ H Q => vs = [] ∧ Q σ H
def gCons (t : TG) (u : TGs) : TGs := fun vs σ H Q => ∃ v r, vs = v :: r ∧ t v σ H fun σ' H' => u r σ' H' Q
theorem pgs_nil : PGs X [] gNil := by
  intro pins s σ H vs us Q I r h
  obtain ⟨e, h⟩ := h
  subst e
  cases r
  exact assignInOrder_nil ⟨σ, H, I, h⟩
theorem pgs_cons {e : Expr} {es : List Expr} {t : TG} {u : TGs} (h1 : PG X e t) (h2 : PGs X es u)
    (hs : (assignEach (e :: es) X.env).map (·.2) = assign e X.env :: (assignEach es X.env).map (·.2) := by rfl) : PGs X (e :: es) (gCons t u) := by
  intro pins s σ H vs us Q I r h
  obtain ⟨v, vr, e1, h⟩ := h
  subst e1
  cases r with
  | cons r rr =>
    rw [hs]
    refine assignInOrder_cons (thn (h1 pins s σ H _ _ _ I r h) fun _ s1 ⟨σ1, H1, I1, q1⟩ => ?_)
    exact h2 pins s1 σ1 H1 _ _ Q I1 rr q1
/-- (a, b, ..) = a tuple of that length -/
def gTup (K : PySem.W.Frag) (n : Nat) (t : TGs) : TG := fun v σ H Q => ∃ a xs, v = .ref a ∧ SqT K H a xs ∧ xs.length = n ∧ t xs σ H Q
theorem pg_tup {es : List Expr} {k : Nat} {t : TGs} {n : Nat} (hc : X.calm = true) (h : PGs X es t)
    (hn : (assignEach es X.env).length = n := by rfl) (hst : (assignEach es X.env).findIdx? (·.1) = none := by rfl) : PG X (.Tuple es k pos) (gTup X.K n t) := by
  intro pins s σ H v u Q I r hw
  obtain ⟨a, xs, e1, hq, hl, hw⟩ := hw
  subst e1
  cases r
  obtain ⟨its, rv, ht, hz⟩ := I.tuple hq
  refine assign_Tuple_tuple (I.ok.hd hc) ht (by simp [hn, ← hl, rv.length]) hst fun h' hx => ?_
  have I1 : Inv X pins σ H { s with heap := h' } := I.kept (t' := s.toks) fun b o e => hx b o (Nat.ne_of_lt (Heap.lt_size e)) e
  exact h pins _ σ H xs _ Q I1 (by simpa using rv) hw
/-- o[i] = .. -/
def gSub (to ti : TE) (t : TSet) : TG := fun v σ H Q => to σ H fun o H1 => ti σ H1 fun i H2 => t o i v H2 fun H3 => Q σ H3
theorem pg_sub {o i : Expr} {to ti : TE} {t : TSet} (ho : PE X o to) (hi : PE X i ti) (hs : PSet X t)
    (ha : ∀ v, assign (.Subscript o i pos) X.env v = (do
      let ov ← holding [v] (eval o X.env)
      let iv ← holding [v, ov] (eval i X.env)
      standAt pos
      holding [v, ov, iv] (setItem ov iv v)
      release [v, ov, iv] []) := by intro _; rfl) : PG X (.Subscript o i pos) (gSub to ti t) := by
  intro pins s σ H v u Q I r h
  rw [ha]
  refine wpAny_bind (wpAny_holding (thn (ho pins s σ H _ I h) fun ov s1 ⟨x, H1, I1, r1, q1⟩ => ?_))
  refine wpAny_bind (wpAny_holding (thn (hi pins s1 σ H1 _ I1 q1) fun iv s2 ⟨y, H2, I2, r2, q2⟩ => ?_))
  refine wpAny_bind (wpAny_standAt (wpAny_bind (wpAny_holding (thn (hs pins s2 σ H2 x y v ov iv u _ I2 r1 r2 r q2) fun _ s3 ⟨H3, I3, q3⟩ => ?_))))
  exact wpAny_release ⟨σ, H3, I3, q3⟩
/-- target = value -/
def tAsg (te : TE) (g : TG) : TS := fun D σ H => te σ H fun x H1 => g x σ H1 D.nx
theorem ps_asg {tg e : Expr} {te : TE} {g : TG} (he : PE X e te) (hg : PG X tg g) (hs : swapsWithSole [tg] e pos.line X.env = pure false := by rfl) (hw : swappedStores [tg] e X.env = pure none := by rfl)
    (h1 : (assignEach [tg] X.env).map (·.2) = [assign tg X.env] := by rfl) : PS X (.Assign [tg] e pos) (tAsg te g) := by
  intro pins s σ H D I h
  refine wpAny_Assign_stores (thn (he pins s σ H _ I h) fun v s1 ⟨x, H1, I1, r1, q1⟩ => ?_) hs hw
  rw [h1]
  exact thn (hg pins s1 σ H1 x v _ I1 r1 q1) fun _ s2 q => q
/-- name = value -/
theorem ps_set {i : Nat} {x : Str} {e : Expr} {te : TE} {pos' : Pos} (hN : X.N.Nodup) (hi : X.N[i]? = some x) (hx : Loc X.env.scope x) (he : PE X e te) (hs : swapsWith e (some (.Name x pos')) pos.line X.env = pure false := by rfl) (hf : X.fn x = true ∨ X.env.scope.names.lookup x = some .local := by first | exact .inl rfl | exact .inr rfl | assumption) :
    PS X (.Assign [.Name x pos'] e pos) (tAsg te (gName i)) := by
  intro pins s σ H D I h
  refine wpAny_Assign_Name (thn (he pins s σ H _ I h) fun v s1 ⟨y, H1, I1, r1, q1⟩ => ?_) hs
  exact store_ok I1 hN hi hx r1 (fun s2 I2 => ⟨_, H1, I2, q1⟩) hf
/-- name op= e -/
def tAug (i : Nat) (te : TE) (ti : TIp) : TS := fun D σ H => ∃ x, σ[i]? = some (some x) ∧ te σ H fun y H1 => ti x y H1 fun z H2 => D.nx (σ.set i (some z)) H2
theorem ps_aug {i : Nat} {x : Str} {e : Expr} {te : TE} {op : Operator} {ti : TIp} {pos' : Pos} (hN : X.N.Nodup) (hi : X.N[i]? = some x) (hx : Loc X.env.scope x) (he : PE X e te) (ho : PIp X op ti) (hf : X.fn x = true ∨ X.env.scope.names.lookup x = some .local := by first | exact .inl rfl | exact .inr rfl | assumption) :
    PS X (.AugAssign (.Name x pos') op e pos) (tAug i te ti) := by
  intro pins s σ H D I h
  obtain ⟨v, e1, h⟩ := h
  obtain ⟨m, hn, hl⟩ := I.loc
  have vis : Vis X.env.scope x := by rcases hx with k | k; exact .inl k; exact .inr (.inl k)
  obtain ⟨u, r, l⟩ := hl i x v hi e1 vis
  refine wpAny_AugAssign_Name ?_
  have go : wpAny (model X.prog X.w) X.A (eval e X.env) (fun w s₂ => wpAny (model X.prog X.w) X.A (inplaceOp op u w) (fun r s₃ => wpAny (model X.prog X.w) X.A (storeName X.env x r) (fun _ => SP X pins D .next) X.xe s₃) X.xe s₂) X.xe s := by
    refine thn (he pins s σ H _ I h) fun w s1 ⟨y, H1, I1, r1, q1⟩ => ?_
    refine thn (ho pins s1 σ H1 v y u w _ I1 r r1 q1) fun z s2 ⟨zv, H2, I2, r2, q2⟩ => ?_
    exact store_ok I2 hN hi hx r2 (fun s3 I3 => ⟨_, H2, I3, q2⟩) hf
  rcases l with ⟨hk, hm⟩ | ⟨hk, c, hc, hcell⟩
  · exact wpAny_loadName_local I.ok.kind hk hn hm go
  · rcases hk with hk | hk
    · exact wpAny_loadName_cell I.ok.kind hk hc hcell go
    · rcases hx with k | k
      · have : X.env.scope.names.lookup x = some .free := hk
        rw [k] at this; cases this
      · have : X.env.scope.names.lookup x = some .free := hk
        rw [k] at this; cases this
/-- ints -/
def ipI (f : Int → Int → Int) : TIp := fun x y H Q => ∃ i j, x = .int i ∧ y = .int j ∧ Q (.int (f i j)) H
theorem ip_add : PIp X .Add (ipI fun i j => i + j) := by
  intro pins s σ H x y v u Q I r1 r2 h
  obtain ⟨i, j, e1, e2, q⟩ := h
  subst e1; subst e2
  obtain ⟨t, rfl⟩ := r1
  obtain ⟨t', rfl⟩ := r2
  exact iadd_int ⟨.int _, H, I.tok _, ⟨_, rfl⟩, q⟩
end

section
variable {X : Cx} {pos : Pos}
/-- the invariant W with its measure -/
def tWhile (c : TT) (tb : TS) : TS := fun D σ H => ∃ W : Nat → St → Hp → Prop, (∃ m, W m σ H) ∧ ∀ m σ H, W m σ H →
  c σ H fun b H1 => if b = true then ∃ N : St → Hp → Prop, (∀ σ' H', N σ' H' → ∃ m', m' < m ∧ W m' σ' H') ∧ tb { D with nx := N, ct := N, bk := D.nx } σ H1 else D.nx σ H1
theorem ps_while {c : Expr} {body : List Stmt} {tc : TT} {tb : TS} (hp : PassesOwn (model X.prog X.w) X.A X.env X.xe) (hc : PT X c tc) (hb : PSs X body tb) : PS X (.While c body [] pos) (tWhile tc tb) := by
  intro pins s σ H D I h
  obtain ⟨W, ⟨m0, w0⟩, turn⟩ := h
  refine wpAny_While (codeAny_whileLoop (fun n s' => ∃ σ' H', Inv X pins σ' H' s' ∧ W n σ' H') ?_ m0 ⟨σ, H, I, w0⟩)
  rintro n s1 ⟨σ1, H1, I1, w1⟩
  refine wpAny_passesOwn hp (thn (hc pins s1 σ1 H1 _ I1 (turn n σ1 H1 w1)) fun b s2 ⟨H2, I2, q2⟩ => ?_)
  cases b with
  | true =>
    obtain ⟨N, hN, q2⟩ := q2
    rw [if_pos rfl]
    refine wpAny_passesOwn hp (thn (hb pins s2 σ1 H2 _ I2 q2) fun f s3 q3 => ?_)
    cases f with
    | next =>
      obtain ⟨σ3, H3, I3, n3⟩ := q3
      obtain ⟨m', hm, w3⟩ := hN σ3 H3 n3
      exact ⟨m', hm, σ3, H3, I3, w3⟩
    | cont =>
      obtain ⟨σ3, H3, I3, n3⟩ := q3
      obtain ⟨m', hm, w3⟩ := hN σ3 H3 n3
      exact ⟨m', hm, σ3, H3, I3, w3⟩
    | brk => exact q3
    | ret v => exact q3
  | false =>
    rw [if_neg Bool.false_ne_true]
    exact wpAny_execs_nil ⟨σ1, H2, I2, q2⟩
end

/-- at turn i: it yields x (the heap may grow), or it stops -/
structure It where
  go : Nat → Hp → Prop
  yld : Nat → Hp → V → Hp → Prop
  stop : Nat → Hp → Prop
/-- the iterator's own objects may turn: they are not the frame's, not pinned, younger than the entry (or a comprehension's own) -/
def FpOk (X : Cx) (pins : List (Addr × Obj)) (H : Hp) (b : Addr) : Prop :=
  H b = none ∧ b ≠ X.env.locals ∧ b ∉ X.fs ∧ (b ∈ X.ex ∨ X.s_0.heap.objs.size ≤ b) ∧ (∀ x c, X.env.cells.lookup x = some c → c ≠ b) ∧ ∀ p ∈ X.pn ++ pins, p.1 ≠ b
theorem Inv.fpOk {X : Cx} {pins : List (Addr × Obj)} {σ : St} {H H' : Hp} {s : Shared} {b : Addr} (I : Inv X pins σ H s) (hb : s.heap.objs.size ≤ b) (hn : H' b = none) : FpOk X pins H' b := by
  refine ⟨hn, Nat.ne_of_gt (Nat.lt_of_lt_of_le I.lt hb), I.nofs hb, .inr (Nat.le_trans I.sz hb), fun x c e z => ?_, fun p hp z => ?_⟩
  · obtain ⟨v, q⟩ := I.cell x c e
    exact absurd (Nat.lt_of_lt_of_le q.lt (by rw [z]; exact hb)) (Nat.lt_irrefl _)
  · exact absurd (Nat.lt_of_lt_of_le (Heap.lt_size (I.pin p hp).1) (by rw [z]; exact hb)) (Nat.lt_irrefl _)
structure Turn (P : Program) (w : World) (K : PySem.W.Frag) (tg : Expr) (J : It) (fp : List Addr) (it : Addr) (tn : Nat → Heap → Prop) : Prop where
  mem : it ∈ fp
  obj : ∀ i h, tn i h → ∀ b ∈ fp, ∃ o, h.get? b = some o ∧ ∀ v, o.data ≠ .cell v
  keep : ∀ i h h', tn i h → (∀ b ∈ fp, ∀ o, h.get? b = some o → h'.get? b = some o) → tn i h'
  item : ∀ (X : Cx), X.prog = P → X.w = w → X.K = K → X.calm = true → ∀ (i : Nat) (pins : List (Addr × Obj)) (s : Shared) (σ : St) (H : Hp) (E : Value → Shared → Prop), Inv X pins σ H s → (∀ b ∈ fp, FpOk X pins H b) → tn i s.heap → J.go i H →
    wpAny (model P w) X.A (pyNext (.ref it)) (fun r s1 => ∃ u, r = some u ∧
      wpAny (model P w) X.A (letOwnedTupleGo tg (.ref it) u) (fun _ s2 => ∃ x H', Inv X pins σ H' s2 ∧ RelV x u ∧ J.yld i H x H' ∧ tn (i + 1) s2.heap ∧ ∀ b ∈ fp, H' b = none) E s1) E s
  done : ∀ (X : Cx), X.prog = P → X.w = w → X.K = K → X.calm = true → ∀ (i : Nat) (pins : List (Addr × Obj)) (s : Shared) (σ : St) (H : Hp) (E : Value → Shared → Prop), Inv X pins σ H s → (∀ b ∈ fp, FpOk X pins H b) → tn i s.heap → J.stop i H →
    wpAny (model P w) X.A (pyNext (.ref it)) (fun r s1 => r = none ∧ Inv X pins σ H s1) E s
  self : ∀ (A : Around) (i : Nat) (s : Shared) (Q : Value → Shared → Prop) (E : Value → Shared → Prop), tn i s.heap → Q (.ref it) s → wpAny (model P w) A (pyIter (.ref it)) Q E s
abbrev TI := St → Hp → (It → Hp → Prop) → Prop
/-- an iterator has come -/
def PIE (X : Cx) (pins : List (Addr × Obj)) (σ : St) (tg : Expr) (R : It → Hp → Prop) (itv : Value) (s2 : Shared) : Prop :=
  ∃ (it : Addr) (fp : List Addr) (tn : Nat → Heap → Prop) (J : It) (H' : Hp), itv = .ref it ∧ Inv X pins σ H' s2 ∧ Turn X.prog X.w X.K tg J fp it tn ∧ tn 0 s2.heap ∧ (∀ b ∈ fp, FpOk X pins H' b) ∧ R J H'
def PI (X : Cx) (tg iter : Expr) (wi : TI) : Prop :=
  ∀ (pins : List (Addr × Obj)) (s : Shared) (σ : St) (H : Hp) (R : It → Hp → Prop), Inv X pins σ H s → wi σ H R →
    wpAny (model X.prog X.w) X.A (eval iter X.env) (fun v s1 => wpAny (model X.prog X.w) X.A (pyIter v) (PIE X pins σ tg R) X.xe s1) X.xe s

/-- the step ahead of the store is nothing for an iterator that keeps no tuple -/
theorem go_of {M : Model} {A : Around} {E : Value → Shared → Prop} {s : Shared} {tg : Expr} {it : Addr} {u : Value} {o : Obj} {n : String} {vs : Array Value} {Q : Unit → Shared → Prop} (ho : s.heap.get? it = some o) (hc : o.cls = .type n) (hd : o.data = .fields vs)
    (hn : ["enumerate", "zip", "dict_itemiterator", "dict_reverseitemiterator", "odict_iterator", "itertools.zip_longest", "itertools.pairwise"].contains n = false) (hQ : Q () s) : wpAny M A (letOwnedTupleGo tg (.ref it) u) Q E s := by
  unfold letOwnedTupleGo
  cases tg <;> first
    | exact wpAny_pure hQ
    | (cases u <;> first
        | exact wpAny_pure hQ
        | (refine wpAny_bind (wpAny_load ho ?_)
           rw [hc, hd]
           show wpAny M A (if (["enumerate", "zip", "dict_itemiterator", "dict_reverseitemiterator", "odict_iterator", "itertools.zip_longest", "itertools.pairwise"].contains n && vs[0]? == some (rawInt _)) = true then _ else _) Q E s
           rw [if_neg (by intro h; rw [hn, Bool.false_and] at h; cases h)]
           exact wpAny_pure hQ))

/-- the list at a, as it stands at each turn (a loop may append to it) -/
def Itl (K : PySem.W.Frag) (a : Addr) : It :=
  ⟨fun i H => ∃ xs x, SqL K H a xs ∧ xs[i]? = some x, fun i H x H' => H' = H ∧ ∀ xs, SqL K H a xs → xs[i]? = some x, fun i H => ∃ xs, SqL K H a xs ∧ xs.length ≤ i⟩
def Itt (K : PySem.W.Frag) (a : Addr) : It :=
  ⟨fun i H => ∃ xs x, SqT K H a xs ∧ xs[i]? = some x, fun i H x H' => H' = H ∧ ∀ xs, SqT K H a xs → xs[i]? = some x, fun i H => ∃ xs, SqT K H a xs ∧ xs.length ≤ i⟩
/-- lo, lo + 1, .. (n of them) -/
def Itr (lo : Int) (n : Nat) : It := ⟨fun i _ => i < n, fun i H x H' => H' = H ∧ x = .int (lo + i), fun i _ => n ≤ i⟩
theorem turn_list {P : Program} {w : World} {K : PySem.W.Frag} {tg : Expr} (a it : Addr) : Turn P w K tg (Itl K a) [it] it (fun i h => h.IsListIter it a i) where
  mem := by simp
  obj := fun i h st b hb => by
    have e : b = it := by simpa using hb
    subst e
    obtain ⟨o, e, c, d⟩ := st
    exact ⟨o, e, fun v z => by rw [d] at z; cases z⟩
  keep := fun i h h' st k => st.at fun o e => k it (by simp) o e
  item := by
    intro X hP hw hK hc i pins s σ H E I hf st hg
    subst hP hw hK
    obtain ⟨xs, x, hq, hx⟩ := hg
    obtain ⟨its, rv, p, hz⟩ := I.list hq
    obtain ⟨u, hu, ru⟩ := rv.get hx
    obtain ⟨f0, f1, f2, f3, f4, f5⟩ := hf it (by simp)
    refine wpAny_pyNext_list_item st p.isList (x := u) (by simpa using hu) fun h' st' sb => ?_
    have I1 : Inv X pins σ H { s with heap := h' } := I.turned (t' := s.toks) (fun b o hb e => (sb.2 b hb).trans e) f0 f1 f3 f4 f5
    obtain ⟨o, e, c, d⟩ := id st'
    exact ⟨u, rfl, go_of (s := { s with heap := h' }) e c d (by decide) ⟨x, H, I1, ru, ⟨rfl, fun ys hy => by rw [I.list_inj hy hq]; exact hx⟩, st', fun b hb => (hf b hb).1⟩⟩
  done := by
    intro X hP hw hK hc i pins s σ H E I hf st hg
    subst hP hw hK
    obtain ⟨xs, hq, hx⟩ := hg
    obtain ⟨its, rv, p, hz⟩ := I.list hq
    obtain ⟨f0, f1, f2, f3, f4, f5⟩ := hf it (by simp)
    have hl := rv.length
    exact wpAny_pyNext_list_end (I.ok.hd hc) st p.isList (by simp; omega) fun h' eb => ⟨rfl, I.turned (t' := s.toks) (fun b o hb e => eb b o hb e) f0 f1 f3 f4 f5⟩
  self := fun _ _ _ _ _ st h => wpAny_pyIter_listiter st h
theorem turn_tuple {P : Program} {w : World} {K : PySem.W.Frag} {tg : Expr} (a it : Addr) : Turn P w K tg (Itt K a) [it] it (fun i h => h.IsTupleIter it a i) where
  mem := by simp
  obj := fun i h st b hb => by
    have e : b = it := by simpa using hb
    subst e
    obtain ⟨o, e, c, d⟩ := st
    exact ⟨o, e, fun v z => by rw [d] at z; cases z⟩
  keep := fun i h h' st k => st.at fun o e => k it (by simp) o e
  item := by
    intro X hP hw hK hc i pins s σ H E I hf st hg
    subst hP hw hK
    obtain ⟨xs, x, hq, hx⟩ := hg
    obtain ⟨its, rv, p, hz⟩ := I.tuple hq
    obtain ⟨u, hu, ru⟩ := rv.get hx
    obtain ⟨f0, f1, f2, f3, f4, f5⟩ := hf it (by simp)
    refine wpAny_pyNext_tuple_item st (show s.heap.IsTuple a its.toArray from p) (x := u) (by simpa using hu) fun h' st' sb => ?_
    have I1 : Inv X pins σ H { s with heap := h' } := I.turned (t' := s.toks) (fun b o hb e => (sb.2 b hb).trans e) f0 f1 f3 f4 f5
    obtain ⟨o, e, c, d⟩ := id st'
    exact ⟨u, rfl, go_of (s := { s with heap := h' }) e c d (by decide) ⟨x, H, I1, ru, ⟨rfl, fun ys hy => by rw [I.tuple_inj hy hq]; exact hx⟩, st', fun b hb => (hf b hb).1⟩⟩
  done := by
    intro X hP hw hK hc i pins s σ H E I hf st hg
    subst hP hw hK
    obtain ⟨xs, hq, hx⟩ := hg
    obtain ⟨its, rv, p, hz⟩ := I.tuple hq
    obtain ⟨f0, f1, f2, f3, f4, f5⟩ := hf it (by simp)
    have hl := rv.length
    exact wpAny_pyNext_tuple_end (I.ok.hd hc) st (show s.heap.IsTuple a its.toArray from p) (by simp; omega) fun h' eb => ⟨rfl, I.turned (t' := s.toks) (fun b o hb e => eb b o hb e) f0 f1 f3 f4 f5⟩
  self := fun _ _ _ _ _ st h => wpAny_pyIter_tupleiter st h
theorem turn_range {P : Program} {w : World} {K : PySem.W.Frag} {tg : Expr} (it : Addr) (lo : Int) (n : Nat) : Turn P w K tg (Itr lo n) [it] it (fun i h => IsRangeIter h it (lo + (i : Nat) * 1) ((n : Int) - (i : Nat)) 1) where
  mem := by simp
  obj := fun i h st b hb => by
    have e : b = it := by simpa using hb
    subst e
    exact ⟨_, st, fun v z => by
      have z' : Data.fields _ = Data.cell v := z
      cases z'⟩
  keep := fun i h h' st k => k it (by simp) _ st
  item := by
    intro X hP hw hK hc i pins s σ H E I hf st hg
    subst hP hw hK
    obtain ⟨f0, f1, f2, f3, f4, f5⟩ := hf it (by simp)
    have W := Walks.range (prog := X.prog) (w := X.w) (I.ok.hd hc) it lo 1 n
    refine W.item i s _ _ hg st fun v h' tk hv st' kk => ?_
    obtain ⟨t, rfl⟩ := hv
    have I1 : Inv X pins σ H { s with heap := h', toks := tk } := I.turned (fun b o hb e => kk b o (by simpa using hb) e) f0 f1 f3 f4 f5
    refine ⟨_, rfl, go_of (s := { s with heap := h', toks := tk }) (n := "range_iterator") st' rfl rfl (by decide) ⟨.int (lo + i), H, I1, ⟨t, ?_⟩, ⟨rfl, rfl⟩, st', fun b hb => (hf b hb).1⟩⟩
    rw [Int.mul_one]
  done := by
    intro X hP hw hK hc i pins s σ H E I hf st hg
    subst hP hw hK
    obtain ⟨f0, f1, f2, f3, f4, f5⟩ := hf it (by simp)
    exact wpAny_pyNext_range_end (I.ok.hd hc) st (by have : n ≤ i := hg; omega) fun h' eb => ⟨rfl, I.turned (t' := s.toks) (fun b o hb e => eb b o hb e) f0 f1 f3 f4 f5⟩
  self := fun _ _ _ _ _ st h => wpAny_pyIter_rangeiter st h
end L2

namespace L2
open PySem PySem.Spec PyProof.Rows
section
variable {X : Cx} {tg : Expr}
def iList (K : PySem.W.Frag) (tl : TE) : TI := fun σ H R => tl σ H fun x H1 => ∃ a, x = .ref a ∧ (∃ xs, SqL K H1 a xs) ∧ R (Itl K a) H1
def iTup (K : PySem.W.Frag) (tl : TE) : TI := fun σ H R => tl σ H fun x H1 => ∃ a, x = .ref a ∧ (∃ xs, SqT K H1 a xs) ∧ R (Itt K a) H1
theorem pi_list {l : Expr} {tl : TE} (hl : PE X l tl) : PI X tg l (iList X.K tl) := by
  intro pins s σ H R I h
  refine thn (hl pins s σ H _ I h) fun v s1 ⟨x, H1, I1, r1, q1⟩ => ?_
  obtain ⟨a, e, ⟨xs, hq⟩, q⟩ := q1
  subst e
  cases r1
  obtain ⟨its, rv, p, hz⟩ := I1.list hq
  refine wpAny_pyIter_list p.isList ?_
  refine ⟨s1.heap.objs.size, [s1.heap.objs.size], _, _, H1, rfl, I1.kept (t' := s1.toks) fun b o e => Heap.get?_push_of_some _ e, turn_list a _, ⟨_, Heap.get?_push_size _ rfl, rfl, rfl⟩, fun b hb => ?_, q⟩
  have e : b = s1.heap.objs.size := by simpa using hb
  subst e
  exact I1.fpOk (Nat.le_refl _) (I1.hok.fresh (Nat.le_refl _))
theorem pi_tup {l : Expr} {tl : TE} (hl : PE X l tl) : PI X tg l (iTup X.K tl) := by
  intro pins s σ H R I h
  refine thn (hl pins s σ H _ I h) fun v s1 ⟨x, H1, I1, r1, q1⟩ => ?_
  obtain ⟨a, e, ⟨xs, hq⟩, q⟩ := q1
  subst e
  cases r1
  obtain ⟨its, rv, p, hz⟩ := I1.tuple hq
  refine wpAny_pyIter_tuple (show s1.heap.IsTuple a its.toArray from p) ?_
  refine ⟨s1.heap.objs.size, [s1.heap.objs.size], _, _, H1, rfl, I1.kept (t' := s1.toks) fun b o e => Heap.get?_push_of_some _ e, turn_tuple a _, ⟨_, Heap.get?_push_size _ rfl, rfl, rfl⟩, fun b hb => ?_, q⟩
  have e : b = s1.heap.objs.size := by simpa using hb
  subst e
  exact I1.fpOk (Nat.le_refl _) (I1.hok.fresh (Nat.le_refl _))
/-- a range object just made, walked -/
theorem range_it {pins : List (Addr × Obj)} {σ : St} {H : Hp} {s : Shared} {R : It → Hp → Prop} {E : Value → Shared → Prop} {lo hi : Int} {t u v : Tok} {tk : Nat} (I : Inv X pins σ H s) (h1 : -(2 ^ 62) ≤ lo) (h2 : lo < 2 ^ 62) (h3 : -(2 ^ 62) ≤ hi) (h4 : hi < 2 ^ 62)
    (q : R (Itr lo (hi - lo).toNat) H) : wpAny (model X.prog X.w) X.A (pyIter (.ref s.heap.objs.size)) (PIE X pins σ tg R) E { s with heap := s.heap.push { cls := .type "range", data := .fields #[.int lo t, .int hi u, .int 1 v] }, toks := tk } := by
  refine wpAny_pyIter_range (IsRange.new ..) (small_one h1 h2 h3 h4) ?_
  have I1 : Inv X pins σ H { s with heap := s.heap.push { cls := .type "range", data := .fields #[.int lo t, .int hi u, .int 1 v] }, toks := tk } := I.kept fun b o e => Heap.get?_push_of_some _ e
  refine ⟨(s.heap.push { cls := .type "range", data := .fields #[.int lo t, .int hi u, .int 1 v] }).objs.size, [(s.heap.push { cls := .type "range", data := .fields #[.int lo t, .int hi u, .int 1 v] }).objs.size], _, _, H, rfl,
    I1.kept (t' := tk) fun b o e => Heap.get?_push_of_some _ e, turn_range _ lo (hi - lo).toNat, ?_, fun b hb => ?_, q⟩
  · have e1 : lo + ((0 : Nat) : Int) * 1 = lo := by simp
    have e2 : (((hi - lo).toNat : Nat) : Int) - ((0 : Nat) : Int) = Builtin.Range.rangeSize lo hi 1 := by rw [rangeSize_one]; split <;> omega
    show IsRangeIter _ _ (lo + ((0 : Nat) : Int) * 1) ((((hi - lo).toNat : Nat) : Int) - ((0 : Nat) : Int)) 1
    rw [e1, e2]
    exact Heap.get?_push_size _ rfl
  · have e : b = (s.heap.push { cls := .type "range", data := .fields #[.int lo t, .int hi u, .int 1 v] }).objs.size := by simpa using hb
    subst e
    exact I1.fpOk (Nat.le_refl _) (I1.hok.fresh (Nat.le_refl _))
def iRng1 (ta : TA) : TI := fun σ H R => ta σ H fun vs H1 => ∃ j : Int, vs = [.int j] ∧ -(2 ^ 62) ≤ j ∧ j < 2 ^ 62 ∧ R (Itr 0 j.toNat) H1
def iRng2 (ta : TA) : TI := fun σ H R => ta σ H fun vs H1 => ∃ i j : Int, vs = [.int i, .int j] ∧ (-(2 ^ 62) ≤ i ∧ i < 2 ^ 62 ∧ -(2 ^ 62) ≤ j ∧ j < 2 ^ 62) ∧ R (Itr i (j - i).toNat) H1
theorem pi_range1 {a : Expr} {ta : TA} {p pos : Pos} (hg : Gl X "range") (hm : X.mg "range" = none) (ha : PA X [a] ta) (hs : starEach [a] X.env = [(false, eval a X.env)] := by rfl) : PI X tg (.Call (.Name "range" p) [a] [] pos) (iRng1 ta) := by
  intro pins s σ H R I h
  refine Call_ (ld_blt I hg hm boot_range (PyProof.Rows.callWith_type1 (thn (ha pos pins s σ H _ I h) fun us s1 ⟨vs, H1, I1, r1, q1⟩ => ?_) hs rfl))
  obtain ⟨j, e, q1, q2, q⟩ := q1
  subst e
  cases r1 with
  | cons r rr =>
    cases rr
    obtain ⟨t, rfl⟩ := r
    exact call_range_1 (range_it I1 (by omega) (by omega) q1 q2 (by simpa using q))
theorem pi_range2 {a b : Expr} {ta : TA} {p pos : Pos} (hg : Gl X "range") (hm : X.mg "range" = none) (ha : PA X [a, b] ta) (hs : starEach [a, b] X.env = [(false, eval a X.env), (false, eval b X.env)] := by rfl) (hs2 : starEach [b] X.env = [(false, eval b X.env)] := by rfl) :
    PI X tg (.Call (.Name "range" p) [a, b] [] pos) (iRng2 ta) := by
  intro pins s σ H R I h
  refine Call_ (ld_blt I hg hm boot_range (PyProof.Rows.callWith_type1 (thn (ha pos pins s σ H _ I h) fun us s1 ⟨vs, H1, I1, r1, q1⟩ => ?_) (by rw [hs, hs2]) (by rw [hs2]; rfl)))
  obtain ⟨i, j, e, ⟨q1, q2, q3, q4⟩, q⟩ := q1
  subst e
  cases r1 with
  | cons r rr =>
    cases rr with
    | cons r' rr =>
      cases rr
      obtain ⟨t, rfl⟩ := r
      obtain ⟨t', rfl⟩ := r'
      exact call_range_2 (range_it I1 q1 q2 q3 q4 q)

/-- W: the invariant by the turn and a measure; N: what the body is to reach -/
def tFor (wi : TI) (g : TG) (tb : TS) : TS := fun D σ H => wi σ H fun J H1 => ∃ W : Nat → Nat → St → Hp → Prop, (∃ m, W 0 m σ H1) ∧ ∀ i m σ H, W i m σ H →
  (J.stop i H ∧ D.nx σ H) ∨ (J.go i H ∧ ∃ N : St → Hp → Prop, (∀ σ' H', N σ' H' → ∃ m', m' < m ∧ W (i + 1) m' σ' H') ∧ ∀ x H', J.yld i H x H' → g x σ H' fun σ2 H2 => tb { D with nx := N, ct := N, bk := D.nx } σ2 H2)
/-- the records at fp as they stand -/
def pinsAt (fp : List Addr) (h : Heap) : List (Addr × Obj) := fp.filterMap fun b => (h.get? b).map fun o => (b, o)
theorem mem_pinsAt {fp : List Addr} {h : Heap} {b : Addr} {o : Obj} (hb : b ∈ fp) (e : h.get? b = some o) : (b, o) ∈ pinsAt fp h := List.mem_filterMap.mpr ⟨b, hb, by rw [e]; rfl⟩
theorem of_pinsAt {fp : List Addr} {h : Heap} {p : Addr × Obj} (hp : p ∈ pinsAt fp h) : p.1 ∈ fp ∧ h.get? p.1 = some p.2 := by
  obtain ⟨b, hb, e⟩ := List.mem_filterMap.mp hp
  cases q : h.get? b with
  | none => rw [q] at e; cases e
  | some o =>
    rw [q] at e
    have e' : (b, o) = p := Option.some.inj e
    subst e'
    exact ⟨hb, q⟩
theorem Inv.pinned {pins : List (Addr × Obj)} {σ : St} {H : Hp} {s : Shared} {fp : List Addr} (I : Inv X pins σ H s) (hf : ∀ b ∈ fp, FpOk X pins H b) (ho : ∀ b ∈ fp, ∃ o, s.heap.get? b = some o ∧ ∀ v, o.data ≠ .cell v) : Inv X (pins ++ pinsAt fp s.heap) σ H s :=
  I.pins_of fun p hp => (List.mem_append.mp hp).elim (fun z => I.pin p (List.mem_append_right _ z)) fun z => by
    obtain ⟨hb, e⟩ := of_pinsAt z
    obtain ⟨f0, f1, f2, _⟩ := hf p.1 hb
    obtain ⟨o, e', d⟩ := ho p.1 hb
    rw [e] at e'; cases e'
    exact ⟨e, f0, f1, f2, d⟩
theorem Inv.unpinned {pins pl : List (Addr × Obj)} {σ : St} {H : Hp} {s : Shared} (I : Inv X (pins ++ pl) σ H s) : Inv X pins σ H s := I.pins_of fun p hp => I.pin p (List.mem_append_right _ (List.mem_append_left _ hp))
theorem ps_for {iter : Expr} {body : List Stmt} {wi : TI} {g : TG} {tb : TS} {pos : Pos} (hp : PassesOwn (model X.prog X.w) X.A X.env X.xe) (hc : X.calm = true) (hi : PI X tg iter wi) (hg : PG X tg g) (hb : PSs X body tb)
    (hs : ∀ x, foldedSetIterable iter X.env x = pure x := by intro _; rfl) : PS X (.For tg iter body [] pos) (tFor wi g tb) := by
  intro pins s σ H D I h
  refine wpAny_For (thn (hi pins s σ H _ I h) fun v s1 h1 => thn h1 fun itv s2 h2 => ?_) hs
  obtain ⟨it, fp, tn, J, H2, e, I2, T, st2, f2, W, ⟨m0, w0⟩, turn⟩ := h2
  subst e
  -- what stays true of the iterator's objects through the loop
  have stat : ∀ {H' : Hp}, (∀ b ∈ fp, H' b = none) → ∀ b ∈ fp, FpOk X pins H' b := fun hn b hb => ⟨hn b hb, (f2 b hb).2⟩
  refine codeAny_forLoop_any (fun n s' => ∃ i σ' H', Inv X pins σ' H' s' ∧ tn i s'.heap ∧ (∀ b ∈ fp, H' b = none) ∧ W i n σ' H') ?_ m0 ⟨0, σ, H2, I2, st2, fun b hb => (f2 b hb).1, w0⟩
  rintro n s3 ⟨i, σ3, H3, I3, st3, fr3, w3⟩
  rcases turn i n σ3 H3 w3 with ⟨stop, qn⟩ | ⟨go, N, hN, step⟩
  · refine wpAny_passesOwn hp (thn (T.done X rfl rfl rfl hc i pins s3 σ3 H3 X.xe I3 (stat fr3) st3 stop) fun r s4 ⟨hr, I4⟩ => ?_)
    subst hr
    exact wpAny_execs_nil ⟨σ3, H3, I4, qn⟩
  · refine wpAny_passesOwn hp (thn (T.item X rfl rfl rfl hc i pins s3 σ3 H3 X.xe I3 (stat fr3) st3 go) fun r s4 ⟨u, hr, h4⟩ => ?_)
    subst hr
    refine wpAny_passesOwn hp (thn h4 fun _ s5 ⟨x, H5, I5, r5, y5, st5, fr5⟩ => ?_)
    have I5' := I5.pinned (stat fr5) (T.obj _ _ st5)
    refine wpAny_passesOwn hp (thn (hg _ s5 σ3 H5 x u _ I5' r5 (step x H5 y5)) fun _ s6 ⟨σ6, H6, I6, q6⟩ => ?_)
    refine wpAny_passesOwn hp (thn (hb _ s6 σ6 H6 _ I6 q6) fun f s7 q7 => ?_)
    have again : ∀ {σ7 : St} {H7 : Hp}, Inv X (pins ++ pinsAt fp s5.heap) σ7 H7 s7 → N σ7 H7 → ∃ m, m < n ∧ ∃ i σ' H', Inv X pins σ' H' s7 ∧ tn i s7.heap ∧ (∀ b ∈ fp, H' b = none) ∧ W i m σ' H' := fun {σ7 H7} I7 n7 => by
      obtain ⟨m', hm, w7⟩ := hN σ7 H7 n7
      refine ⟨m', hm, i + 1, σ7, H7, I7.unpinned, T.keep _ _ _ st5 fun b hb o e => (I7.pin (b, o) (List.mem_append_right _ (List.mem_append_right _ (mem_pinsAt hb e)))).1, fun b hb => ?_, w7⟩
      obtain ⟨o, e, d⟩ := T.obj _ _ st5 b hb
      exact (I7.pin (b, o) (List.mem_append_right _ (List.mem_append_right _ (mem_pinsAt hb e)))).2.1
    cases f with
    | next => obtain ⟨σ7, H7, I7, n7⟩ := q7; exact again I7 n7
    | cont => obtain ⟨σ7, H7, I7, n7⟩ := q7; exact again I7 n7
    | brk => obtain ⟨σ7, H7, I7, q7⟩ := q7; exact ⟨σ7, H7, I7.unpinned, q7⟩
    | ret v => obtain ⟨x7, σ7, H7, I7, r7, q7⟩ := q7; exact ⟨x7, σ7, H7, I7.unpinned, r7, q7⟩
end

/-- over a list that the body leaves as it is -/
theorem for_list {K : PySem.W.Frag} {a : Addr} {xs : List V} {g : TG} {tb : TS} {D : Ends} {σ : St} {H : Hp} (Pv : Nat → St → Hp → Prop) (h0 : Pv 0 σ H) (hl : ∀ i σ H, i ≤ xs.length → Pv i σ H → SqL K H a xs)
    (hs : ∀ i x σ H, xs[i]? = some x → Pv i σ H → g x σ H fun σ2 H2 => tb { D with nx := Pv (i + 1), ct := Pv (i + 1), bk := D.nx } σ2 H2) (hd : ∀ σ H, Pv xs.length σ H → D.nx σ H) :
    ∃ W : Nat → Nat → St → Hp → Prop, (∃ m, W 0 m σ H) ∧ ∀ i m σ H, W i m σ H →
      ((Itl K a).stop i H ∧ D.nx σ H) ∨ ((Itl K a).go i H ∧ ∃ N : St → Hp → Prop, (∀ σ' H', N σ' H' → ∃ m', m' < m ∧ W (i + 1) m' σ' H') ∧ ∀ x H', (Itl K a).yld i H x H' → g x σ H' fun σ2 H2 => tb { D with nx := N, ct := N, bk := D.nx } σ2 H2) := by
  refine ⟨fun i m σ H => m = xs.length - i ∧ i ≤ xs.length ∧ Pv i σ H, ⟨xs.length, by simp, Nat.zero_le _, h0⟩, ?_⟩
  rintro i m σ H ⟨rfl, hi, p⟩
  have q := hl i σ H hi p
  by_cases hlt : i < xs.length
  · refine .inr ⟨⟨xs, xs[i], q, by simp [hlt]⟩, Pv (i + 1), fun σ' H' p' => ⟨xs.length - (i + 1), by omega, rfl, hlt, p'⟩, fun x H' y => ?_⟩
    obtain ⟨e, y⟩ := y
    subst e
    exact hs i x σ _ (y xs q) p
  · have e : i = xs.length := by omega
    subst e
    exact .inl ⟨⟨xs, q, Nat.le_refl _⟩, hd σ H p⟩
theorem for_range {lo : Int} {n : Nat} {g : TG} {tb : TS} {D : Ends} {σ : St} {H : Hp} (Pv : Nat → St → Hp → Prop) (h0 : Pv 0 σ H)
    (hs : ∀ i σ H, i < n → Pv i σ H → g (.int (lo + i)) σ H fun σ2 H2 => tb { D with nx := Pv (i + 1), ct := Pv (i + 1), bk := D.nx } σ2 H2) (hd : ∀ σ H, Pv n σ H → D.nx σ H) :
    ∃ W : Nat → Nat → St → Hp → Prop, (∃ m, W 0 m σ H) ∧ ∀ i m σ H, W i m σ H →
      ((Itr lo n).stop i H ∧ D.nx σ H) ∨ ((Itr lo n).go i H ∧ ∃ N : St → Hp → Prop, (∀ σ' H', N σ' H' → ∃ m', m' < m ∧ W (i + 1) m' σ' H') ∧ ∀ x H', (Itr lo n).yld i H x H' → g x σ H' fun σ2 H2 => tb { D with nx := N, ct := N, bk := D.nx } σ2 H2) := by
  refine ⟨fun i m σ H => m = n - i ∧ i ≤ n ∧ Pv i σ H, ⟨n, by simp, Nat.zero_le _, h0⟩, ?_⟩
  rintro i m σ H ⟨rfl, hi, p⟩
  by_cases hlt : i < n
  · refine .inr ⟨hlt, Pv (i + 1), fun σ' H' p' => ⟨n - (i + 1), by omega, rfl, hlt, p'⟩, fun x H' y => ?_⟩
    obtain ⟨e, y⟩ := y
    subst e y
    exact hs i σ _ hlt p
  · have e : i = n := by omega
    subst e
    exact .inl ⟨Nat.le_refl _, hd σ H p⟩
end L2

namespace L2
open PySem PySem.Spec PyProof.Rows

abbrev R2 := V → V → Hp → VK → Prop
/-- a two-place operation on values: f is binaryOp op, inplaceOp op or compareOp op -/
def OpR (X : Cx) (f : Value → Value → Sem Value) (r : R2) : Prop :=
  ∀ (pins : List (Addr × Obj)) (s : Shared) (σ : St) (H : Hp) (x y : V) (v u : Value) (Q : VK), Inv X pins σ H s → RelV x v → RelV y u → r x y H Q →
    wpAny (model X.prog X.w) X.A (f v u) (EP X pins σ Q) X.xe s
/-- a one-place operation -/
def UnR (X : Cx) (f : Value → Sem Value) (r : V → Hp → VK → Prop) : Prop :=
  ∀ (pins : List (Addr × Obj)) (s : Shared) (σ : St) (H : Hp) (x : V) (v : Value) (Q : VK), Inv X pins σ H s → RelV x v → r x H Q →
    wpAny (model X.prog X.w) X.A (f v) (EP X pins σ Q) X.xe s
/-- a call of a value that is known (a builtin, a type) with values -/
def CallR (X : Cx) (f : Value) (r : List V → Hp → VK → Prop) : Prop :=
  ∀ (pins : List (Addr × Obj)) (s : Shared) (σ : St) (H : Hp) (xs : List V) (us : List Value) (Q : VK), Inv X pins σ H s → Vals xs us → r xs H Q →
    wpAny (model X.prog X.w) X.A (call f us) (EP X pins σ Q) X.xe s
/-- a value's truth -/
def TruR (X : Cx) (r : V → Hp → (Bool → Hp → Prop) → Prop) : Prop :=
  ∀ (pins : List (Addr × Obj)) (s : Shared) (σ : St) (H : Hp) (x : V) (v : Value) (Q : Bool → Hp → Prop), Inv X pins σ H s → RelV x v → r x H Q →
    wpAny (model X.prog X.w) X.A (truthy v) (TP X pins σ Q) X.xe s

def tOp (r : R2) (ta tb : TE) : TE := fun σ H Q => ta σ H fun x H1 => tb σ H1 fun y H2 => r x y H2 Q
def tUn (r : V → Hp → VK → Prop) (ta : TE) : TE := fun σ H Q => ta σ H fun x H1 => r x H1 Q
/-- ints in, under C, and a value out -/
def rI (C : Int → Int → Prop) (g : Int → Int → V) : R2 := fun x y H Q => ∃ i j, x = .int i ∧ y = .int j ∧ C i j ∧ Q (g i j) H
def rI0 (g : Int → Int → V) : R2 := fun x y H Q => ∃ i j, x = .int i ∧ y = .int j ∧ Q (g i j) H
def rU (g : Int → V) : V → Hp → VK → Prop := fun x H Q => ∃ i, x = .int i ∧ Q (g i) H

section
variable {X : Cx} {a b c : Expr} {ta tb tc : TE} {pos : Pos}

theorem binT (ha : PE X a ta) (hb : PE X b tb) {pins : List (Addr × Obj)} {s : Shared} {σ : St} {H : Hp} {R : V → V → Hp → Prop} (I : Inv X pins σ H s)
    (h : ta σ H fun x H1 => tb σ H1 fun y H2 => R x y H2) {Q : Value → Shared → Prop} {f : Value → Value → Sem Value}
    (hf : ∀ v u s2 x y H2, Inv X pins σ H2 s2 → RelV x v → RelV y u → R x y H2 → wpAny (model X.prog X.w) X.A (f v u) Q X.xe s2) :
    wpAny (model X.prog X.w) X.A (eval a X.env) (fun v s₁ => wpAny (model X.prog X.w) X.A (eval b X.env) (fun u s₂ => wpAny (model X.prog X.w) X.A (f v u) Q X.xe s₂) X.xe s₁) X.xe s := by
  refine thn (ha pins s σ H _ I h) fun v s1 ⟨x, H1, I1, r1, q1⟩ => ?_
  refine thn (hb pins s1 σ H1 _ I1 q1) fun u s2 ⟨y, H2, I2, r2, q2⟩ => ?_
  exact hf v u s2 x y H2 I2 r1 r2 q2

theorem pe_op {op : Operator} {r : R2} (ho : OpR X (binaryOp op) r) (ha : PE X a ta) (hb : PE X b tb) : PE X (.BinOp a op b pos) (tOp r ta tb) := by
  intro pins s σ H Q I h
  exact wpAny_BinOp (binT ha hb I h fun v u s2 x y H2 I2 rx ry q => ho pins s2 σ H2 x y v u Q I2 rx ry q)
theorem pe_un {op : UnaryOp} {r : V → Hp → VK → Prop} (ho : UnR X (unaryOp op) r) (ha : PE X a ta) : PE X (.UnaryOp op a pos) (tUn r ta) := by
  intro pins s σ H Q I h
  exact UnaryOp_ (thn (ha pins s σ H _ I h) fun v s1 ⟨x, H1, I1, r1, q1⟩ => ho pins s1 σ H1 x v Q I1 r1 q1)
theorem opI {f : Value → Value → Sem Value} {C : Int → Int → Prop} {g : Int → Int → Int}
    (rule : ∀ (i j : Int) (t u : Tok) (s : Shared) (Q : Value → Shared → Prop) (E : Value → Shared → Prop), C i j → Q (.int (g i j) s.toks) { s with toks := s.toks + 1 } → wpAny (model X.prog X.w) X.A (f (.int i t) (.int j u)) Q E s) :
    OpR X f (rI C fun i j => .int (g i j)) := by
  intro pins s σ H x y v u Q I rx ry h
  obtain ⟨i, j, rfl, rfl, hc, q⟩ := h
  obtain ⟨t, rfl⟩ := rx
  obtain ⟨t', rfl⟩ := ry
  exact rule i j t t' s _ _ hc ⟨.int (g i j), H, I.tok _, ⟨_, rfl⟩, q⟩
theorem opI0 {f : Value → Value → Sem Value} {g : Int → Int → Int}
    (rule : ∀ (i j : Int) (t u : Tok) (s : Shared) (Q : Value → Shared → Prop) (E : Value → Shared → Prop), Q (.int (g i j) s.toks) { s with toks := s.toks + 1 } → wpAny (model X.prog X.w) X.A (f (.int i t) (.int j u)) Q E s) :
    OpR X f (rI0 fun i j => .int (g i j)) := by
  intro pins s σ H x y v u Q I rx ry h
  obtain ⟨i, j, rfl, rfl, q⟩ := h
  obtain ⟨t, rfl⟩ := rx
  obtain ⟨t', rfl⟩ := ry
  exact rule i j t t' s _ _ ⟨.int (g i j), H, I.tok _, ⟨_, rfl⟩, q⟩
theorem opB0 {f : Value → Value → Sem Value} {g : Int → Int → Bool}
    (rule : ∀ (i j : Int) (t u : Tok) (s : Shared) (Q : Value → Shared → Prop) (E : Value → Shared → Prop), Q (.bool (g i j)) s → wpAny (model X.prog X.w) X.A (f (.int i t) (.int j u)) Q E s) :
    OpR X f (rI0 fun i j => .bl (g i j)) := by
  intro pins s σ H x y v u Q I rx ry h
  obtain ⟨i, j, rfl, rfl, q⟩ := h
  obtain ⟨t, rfl⟩ := rx
  obtain ⟨t', rfl⟩ := ry
  exact rule i j t t' s _ _ ⟨.bl (g i j), H, I, rfl, q⟩

def CDiv (i j : Int) : Prop := 0 < j ∧ j < 1073741824
def CMul (i j : Int) : Prop := (-(2 ^ 64) < i ∧ i < 2 ^ 64) ∨ (-(2 ^ 64) < j ∧ j < 2 ^ 64)
theorem CMul.ok {i j : Int} (h : CMul i j) : IntMulOk i j := by
  rcases h with ⟨h1, h2⟩ | ⟨h1, h2⟩
  · exact .of_left (intBits_le_64 h1 h2)
  · exact .of_right (intBits_le_64 h1 h2)
theorem op_add : OpR X (binaryOp .Add) (rI0 fun i j => .int (i + j)) := opI0 fun _ _ _ _ _ _ _ q => add_int q
theorem op_sub : OpR X (binaryOp .Sub) (rI0 fun i j => .int (i - j)) := opI0 fun _ _ _ _ _ _ _ q => sub_int q
theorem op_mul : OpR X (binaryOp .Mult) (rI CMul fun i j => .int (i * j)) := opI fun _ _ _ _ _ _ _ hc q => mul_int q hc.ok
/-- // by a positive divisor -/
theorem op_fdiv : OpR X (binaryOp .FloorDiv) (rI CDiv fun i j => .int (i / j)) := opI fun i j _ _ _ _ _ hc q => by
  have h1 : (0 : Int) < j := hc.1
  have h2 : j < 1073741824 := hc.2
  exact floordiv_int (by omega) (by rw [Int.fdiv_eq_ediv_of_nonneg i (by omega)]; exact q) (.inl (PyProof.noPylong_small (by omega)))
/-- % by a positive divisor of any size -/
theorem op_mod : OpR X (binaryOp .Mod) (rI (fun _ j => 0 < j) fun i j => .int (i % j)) := opI fun i j _ _ _ _ _ hc q => by
  have h1 : (0 : Int) < j := hc
  exact mod_int' (by omega) (by rw [Int.fmod_eq_emod_of_nonneg i (by omega)]; exact q)
theorem unI {f : Value → Sem Value} {g : Int → Int}
    (rule : ∀ (i : Int) (t : Tok) (s : Shared) (Q : Value → Shared → Prop) (E : Value → Shared → Prop), Q (.int (g i) s.toks) { s with toks := s.toks + 1 } → wpAny (model X.prog X.w) X.A (f (.int i t)) Q E s) :
    UnR X f (rU fun i => .int (g i)) := by
  intro pins s σ H x v Q I rx h
  obtain ⟨i, rfl, q⟩ := h
  obtain ⟨t, rfl⟩ := rx
  exact rule i t s _ _ ⟨.int (g i), H, I.tok _, ⟨_, rfl⟩, q⟩
theorem un_neg : UnR X (unaryOp .USub) (rU fun i => .int (-i)) := unI fun _ _ _ _ _ q => neg_int q
end

/-- the scalars that == tells apart as data does -/
def scal : V → V → Bool
  | .non, .non => true | .non, .int _ => true | .int _, .non => true | .non, .bl _ => true | .bl _, .non => true | .non, .str _ => true | .str _, .non => true
  | .int _, .int _ => true | .bl _, .bl _ => true | .str _, .str _ => true | .byt _, .byt _ => true
  | .int _, .str _ => true | .str _, .int _ => true | .bl _, .str _ => true | .str _, .bl _ => true
  | _, _ => false
def rEq : R2 := fun x y H Q => scal x y = true ∧ Q (.bl (decide (x = y))) H
def rNe : R2 := fun x y H Q => scal x y = true ∧ Q (.bl (!decide (x = y))) H

theorem dec_int {i j : Int} : decide (V.int i = V.int j) = (i == j) := by
  rw [Bool.eq_iff_iff]
  simp
theorem dec_bl {i j : Bool} : decide (V.bl i = V.bl j) = (i == j) := by
  rw [Bool.eq_iff_iff]
  simp
theorem dec_str {i j : Str} : decide (V.str i = V.str j) = (i == j) := by
  rw [Bool.eq_iff_iff]
  simp
theorem dec_byt {i j : Array UInt8} : decide (V.byt i = V.byt j) = (i.toList == j.toList) := by
  rw [Bool.eq_iff_iff]
  cases i
  cases j
  simp

section
variable {X : Cx} {a b c : Expr} {ta tb tc : TE} {pos : Pos}
theorem fin_bl {pins : List (Addr × Obj)} {σ : St} {H : Hp} {s : Shared} {Q : VK} {k k' : Bool} (I : Inv X pins σ H s) (q : Q (.bl k) H) (e : k = k') : EP X pins σ Q (.bool k') s := by
  subst e
  exact ⟨.bl k, H, I, rfl, q⟩
theorem op_eq : OpR X (compareOp .Eq) rEq := by
  intro pins s σ H x y v u Q I rx ry h
  obtain ⟨hs, q⟩ := h
  cases x with
  | non =>
    cases rx
    cases y with
    | non => cases ry; exact PySem.EqNone.eq_none_none (fin_bl I q (by simp))
    | bl j => cases ry; exact PySem.EqNone.eq_none_bool (fin_bl I q (by simp))
    | int j => obtain ⟨t', rfl⟩ := ry; exact PySem.EqNone.eq_none_int (fin_bl I q (by simp))
    | str j => obtain ⟨t', rfl⟩ := ry; exact PySem.EqNone.eq_none_str (fin_bl I q (by simp))
    | _ => exact absurd (show false = true from hs) Bool.false_ne_true
  | bl i =>
    cases rx
    cases y with
    | non => cases ry; exact PySem.EqNone.eq_bool_none (fin_bl I q (by simp))
    | bl j => cases ry; exact eq_bool (fin_bl I q dec_bl)
    | str j => obtain ⟨t', rfl⟩ := ry; exact PySem.EqMixed.eq_bool_str (fin_bl I q (by simp))
    | _ => exact absurd (show false = true from hs) Bool.false_ne_true
  | int i =>
    obtain ⟨t, rfl⟩ := rx
    cases y with
    | non => cases ry; exact PySem.EqNone.eq_int_none (fin_bl I q (by simp))
    | int j => obtain ⟨t', rfl⟩ := ry; exact eq_int (fin_bl I q dec_int)
    | str j => obtain ⟨t', rfl⟩ := ry; exact PySem.EqMixed.eq_int_str (fin_bl I q (by simp))
    | _ => exact absurd (show false = true from hs) Bool.false_ne_true
  | str i =>
    obtain ⟨t, rfl⟩ := rx
    cases y with
    | non => cases ry; exact PySem.EqNone.eq_str_none (fin_bl I q (by simp))
    | bl j => cases ry; exact PySem.EqMixed.eq_str_bool (fin_bl I q (by simp))
    | int j => obtain ⟨t', rfl⟩ := ry; exact PySem.EqMixed.eq_str_int (fin_bl I q (by simp))
    | str j => obtain ⟨t', rfl⟩ := ry; exact eq_str (fin_bl I q dec_str)
    | _ => exact absurd (show false = true from hs) Bool.false_ne_true
  | byt i =>
    obtain ⟨t, rfl⟩ := rx
    cases y with
    | byt j => obtain ⟨t', rfl⟩ := ry; exact PySem.W.eq_bytes (fin_bl I q dec_byt)
    | _ => exact absurd (show false = true from hs) Bool.false_ne_true
  | _ => cases y <;> exact absurd (show false = true from hs) Bool.false_ne_true
theorem op_ne : OpR X (compareOp .NotEq) rNe := by
  intro pins s σ H x y v u Q I rx ry h
  obtain ⟨hs, q⟩ := h
  cases x with
  | non =>
    cases rx
    cases y with
    | non => cases ry; exact PySem.EqNone.ne_none_none (fin_bl I q (by simp))
    | bl j => cases ry; exact PySem.EqNone.ne_none_bool (fin_bl I q (by simp))
    | int j => obtain ⟨t', rfl⟩ := ry; exact PySem.EqNone.ne_none_int (fin_bl I q (by simp))
    | str j => obtain ⟨t', rfl⟩ := ry; exact PySem.EqNone.ne_none_str (fin_bl I q (by simp))
    | _ => exact absurd (show false = true from hs) Bool.false_ne_true
  | bl i =>
    cases rx
    cases y with
    | non => cases ry; exact PySem.EqNone.ne_bool_none (fin_bl I q (by simp))
    | bl j => cases ry; exact ne_bool (fin_bl I q (congrArg not dec_bl))
    | str j => obtain ⟨t', rfl⟩ := ry; exact PySem.EqMixed.ne_bool_str (fin_bl I q (by simp))
    | _ => exact absurd (show false = true from hs) Bool.false_ne_true
  | int i =>
    obtain ⟨t, rfl⟩ := rx
    cases y with
    | non => cases ry; exact PySem.EqNone.ne_int_none (fin_bl I q (by simp))
    | int j => obtain ⟨t', rfl⟩ := ry; exact ne_int (fin_bl I q (congrArg not dec_int))
    | str j => obtain ⟨t', rfl⟩ := ry; exact PySem.EqMixed.ne_int_str (fin_bl I q (by simp))
    | _ => exact absurd (show false = true from hs) Bool.false_ne_true
  | str i =>
    obtain ⟨t, rfl⟩ := rx
    cases y with
    | non => cases ry; exact PySem.EqNone.ne_str_none (fin_bl I q (by simp))
    | bl j => cases ry; exact PySem.EqMixed.ne_str_bool (fin_bl I q (by simp))
    | int j => obtain ⟨t', rfl⟩ := ry; exact PySem.EqMixed.ne_str_int (fin_bl I q (by simp))
    | str j => obtain ⟨t', rfl⟩ := ry; exact ne_str (fin_bl I q (congrArg not dec_str))
    | _ => exact absurd (show false = true from hs) Bool.false_ne_true
  | byt i =>
    obtain ⟨t, rfl⟩ := rx
    cases y with
    | byt j => obtain ⟨t', rfl⟩ := ry; exact PySem.W.ne_bytes (fin_bl I q (congrArg not dec_byt))
    | _ => exact absurd (show false = true from hs) Bool.false_ne_true
  | _ => cases y <;> exact absurd (show false = true from hs) Bool.false_ne_true

theorem op_lt : OpR X (compareOp .Lt) (rI0 fun i j => .bl (decide (i < j))) := opB0 fun _ _ _ _ _ _ _ q => lt_int q
theorem op_le : OpR X (compareOp .LtE) (rI0 fun i j => .bl (decide (i ≤ j))) := opB0 fun _ _ _ _ _ _ _ q => le_int q
theorem op_gt : OpR X (compareOp .Gt) (rI0 fun i j => .bl (decide (j < i))) := opB0 fun _ _ _ _ _ _ _ q => gt_int q
/-- is None, is not None: the right side a value none -/
theorem op_isN : OpR X (compareOp .Is) (fun x y H Q => y = .non ∧ Q (.bl (decide (x = .non))) H) := by
  intro pins s σ H x y v u Q I rx ry h
  obtain ⟨rfl, q⟩ := h
  cases ry
  refine is_none_gen (fin_bl I q ?_)
  cases x <;> first
    | (cases rx; rfl)
    | (obtain ⟨t, rfl⟩ := rx; rfl)
theorem op_notN : OpR X (compareOp .IsNot) (fun x y H Q => y = .non ∧ Q (.bl (!decide (x = .non))) H) := by
  intro pins s σ H x y v u Q I rx ry h
  obtain ⟨rfl, q⟩ := h
  cases ry
  refine isnot_none_gen (fin_bl I q ?_)
  cases x <;> first
    | (cases rx; rfl)
    | (obtain ⟨t, rfl⟩ := rx; rfl)

theorem nomark (b : Expr) {op : CmpOp} (h : op ≠ .In := by decide) (h2 : op ≠ .NotIn := by decide) : behindInMarks op b = false := by
  have e1 : (op == CmpOp.In) = false := by cases op <;> first | rfl | exact absurd rfl h
  have e2 : (op == CmpOp.NotIn) = false := by cases op <;> first | rfl | exact absurd rfl h2
  cases b <;> simp [behindInMarks, e1, e2]
/-- a comparison as a value; hm: nomark b, or (for in, not in) by with_unfolding_all rfl -/
theorem pe_cmpR {op : CmpOp} {r : R2} (ho : OpR X (compareOp op) r) (ha : PE X a ta) (hb : PE X b tb) (hm : behindInMarks op b = false) : PE X (.Compare a [op] [b] pos) (tOp r ta tb) := by
  intro pins s σ H Q I h
  exact wpAny_Compare1 (binT ha hb I h fun v u s2 x y H2 I2 rx ry q => ho pins s2 σ H2 x y v u Q I2 rx ry q) hm
/-- a reading of a value as a test -/
def tTest (t : TE) : TT := fun σ H Q => t σ H fun x H' => ∃ k, x = .bl k ∧ Q k H'
theorem pt_cmpR {op : CmpOp} {r : R2} (ho : OpR X (compareOp op) r) (ha : PE X a ta) (hb : PE X b tb) (hm : behindInMarks op b = false) : PT X (.Compare a [op] [b] pos) (tTest (tOp r ta tb)) := by
  intro pins s σ H Q I h
  refine wpAny_isTrue_Compare1 (thn (ha pins s σ H _ I h) fun v s1 ⟨x, H1, I1, r1, q1⟩ => thn (hb pins s1 σ H1 _ I1 q1) fun u s2 ⟨y, H2, I2, r2, q2⟩ =>
    thn (ho pins s2 σ H2 x y v u _ I2 r1 r2 q2) fun c s3 ⟨z, H3, I3, r3, k, e, q3⟩ => ?_) hm
  subst e
  cases r3
  exact wpAny_truthy_bool ⟨H3, I3, q3⟩
/-- a op1 b op2 c -/
def tChain (r r' : R2) (ta tb tc : TE) : TE := fun σ H Q => ta σ H fun x H1 => tb σ H1 fun y H2 => r x y H2 fun z H3 => ∃ k, z = .bl k ∧
  (if k = true then tc σ H3 fun w' H4 => r' y w' H4 Q else Q (.bl false) H3)
theorem pe_chain {op op' : CmpOp} {r r' : R2} (ho : OpR X (compareOp op) r) (ho' : OpR X (compareOp op') r') (ha : PE X a ta) (hb : PE X b tb) (hc : PE X c tc)
    (hm : lastMarks [op, op'] [b, c] = false := by with_unfolding_all rfl) : PE X (.Compare a [op, op'] [b, c] pos) (tChain r r' ta tb tc) := by
  intro pins s σ H Q I h
  refine Compare_chain (thn (ha pins s σ H _ I h) fun v s1 ⟨x, H1, I1, r1, q1⟩ => chain_link (thn (hb pins s1 σ H1 _ I1 q1) fun u s2 ⟨y, H2, I2, r2, q2⟩ =>
    thn (ho pins s2 σ H2 x y v u _ I2 r1 r2 q2) fun d s3 ⟨z, H3, I3, r3, k, e, q3⟩ => ?_)) hm
  subst e
  cases r3
  refine wpAny_truthy_bool ?_
  cases k with
  | false => exact ite_ff ⟨.bl false, H3, I3, rfl, q3⟩
  | true => exact ite_tt (chain_last (thn (hc pins s3 σ H3 _ I3 q3) fun w' s4 ⟨z', H4, I4, r4, q4⟩ => ho' pins s4 σ H4 y z' u w' Q I4 r2 r4 q4))
/-- a value's truth by the abstract heap -/
def TruV (K : PySem.W.Frag) (x : V) (H : Hp) (k : Bool) : Prop :=
  match x with
  | .non => k = false
  | .bl b => k = b
  | .int i => k = (i != 0)
  | .str y => y.length ≤ sizeLine ∧ k = ((y.length : Int) != 0)
  | .byt y => y.size ≤ sizeLine ∧ k = ((y.size : Int) != 0)
  | .ref p => (∃ xs, SqL K H p xs ∧ k = !xs.isEmpty) ∨ (∃ xs, SqT K H p xs ∧ k = !xs.isEmpty) ∨ ∃ kvs, H p = some (.dK kvs) ∧ k = !kvs.isEmpty
  | _ => False
theorem isEmpty_kv {κ : Type} {kvs : List (κ × V)} {vs : List (κ × Value)} (r : KV kvs vs) : (!vs.isEmpty) = !kvs.isEmpty := by
  cases r <;> rfl
theorem isEmpty_of {xs : List V} {its : List Value} (r : Vals xs its) : (!its.toArray.isEmpty) = !xs.isEmpty := by
  cases r <;> simp
theorem line63 : (sizeLine : Nat) < 2 ^ 63 := by rw [sizeLine_eq]; decide
theorem tru_ok : TruR X (fun x H Q => ∃ k, TruV X.K x H k ∧ Q k H) := by
  intro pins s σ H x v Q I rx h
  obtain ⟨k, e, q⟩ := h
  have hl := line63
  have hs : sizeLine = 16777216 := sizeLine_eq
  cases x with
  | non =>
    cases rx
    have e' : k = false := e
    subst e'
    exact truthy_none ⟨H, I, q⟩
  | bl b =>
    cases rx
    have e' : k = b := e
    subst e'
    exact wpAny_truthy_bool ⟨H, I, q⟩
  | int i =>
    obtain ⟨t, rfl⟩ := rx
    have e' : k = (i != 0) := e
    subst e'
    exact PySem.P.truthy_int ⟨H, I, q⟩
  | str y =>
    obtain ⟨t, rfl⟩ := rx
    obtain ⟨hy, e'⟩ : y.length ≤ sizeLine ∧ k = ((y.length : Int) != 0) := e
    subst e'
    exact PySem.P.truthy_str (by omega) ⟨H, I.tok _, q⟩
  | byt y =>
    obtain ⟨t, rfl⟩ := rx
    obtain ⟨hy, e'⟩ : y.size ≤ sizeLine ∧ k = ((y.size : Int) != 0) := e
    subst e'
    exact PySem.W.truthy_bytes (by omega) ⟨H, I.tok _, q⟩
  | ref p =>
    cases rx
    have e' : (∃ xs, SqL X.K H p xs ∧ k = !xs.isEmpty) ∨ (∃ xs, SqT X.K H p xs ∧ k = !xs.isEmpty) ∨ ∃ kvs, H p = some (.dK kvs) ∧ k = !kvs.isEmpty := e
    rcases e' with ⟨xs, hx, e'⟩ | ⟨xs, hx, e'⟩ | ⟨kvs, hx, e'⟩
    · subst e'
      obtain ⟨its, r, pl, hz⟩ := I.list hx
      have hlen := r.length
      exact wpAny_truthy_list pl.isList (by simp only [List.size_toArray]; omega) ⟨H, I.tok _, by rw [isEmpty_of r]; exact q⟩
    · subst e'
      obtain ⟨its, r, pl, hz⟩ := I.tuple hx
      have hlen := r.length
      exact truthy_tuple pl (by simp only [List.size_toArray]; omega) ⟨H, I.tok _, by rw [isEmpty_of r]; exact q⟩
    · subst e'
      obtain ⟨hz, hS, vs, r, m⟩ : kvs.length ≤ sizeLine ∧ (p == sysModules) = false ∧ ∃ vs, KV kvs vs ∧ s.heap.DictOf (mixKind X.prog X.w) p vs := I.hok p _ hx
      have hlen : kvs.length = vs.length := Paired.length r
      exact wpAny_truthy_dict hS m (by omega) ⟨H, I.tok _, by rw [isEmpty_kv r]; exact q⟩
  | _ => exact (show False from e).elim
/-- any expression whose test is its value's truth (a name, a call, a subscript, a field ..: he by fun _ => rfl) -/
theorem pt_truth (ha : PE X a ta) (he : ∀ whole, isTrue a X.env whole = (do let v ← whole; standAt a.pos; holding [v] (truthy v))) :
    PT X a (fun σ H Q => ta σ H fun x H' => ∃ k, TruV X.K x H' k ∧ Q k H') := by
  intro pins s σ H Q I h
  exact isTrue_plain (thn (ha pins s σ H _ I h) fun v s1 ⟨x, H1, I1, r1, q1⟩ => tru_ok pins s1 σ H1 x v Q I1 r1 q1) (he _)

theorem vals1 {x : V} {us : List Value} (r : Vals [x] us) : ∃ u, us = [u] ∧ RelV x u := by
  cases r with
  | cons r1 r2 => cases r2; exact ⟨_, rfl, r1⟩
theorem vals2 {x y : V} {us : List Value} (r : Vals [x, y] us) : ∃ u w', us = [u, w'] ∧ RelV x u ∧ RelV y w' := by
  cases r with
  | cons r1 r2 =>
    cases r2 with
    | cons r3 r4 => cases r4; exact ⟨_, _, rfl, r1, r3⟩
theorem call_min2 (hc : X.calm = true) : CallR X (.builtin "min") (fun xs H Q => ∃ i j, xs = [.int i, .int j] ∧ Q (.int (if j < i then j else i)) H) := by
  intro pins s σ H xs us Q I r h
  obtain ⟨i, j, rfl, q⟩ := h
  obtain ⟨u, w', rfl, ⟨t, rfl⟩, ⟨t', rfl⟩⟩ := vals2 r
  refine min_two_ints (I.ok.hd hc) fun h' tk k => ⟨_, H, I.kept k, ?_, q⟩
  by_cases hj : j < i
  · rw [if_pos hj, if_pos hj]; exact ⟨_, rfl⟩
  · rw [if_neg hj, if_neg hj]; exact ⟨_, rfl⟩
theorem call_ord : CallR X (.builtin "ord") (fun xs H Q => ∃ x, xs = [.str x] ∧ x.length = 1 ∧ Q (.int (x.cps.getD 0 0 : Nat)) H) := by
  intro pins s σ H xs us Q I r h
  obtain ⟨x, rfl, hz, q⟩ := h
  obtain ⟨u, rfl, t, rfl⟩ := vals1 r
  exact ord_of_one hz ⟨.int _, H, I.tok _, ⟨_, rfl⟩, q⟩
end
end L2

namespace L2
open PySem PySem.Spec PyProof.Rows

structure ObjM (h : Heap) (x dx C : Addr) (mA : Str → Option Value) : Prop where
  obj : h.get? x = some (PySem.W.instObj C dx)
  ns : h.Ns1 dx mA
  ne : dx ≠ x

theorem lookIn_ns {h : Heap} {dx : Addr} {mA : Str → Option Value} (n : h.Ns1 dx mA) : ∃ od, h.get? dx = some od ∧ ∀ name, PySem.W.lookIn name od = some (mA name) := by
  obtain ⟨o, es, ep, ho, hd, hk, _, hm⟩ := n
  refine ⟨o, ho, fun name => ?_⟩
  have e := hm name
  unfold nsFind findBy at e
  rw [← Array.find?_toList] at e
  unfold PySem.W.lookIn
  rw [hd]
  dsimp only
  split
  · rename_i y q
    rw [q] at e
    exact congrArg some e
  · rename_i q
    rw [q] at e
    have a : es.toList.any (·.refKey) = false := by
      rw [List.any_eq_false]
      intro y hy
      obtain ⟨z, t, hkey⟩ := hk y (Array.mem_toList_iff.mp hy)
      simp [DictEntry.refKey, hkey]
    have a' : ¬ es.toList.any (·.refKey) = true := by rw [a]; exact Bool.false_ne_true
    rw [if_neg a']
    exact congrArg some e

theorem ObjM.look {h : Heap} {x dx C : Addr} {mA : Str → Option Value} (I : ObjM h x dx C mA) : ∃ od, PySem.W.InstAt h x (PySem.W.instObj C dx) C (some od) ∧ ∀ name, PySem.W.lookIn name od = some (mA name) :=
  let ⟨od, ho, hl⟩ := lookIn_ns I.ns
  ⟨od, ⟨I.obj, rfl, rfl, ho⟩, hl⟩

section
variable {prog : Program} {w : World} {A : Around} {E : Value → Shared → Prop} {s : Shared} {K : PySem.W.Frag} {x dx C f : Addr} {mA : Str → Option Value} {name : Str} {v : Value}

theorem get_map {expr : Bool} {Q : Value → Shared → Prop} (X : K.In s.heap) (I : ObjM s.heap x dx C mA) (hg : PySem.W.plainGet K C name = true) (hh : PySem.W.hasDictIn K C = true)
    (ha : PySem.W.findIn K (.ref C) name = some none) (hv : mA name = some v) (hv' : PySem.W.handedIn v = true) (h : Q v { s with toks := s.toks + 1 }) :
    wpAny (model prog w) A (getAttr (.ref x) name expr) Q E s := by
  obtain ⟨od, J, hl⟩ := I.look
  exact PySem.W.get_value X J (PySem.W.plainGet_of hg).1 (PySem.W.findObj_own hh ha rfl (by rw [hl, hv])) hv' h

theorem set_map {ns : List Str} {Q : Unit → Shared → Prop} (X : K.In s.heap) (I : ObjM s.heap x dx C mA)
    (hs : PySem.W.findIn K (.ref C) "__setattr__" = some (some (.builtin "object.__setattr__"))) (hp : PySem.W.plainOver K C = true) (ht : PySem.W.takerIn K C name = some none) (hh : PySem.W.hasDictIn K C = true)
    (hw : PySem.Within mA ns) (hsz : ns.length ≤ sizeLine)
    (h : ∀ h', ObjM h' x dx C (fun y => if y = name then some v else mA y) → Heap.SameBut dx s.heap h' → Q () { s with heap := h', toks := s.toks + 2 }) :
    wpAny (model prog w) A (setAttr (.ref x) name v) Q E s := by
  obtain ⟨od, J, hl⟩ := I.look
  refine PySem.W.set_plain X J hs (PySem.W.osa_open (s := { s with toks := s.toks + 1 }) (r := none) X J hp ht fun b => ?_)
  obtain ⟨cd, hc, hd'⟩ := PySem.W.any_some hh
  have hx : s.heap.get? x = some ⟨.ref C, some dx, .plain, #[]⟩ := I.obj
  refine wpAny_bind (wpAny_pure (wpAny_bind (wpAny_bind (wpAny_loadPart hx (wpAny_bind (PySem.W.Looks.here (s := { s with toks := s.toks + 1 }) (PySem.W.looks_clsIn X hc) ?_))))))
  rw [hd']
  refine wpAny_pure (a := some dx) (wpAny_bind (wpAny_pure (wpAny_bind ?_)))
  refine wpAny_nsSet1 (s := { s with toks := s.toks + 1 }) I.ns fun h' hn2 hs2 => ?_
  obtain ⟨oD, esD, epD, hoD, hdD, hcD⟩ := hn2.count (PySem.Within.cons name v hw)
  refine wpAny_bind (wpAny_lookBehind hoD (by rw [hdD]; exact pastItsLine_dict (Nat.le_trans hcD (by rw [List.length_cons]; omega))) ?_)
  exact wpAny_pure (h _ ⟨(hs2.2 _ (Ne.symm I.ne)).trans I.obj, hn2, I.ne⟩ hs2)

/-- C(..): the dict at the heap's end, the instance behind it; then its __init__ -/
theorem make_map {R : Result → Shared → Prop} {vs : List Value} {kw : List (Str × Value)} (X : K.In s.heap) (hm : PySem.W.makesIn K C = true)
    (hi : PySem.W.findIn K (.ref C) "__init__" = some (some (.ref f))) (hf : PySem.W.typeIn K (.ref f) = some (.type "function"))
    (h : codeAny (model prog w) (A.under (.builtin "type.__call__" ⟨.ref C :: vs, kw⟩)) (.call (.ref f) ⟨.ref (s.heap.objs.size + 1) :: vs, kw⟩) (PySem.W.InitBack (s.heap.objs.size + 1) R)
      { s with heap := (s.heap.push PySem.W.emptyDict).push (PySem.W.instObj C s.heap.objs.size) }) :
    codeAny (model prog w) A (.call (.ref C) ⟨vs, kw⟩) R s := by
  obtain ⟨hh, g, d, t, os⟩ := s
  exact PySem.W.make_core (PySem.W.makes_of X hm) (PySem.W.looks_findIn X hi) (fun self => PySem.W.bind_fn X self hf) (.inl rfl) h
end

def putF (f : Str) (v : V) : List (Str × V) → List (Str × V)
  | [] => [(f, v)]
  | (g, x) :: r => if g = f then (g, v) :: r else (g, x) :: putF f v r
theorem lookup_putF (f g : Str) (v : V) : ∀ fs : List (Str × V), (putF f v fs).lookup g = if g = f then some v else fs.lookup g
  | [] => by
    show List.lookup g [(f, v)] = _
    by_cases h : g = f
    · have hb : (g == f) = true := beq_iff_eq.mpr h
      simp only [List.lookup, hb, if_pos h]
    · have hb : (g == f) = false := beq_eq_false_iff_ne.mpr h
      simp only [List.lookup, hb, if_neg h]
  | (k, x) :: r => by
    have ih := lookup_putF f g v r
    rw [show putF f v ((k, x) :: r) = (if k = f then (k, v) :: r else (k, x) :: putF f v r) from rfl]
    by_cases hk : k = f
    · rw [if_pos hk]
      by_cases h : g = k
      · have hb : (g == k) = true := beq_iff_eq.mpr h
        simp only [List.lookup, hb, if_pos (h.trans hk)]
      · have hb : (g == k) = false := beq_eq_false_iff_ne.mpr h
        simp only [List.lookup, hb, if_neg (fun e : g = f => h (e.trans hk.symm))]
    · rw [if_neg hk]
      by_cases h : g = k
      · have hb : (g == k) = true := beq_iff_eq.mpr h
        simp only [List.lookup, hb, if_neg (fun e : g = f => hk (h.symm.trans e))]
      · have hb : (g == k) = false := beq_eq_false_iff_ne.mpr h
        simp only [List.lookup, hb]
        exact ih
theorem keys_putF (f : Str) (v : V) : ∀ fs : List (Str × V), f ∈ (putF f v fs).map (·.1) ∧ ∀ g, g ∈ fs.map (·.1) → g ∈ (putF f v fs).map (·.1)
  | [] => ⟨by simp [putF], fun g h => by simp at h⟩
  | (k, x) :: r => by
    obtain ⟨i1, i2⟩ := keys_putF f v r
    rw [show putF f v ((k, x) :: r) = (if k = f then (k, v) :: r else (k, x) :: putF f v r) from rfl]
    by_cases hk : k = f
    · rw [if_pos hk]
      subst hk
      exact ⟨by simp, fun g h => by simpa using h⟩
    · rw [if_neg hk]
      refine ⟨?_, fun g h => ?_⟩
      · rw [List.map_cons]
        exact List.mem_cons_of_mem _ i1
      · rw [List.map_cons] at h ⊢
        rcases List.mem_cons.mp h with e | e
        · exact List.mem_cons.mpr (.inl e)
        · exact List.mem_cons_of_mem _ (i2 g e)
theorem length_putF (f : Str) (v : V) : ∀ fs : List (Str × V), (putF f v fs).length ≤ fs.length + 1
  | [] => by simp [putF]
  | (k, x) :: r => by
    have ih := length_putF f v r
    rw [show putF f v ((k, x) :: r) = (if k = f then (k, v) :: r else (k, x) :: putF f v r) from rfl]
    by_cases hk : k = f
    · rw [if_pos hk, List.length_cons, List.length_cons]; omega
    · rw [if_neg hk, List.length_cons, List.length_cons]; omega

theorem RelO.some_of {v : V} {o : Option Value} (r : RelO (some v) o) : ∃ u, o = some u ∧ RelV v u := by
  cases o with
  | none => exact (show False from r).elim
  | some u => exact ⟨u, rfl, r⟩
theorem handed_of {v : V} {u : Value} (r : RelV v u) : PySem.W.handedIn u = true := by
  cases v with
  | non => cases (show u = Value.none from r); rfl
  | bl b => cases (show u = Value.bool b from r); rfl
  | int i => obtain ⟨t, e⟩ := (show ∃ t, u = Value.int i t from r); cases e; rfl
  | str x => obtain ⟨t, e⟩ := (show ∃ t, u = Value.str x t from r); cases e; rfl
  | byt b => obtain ⟨t, e⟩ := (show ∃ t, u = Value.bytes b t from r); cases e; rfl
  | flt b => obtain ⟨t, e⟩ := (show ∃ t, u = Value.float b t from r); cases e; rfl
  | ref a => cases (show u = Value.ref a from r); rfl
  | ty n => cases (show u = Value.type n from r); rfl

section
variable {P : Program} {w : World} {H H' : Hp} {h h' : Heap} {a C dx : Addr} {fs fs' : List (Str × V)}
theorem ins_get (hok : HOk P w H h) (e : H a = some (.ins C dx fs)) : ∃ mA, ObjM h a dx C mA ∧ (∀ f, RelO (fs.lookup f) (mA f)) ∧ PySem.Within mA (fs.map (·.1)) ∧ fs.length ≤ 1000 ∧ H dx = some (.own a) := by
  obtain ⟨d, z, ne, ob, mA, n, r, q⟩ := (show ObjOk P w H h a (.ins C dx fs) from hok a _ e)
  exact ⟨mA, ⟨ob, n, ne⟩, r, q, z, d⟩
end

structure Cls (K : PySem.W.Frag) (C : Addr) : Prop where
  pg : PySem.W.plainGet K C Str.empty = true
  hd : PySem.W.hasDictIn K C = true
  po : PySem.W.plainOver K C = true
  sa : PySem.W.findIn K (.ref C) "__setattr__" = some (some (.builtin "object.__setattr__"))
theorem Cls.get {K : PySem.W.Frag} {C : Addr} (c : Cls K C) (f : Str) : PySem.W.plainGet K C f = true := c.pg
/-- no class of it has the name -/
def NoAttr (K : PySem.W.Frag) (C : Addr) (f : Str) : Prop := PySem.W.findIn K (.ref C) f = some none
theorem NoAttr.taker {K : PySem.W.Frag} {C : Addr} {f : Str} (n : NoAttr K C f) : PySem.W.takerIn K C f = some none := by
  unfold PySem.W.takerIn
  rw [show PySem.W.findIn K (.ref C) f = some none from n]
  rfl
section
variable {X : Cx} {pins : List (Addr × Obj)} {σ : St} {H : Hp} {s : Shared} {a C dx : Addr} {fs : List (Str × V)} {f : Str} {v : V} {A : Around} {E : Value → Shared → Prop}

theorem getattr_ok {b : Bool} {Q : Value → Shared → Prop} (I : Inv X pins σ H s) (e : H a = some (.ins C dx fs)) (c : Cls X.K C) (n : NoAttr X.K C f) (l : fs.lookup f = some v)
    (h : ∀ u s', Inv X pins σ H s' → RelV v u → Q u s') : wpAny (model X.prog X.w) A (getAttr (.ref a) f b) Q E s := by
  obtain ⟨mA, O, r, _, _, _⟩ := ins_get I.hok e
  obtain ⟨u, hu, ru⟩ := RelO.some_of (v := v) (o := mA f) (by rw [← l]; exact r f)
  exact get_map I.kIn O (c.get f) c.hd n hu (handed_of ru) (h u _ (I.tok _) ru)

theorem setattr_ok {y : V} {u : Value} {Q : Unit → Shared → Prop} (I : Inv X pins σ H s) (e : H a = some (.ins C dx fs)) (c : Cls X.K C) (n : NoAttr X.K C f) (hl : fs.length < 1000) (ry : RelV y u)
    (h : ∀ s', Inv X pins σ (upd H a (.ins C dx (putF f y fs))) s' → Q () s') : wpAny (model X.prog X.w) A (setAttr (.ref a) f u) Q E s := by
  obtain ⟨mA, O, r, wi, _, ho⟩ := ins_get I.hok e
  have hz : (fs.map (·.1)).length ≤ sizeLine := by rw [List.length_map, sizeLine_eq]; omega
  refine set_map I.kIn O c.sa c.po n.taker c.hd wi hz fun h' O' sb => h _ ?_
  have hd : ∃ o, h'.get? dx = some o := let ⟨o, _, _, e', _⟩ := O'.ns; ⟨o, e'⟩
  refine I.write (x := a) (e := dx) (by rw [e]; exact True.intro) (.inr ho) (fun b q hb z => (sb.2 b hb).trans z) hd ?_
  refine ⟨by rw [upd_ne O.ne]; exact ho, ?_, O.ne, O'.obj, _, O'.ns, fun g => ?_, fun g hg => ?_⟩
  · have := length_putF f y fs; omega
  · show RelO ((putF f y fs).lookup g) (if g = f then some u else mA g)
    rw [lookup_putF]
    by_cases q : g = f
    · rw [if_pos q, if_pos q]; exact ry
    · rw [if_neg q, if_neg q]; exact r g
  · by_cases q : g = f
    · rw [q]; exact (keys_putF f y fs).1
    · refine (keys_putF f y fs).2 g (wi g fun z => hg ?_)
      show (if g = f then some u else mA g) = none
      rw [if_neg q]; exact z

/-- a new instance, tracked, without attributes -/
theorem Inv.made (I : Inv X pins σ H s) : Inv X pins σ (upd (upd H s.heap.objs.size (.own (s.heap.objs.size + 1))) (s.heap.objs.size + 1) (.ins C s.heap.objs.size []))
    { s with heap := (s.heap.push PySem.W.emptyDict).push (PySem.W.instObj C s.heap.objs.size) } := by
  have e1 : (s.heap.push PySem.W.emptyDict).get? s.heap.objs.size = some PySem.W.emptyDict := Heap.get?_push_size s.heap rfl
  have e2 : ((s.heap.push PySem.W.emptyDict).push (PySem.W.instObj C s.heap.objs.size)).get? (s.heap.objs.size + 1) = some (PySem.W.instObj C s.heap.objs.size) := by
    have := Heap.get?_push_size (s.heap.push PySem.W.emptyDict) (o := PySem.W.instObj C s.heap.objs.size) rfl
    rwa [Heap.size_push] at this
  have e3 : (s.heap.push PySem.W.emptyDict).Ns s.heap.objs.size (fun _ => none) := ⟨PySem.W.emptyDict, #[], _, e1, rfl, (fun e he => absurd he (by simp)), fun _ => rfl⟩
  have I1 := I.laid (a := s.heap.objs.size) (o := .own (s.heap.objs.size + 1)) (h' := s.heap.push PySem.W.emptyDict) (t' := s.toks) (fun b u q => Heap.get?_push_of_some _ q) (Nat.le_refl _) ⟨_, e1⟩
  refine I1.laid (a := s.heap.objs.size + 1) (o := .ins C s.heap.objs.size []) (t' := s.toks) (fun b u q => Heap.get?_push_of_some _ q) (Nat.le_of_eq (Heap.size_push _ _)) ?_
  have ne : s.heap.objs.size ≠ s.heap.objs.size + 1 := Nat.ne_of_lt (Nat.lt_succ_self _)
  refine ⟨by rw [upd_ne ne, upd_same], Nat.zero_le _, ne, e2, fun _ => none, (Heap.Ns1.of_empty e3).at fun o q => Heap.get?_push_of_some _ q, fun _ => True.intro, fun y hy => absurd rfl hy⟩

/-- e.f where nothing but the object is asked: through attributeBase (super) and the last hold -/
theorem attr_of {prog : Program} {w : World} {env : Env} {e : Expr} {f : Str} {pos : Pos} {s : Shared} {Q : Value → Shared → Prop} (hb : attributeBase e f env (eval e env) = eval e env)
    (h : wpAny (model prog w) A (eval e env) (fun o s₁ => wpAny (model prog w) A (getAttr o f true) Q E s₁) E s) : wpAny (model prog w) A (eval (.Attribute e f pos) env) Q E s :=
  Attribute_any_ h (by rw [arm_eval_Attribute, hb])
end

/-- e.f, an attribute of the instance -/
def tFld (K : PySem.W.Frag) (ta : TE) (f : Str) : TE := fun σ H Q => ta σ H fun x H1 => ∃ a C dx fs v, x = .ref a ∧ H1 a = some (.ins C dx fs) ∧ Cls K C ∧ NoAttr K C f ∧ fs.lookup f = some v ∧ Q v H1
/-- e.f = value -/
def sFld (K : PySem.W.Frag) (ta tv : TE) (f : Str) : TS := fun D σ H => tv σ H fun y H1 => ta σ H1 fun x H2 => ∃ a C dx fs, x = .ref a ∧ H2 a = some (.ins C dx fs) ∧ Cls K C ∧ NoAttr K C f ∧ fs.length < 1000 ∧
  D.nx σ (upd H2 a (.ins C dx (putF f y fs)))
section
variable {X : Cx} {o e value : Expr} {f : Str} {pos pos' tpos : Pos} {ta tv : TE}
theorem pe_fld (he : PE X e ta) (hb : attributeBase e f X.env (eval e X.env) = eval e X.env) : PE X (.Attribute e f pos) (tFld X.K ta f) := by
  intro pins s σ H Q I h
  refine attr_of hb (thn (he pins s σ H _ I h) fun u s1 ⟨x, H1, I1, rx, a, C, dx, fs, v, ex, ea, c, n, l, q⟩ => ?_)
  subst ex
  obtain rfl : u = Value.ref a := rx
  exact getattr_ok I1 ea c n l fun u' s2 I2 ru => ⟨v, H1, I2, ru, q⟩
theorem ps_fld (ha : PE X o ta) (hv : PE X value tv) (hs : swapsWith value (some (.Attribute o f pos')) pos.line X.env = pure false) : PS X (.Assign [.Attribute o f pos'] value pos) (sFld X.K ta tv f) := by
  intro pins s σ H D I h
  refine plainObj_wpAny_Assign_Attribute (thn (hv pins s σ H _ I h) fun u s1 ⟨y, H1, I1, ry, q⟩ => thn (ha pins s1 σ H1 _ I1 q) fun ov s2 ⟨x, H2, I2, rx, a, C, dx, fs, ex, ea, c, n, l, q2⟩ => ?_) hs
  subst ex
  obtain rfl : ov = Value.ref a := rx
  exact setattr_ok I2 ea c n l ry fun s3 I3 => ⟨σ, _, I3, q2⟩
end

section
variable {X : Cx} {pins : List (Addr × Obj)} {σ : St} {H : Hp} {s : Shared} {A : Around} {E : Value → Shared → Prop} {Q : Value → Shared → Prop} {c : Value} {b : Bool}
end
end L2

namespace L2
open PySem PySem.Spec PyProof.Rows

structure Room (k : Nat) (A : Around) : Prop where
  hd : A.handled = none
  dp : A.depth + 3 * k + 5 < recursionLimit
  un : A.units + 16 * k + 200 < cLine
theorem Room.mono {j k : Nat} {A : Around} (r : Room k A) (h : j ≤ k) : Room j A := ⟨r.hd, by have := r.dp; omega, by have := r.un; omega⟩
theorem Room.deeper {k : Nat} {A : Around} (r : Room (k + 1) A) (env : Env) : Room k (A.deeper env) :=
  ⟨r.hd, by have := r.dp; show A.depth + 1 + 3 * k + 5 < _; omega, by have := r.un; show A.units + 3 + 16 * k + 200 < _; omega⟩
theorem make_depth {A : Around} {C : Addr} {us : List Value} {kw : List (Str × Value)} : (A.under (.builtin "type.__call__" ⟨.ref C :: us, kw⟩)).depth = A.depth + 1 := by
  first | rfl | simp [Around.under, Code.weight, Code.isCreation, Code.isGuard, Code.isCaller, Code.frames, Code.isFrame, guardIds]
theorem make_units {A : Around} {C : Addr} {us : List Value} {kw : List (Str × Value)} : (A.under (.builtin "type.__call__" ⟨.ref C :: us, kw⟩)).units = A.units + 1 := by
  first | rfl | simp [Around.under, Code.cUnits, Code.frames, Code.isFrame]
theorem Room.make {k : Nat} {A : Around} (r : Room (k + 1) A) (C : Addr) (us : List Value) (kw : List (Str × Value)) : Room k (A.under (.builtin "type.__call__" ⟨.ref C :: us, kw⟩)) :=
  ⟨r.hd, by have := r.dp; rw [make_depth]; omega, by have := r.un; rw [make_units]; omega⟩
theorem Room.depth {k : Nat} {A : Around} (r : Room k A) : A.depth < recursionLimit := by have := r.dp; omega
theorem Room.units {k : Nat} {A : Around} (r : Room k A) : A.units + 64 < cLine := by have := r.un; omega
def tNil : TA := fun _ H Q => Q [] H
def tCons (ta : TE) (tr : TA) : TA := fun σ H Q => ta σ H fun x H1 => tr σ H1 fun xs H2 => Q (x :: xs) H2
section
variable {X : Cx} {e : Expr} {es : List Expr} {te : TE} {t : TA} {pos : Pos}
theorem pa_nil : PA X [] tNil := fun _ _ _ _ H Q I h => Calls.spliced_nil ⟨[], H, I, .nil, h⟩
theorem pa_cons (ha : PE X e te) (hr : PA X es t) (hs : starEach (e :: es) X.env = (false, eval e X.env) :: starEach es X.env := by rfl) : PA X (e :: es) (tCons te t) := by
  intro pos pins s σ H Q I h
  rw [hs]
  show wpAny _ _ (spliced ((false, eval e X.env) :: backTo pos (starEach es X.env))) _ _ s
  refine Calls.spliced_cons (thn (ha pins s σ H _ I h) fun u s1 ⟨x, H1, I1, r1, q1⟩ => ?_)
  exact thn (hr pos pins s1 σ H1 _ I1 q1) fun us s2 ⟨xs, H2, I2, r2, q2⟩ => ⟨x :: xs, H2, I2, .cons r1 r2, q2⟩

/-- a tuple, a list of written items -/
def tTup (t : TA) : TE := fun σ H Q => t σ H fun xs H1 => xs.length ≤ sizeLine ∧ ∀ p, H1 p = none → Q (.ref p) (upd H1 p (.tup xs))
def tLst (t : TA) : TE := fun σ H Q => t σ H fun xs H1 => xs.length ≤ sizeLine ∧ ∀ p, H1 p = none → Q (.ref p) (upd H1 p (.lst xs))
theorem pe_tup {x1} (h : PA X es t) : PE X (.Tuple es x1 pos) (tTup t) := by
  intro pins s σ H Q I hq
  refine wpAny_Tuple_spliced (thn (h pos pins s σ H _ I hq) fun us s1 ⟨xs, H1, I1, r, z, q⟩ => ⟨by rw [← r.length]; exact z, ?_⟩)
  have hf : H1 s1.heap.objs.size = none := I1.hok.fresh (Nat.le_refl _)
  refine ⟨.ref s1.heap.objs.size, upd H1 s1.heap.objs.size (.tup xs), I1.laid (t' := s1.toks) (fun b u e => Heap.get?_push_of_some _ e) (Nat.le_refl _) ?_, rfl, q _ hf⟩
  exact ⟨z, us, r, ⟨_, Heap.get?_push_size _ rfl, rfl, _, rfl⟩⟩
theorem pe_lst (h : PA X es t) : PE X (.List es pos) (tLst t) := by
  intro pins s σ H Q I hq
  refine wpAny_List_spliced (thn (h pos pins s σ H _ I hq) fun us s1 ⟨xs, H1, I1, r, z, q⟩ => ⟨by rw [← r.length]; exact z, ?_⟩)
  have hf : H1 s1.heap.objs.size = none := I1.hok.fresh (Nat.le_refl _)
  refine ⟨.ref s1.heap.objs.size, upd H1 s1.heap.objs.size (.lst xs), I1.laid (t' := s1.toks) (fun b u e => Heap.get?_push_of_some _ e) (Nat.le_refl _) ?_, rfl, q _ hf⟩
  exact ⟨z, us, 0, r, Heap.get?_push_size _ rfl⟩
end

/-- a def's promise: the bound arguments in the parameters' order, the heap, the wanted end, the wanted exception -/
abbrev Sp := List V → Hp → VK → XK → Prop
/-- how an exception lies behind a call (file 08 gives it): the callers' frames, abstract heap and state ahead of the call, the wish, the exception, the state -/
abbrev CXT := List Env → Hp → Shared → XK → Value → Shared → Prop

/-- the state at a call -/
structure Env0 (P : Program) (w : World) (K : PySem.W.Frag) (mg : Str → Option Value) (base : Heap) (A : Around) (outer : List Env) (s : Shared) (H : Hp) : Prop where
  frames : A.frames = some outer
  mod : Mod K mg base
  bs : ∀ b o, base.get? b = some o → s.heap.get? b = some o ∧ H b = none
  bsz : base.objs.size ≤ s.heap.objs.size
  funs : s.heap.FunFrames base outer
  frf : ∀ b ∈ frs outer, H b = none
  hok : HOk P w H s.heap
  bare : AllBare s.gens
/-- a call's end -/
def CE (outer : List Env) (P : Program) (w : World) (H : Hp) (s : Shared) (Q : VK) (u : Value) (s' : Shared) : Prop :=
  ∃ v H', s'.os = s.os ∧ AllBare s'.gens ∧ Un (frs outer) [] H H' s.heap s'.heap ∧ HOk P w H' s'.heap ∧ RelV v u ∧ Q v H'
def CR (CX : CXT) (outer : List Env) (P : Program) (w : World) (H : Hp) (s : Shared) (Q : VK) (E : XK) (r : Result) (s' : Shared) : Prop :=
  match r with
  | .ok (.ret u) => CE outer P w H s Q u s'
  | .ok _ => False
  | .error e => CX outer H s E e s'
structure FnOk (P : Program) (w : World) (K : PySem.W.Frag) (mg : Str → Option Value) (base : Heap) (CX : CXT) (k : Nat) (f : Addr) (fd : FuncData) (ps : List Str) (sp : Sp) : Prop where
  len : ∀ vs H Q E, sp vs H Q E → vs.length = ps.length
  run : ∀ (A : Around) (outer : List Env) (s : Shared) (H : Hp) (args : Args) (us : List Value) (vs : List V) (Q : VK) (E : XK), Room k A → Env0 P w K mg base A outer s H → BindsTo s fd args (ps.zip us) → Vals vs us → sp vs H Q E →
    codeAny (model P w) A (.call (.ref f) args) (CR CX outer P w H s Q E) s
theorem Env0.make {P : Program} {w : World} {K : PySem.W.Frag} {mg : Str → Option Value} {base : Heap} {A : Around} {outer : List Env} {s : Shared} {H : Hp} (e : Env0 P w K mg base A outer s H) (C : Addr) (us : List Value) (kw : List (Str × Value)) :
    Env0 P w K mg base (A.under (.builtin "type.__call__" ⟨.ref C :: us, kw⟩)) outer s H := ⟨by first | exact e.frames | (simpa [Around.under, Code.envs, Code.isFrame, pushEnvs] using e.frames), e.mod, e.bs, e.bsz, e.funs, e.frf, e.hok, e.bare⟩
section
variable {X : Cx} {pins : List (Addr × Obj)} {σ : St} {H : Hp} {s s' : Shared}
/-- from a body: what a callee wants -/
theorem Inv.env0 (I : Inv X pins σ H s) : Env0 X.prog X.w X.K X.mg X.base X.A X.stack s H :=
  ⟨I.ok.frames, I.ok.mod, I.bs, Nat.le_trans I.ok.bsz I.sz, I.stack, I.stkFree, I.hok, I.bare⟩
/-- behind a call -/
theorem Inv.after {Q : VK} {u : Value} (I : Inv X pins σ H s) (h : CE X.stack X.prog X.w H s Q u s') : EP X pins σ Q u s' := by
  obtain ⟨v, H', os, bare, un, hok, r, q⟩ := h
  obtain ⟨hh, g, d, t, os'⟩ := s'
  obtain rfl : os' = s.os := os
  exact ⟨v, H', I.call (h' := hh) (g' := g) (d' := d) (t' := t) (ch := []) un hok bare (fun b z => absurd z (by simp)), r, q⟩
end

/-- f(..): the written arguments, then the defaults dvs; E: what is wanted of an exception -/
def tCall (sp : Sp) (dvs : List V) (E : XK) (t : TA) : TE := fun σ H Q => t σ H fun vs H1 => sp (vs ++ dvs) H1 Q E
/-- C(..): a new instance and its dict, then __init__ -/
def tMake (C : Addr) (sp : Sp) (dvs : List V) (E : XK) (t : TA) : TE := fun σ H Q => t σ H fun vs H1 => ∀ x dx, H1 x = none → H1 dx = none → dx ≠ x →
  sp (.ref x :: (vs ++ dvs)) (upd (upd H1 dx (.own x)) x (.ins C dx [])) (fun v H2 => v = .non ∧ Q (.ref x) H2) E

/-- how the parameters are bound: us the positional arguments, kw the keywords' values by name, ds the defaults that fill up -/
def Binds (K : PySem.W.Frag) (fd : FuncData) (ps : List Str) (ds : List Value) : Prop :=
  ∀ (s : Shared) (us : List Value), K.In s.heap → (us ++ ds).length = ps.length → BindsTo s fd ⟨us, []⟩ (ps.zip (us ++ ds))
/-- every parameter is given -/
theorem Binds.all {K : PySem.W.Frag} {fd : FuncData} {ps : List Str} (h : ∀ us : List Value, us.length = ps.length → bindArgs fd ⟨us, []⟩ = pure (ps.zip us)) : Binds K fd ps [] := fun s us _ hl => by
  rw [List.append_nil] at hl ⊢
  exact .of_eq (h us hl)

/-- an exception of a callee reaches what this body wants of exceptions -/
def Passes (CX : CXT) (X : Cx) (E : XK) : Prop := ∀ (pins : List (Addr × Obj)) (σ : St) (H : Hp) (s : Shared) (e : Value) (s' : Shared), Inv X pins σ H s → CX X.stack H s E e s' → X.xe e s'

section
variable {X : Cx} {CX : CXT} {k : Nat} {f C : Addr} {fd : FuncData} {ps : List Str} {sp : Sp} {dvs : List V} {ds : List Value} {E : XK} {x m : Str} {p pos apos : Pos} {e o : Expr} {es : List Expr} {ta : TE} {t : TA}

/-- the callee runs -/
theorem run_fn {pins : List (Addr × Obj)} {σ : St} {H : Hp} {s : Shared} {Q : VK} {us : List Value} {vs : List V} (F : FnOk X.prog X.w X.K X.mg X.base CX k f fd ps sp) (hr : Room k X.A) (hb : Binds X.K fd ps ds) (hd : Vals dvs ds) (hx : Passes CX X E)
    (I : Inv X pins σ H s) (r : Vals vs us) (h : sp (vs ++ dvs) H Q E) : wpAny (model X.prog X.w) X.A (call (.ref f) us) (EP X pins σ Q) X.xe s := by
  have r2 : Vals (vs ++ dvs) (us ++ ds) := r.append hd
  have hl : (us ++ ds).length = ps.length := by rw [← r2.length]; exact F.len _ _ _ _ h
  refine wpAny_call (codeAny_mono (F.run X.A X.stack s H ⟨us, []⟩ (us ++ ds) (vs ++ dvs) Q E hr I.env0 (hb s us I.kIn hl) r2 h) fun r s' hq => ?_)
  cases r with
  | error e => exact hx pins σ H s e s' I hq
  | ok fl =>
    cases fl with
    | ret u => exact I.after hq
    | next => exact False.elim hq
    | brk => exact False.elim hq
    | cont => exact False.elim hq

theorem pe_call (F : FnOk X.prog X.w X.K X.mg X.base CX k f fd ps sp) (hr : Room k X.A) (hg : Gl X x) (hm : X.mg x = some (.ref f)) (hk : PySem.W.keepIn X.K (.ref f) = true) (hb : Binds X.K fd ps ds) (hd : Vals dvs ds) (hx : Passes CX X E)
    (ha : PA X (e :: es) t) (hdb : (x == ("__debug__" : Str)) = false := by decide) (he : starEach (e :: es) X.env = (false, eval e X.env) :: starEach es X.env := by rfl) (hpl : (backTo pos (starEach es X.env)).any (·.1) = false := by rfl) :
    PE X (.Call (.Name x p) (e :: es) [] pos) (tCall sp dvs E t) := by
  intro pins s σ H Q I h
  refine wpAny_Call_Name_kw (ld_glob I hg hm ?_ hdb)
  refine PySem.W.callWith_K (h₀ := X.base) I.ok.mod.kin hk (thn (ha pos pins s σ H _ I h) fun us s1 ⟨vs, H1, I1, r, q⟩ => ⟨I1.kIn, ?_⟩) he hpl
  exact run_fn F hr hb hd hx I1 r q
/-- what a class must have to be made -/
structure Mk (K : PySem.W.Frag) (C f : Addr) : Prop where
  makes : PySem.W.makesIn K C = true
  init : PySem.W.findIn K (.ref C) "__init__" = some (some (.ref f))
  fn : PySem.W.isFn K (.ref f) = true
  kp : PySem.W.keepIn K (.ref C) = true

theorem run_make {pins : List (Addr × Obj)} {σ : St} {H : Hp} {s : Shared} {Q : VK} {us : List Value} {vs : List V} (M : Mk X.K C f) (F : FnOk X.prog X.w X.K X.mg X.base CX k f fd ps sp) (hr : Room (k + 1) X.A) (hb : Binds X.K fd ps ds) (hd : Vals dvs ds)
    (hx : Passes CX X E) (I : Inv X pins σ H s) (r : Vals vs us)
    (h : ∀ x dx, H x = none → H dx = none → dx ≠ x → sp (.ref x :: (vs ++ dvs)) (upd (upd H dx (.own x)) x (.ins C dx [])) (fun v H2 => v = .non ∧ Q (.ref x) H2) E) :
    wpAny (model X.prog X.w) X.A (call (.ref C) us) (EP X pins σ Q) X.xe s := by
  have hq := h (s.heap.objs.size + 1) s.heap.objs.size (I.hok.fresh (Nat.le_succ _)) (I.hok.fresh (Nat.le_refl _)) (Nat.ne_of_lt (Nat.lt_succ_self _))
  have I2 := Inv.made (C := C) I
  have r2 : Vals (V.ref (s.heap.objs.size + 1) :: (vs ++ dvs)) (Value.ref (s.heap.objs.size + 1) :: (us ++ ds)) := .cons rfl (r.append hd)
  have hl : (Value.ref (s.heap.objs.size + 1) :: us ++ ds).length = ps.length := by
    have e := r2.length
    rw [F.len _ _ _ _ hq] at e
    exact e.symm
  refine wpAny_call (make_map (f := f) I.kIn M.makes M.init (beq_iff_eq.mp M.fn) (codeAny_mono (F.run _ X.stack _ _ ⟨Value.ref (s.heap.objs.size + 1) :: us, []⟩ (Value.ref (s.heap.objs.size + 1) :: (us ++ ds)) _ _ E (hr.make C us [])
    (I2.env0.make C us []) (hb _ (Value.ref (s.heap.objs.size + 1) :: us) I2.kIn hl) r2 hq) fun r s' hq' => ?_))
  cases r with
  | error e => exact hx pins σ _ _ e s' I2 hq'
  | ok fl =>
    cases fl with
    | ret u =>
      obtain ⟨v, H', I3, rv, ev, q3⟩ := I2.after hq'
      subst ev
      exact ⟨rv, ⟨V.ref (s.heap.objs.size + 1), H', I3, rfl, q3⟩⟩
    | next => exact False.elim hq'
    | brk => exact False.elim hq'
    | cont => exact False.elim hq'
theorem pe_make (M : Mk X.K C f) (F : FnOk X.prog X.w X.K X.mg X.base CX k f fd ps sp) (hr : Room (k + 1) X.A) (hg : Gl X x) (hm : X.mg x = some (.ref C)) (hb : Binds X.K fd ps ds) (hd : Vals dvs ds) (hx : Passes CX X E)
    (ha : PA X (e :: es) t) (hdb : (x == ("__debug__" : Str)) = false := by decide) (he : starEach (e :: es) X.env = (false, eval e X.env) :: starEach es X.env := by rfl) (hpl : (backTo pos (starEach es X.env)).any (·.1) = false := by rfl) :
    PE X (.Call (.Name x p) (e :: es) [] pos) (tMake C sp dvs E t) := by
  intro pins s σ H Q I h
  refine wpAny_Call_Name_kw (ld_glob I hg hm ?_ hdb)
  refine PySem.W.callWith_K (h₀ := X.base) I.ok.mod.kin M.kp (thn (ha pos pins s σ H _ I h) fun us s1 ⟨vs, H1, I1, r, q⟩ => ⟨I1.kIn, ?_⟩) he hpl
  exact run_make M F hr hb hd hx I1 r q
theorem pe_make0 (M : Mk X.K C f) (F : FnOk X.prog X.w X.K X.mg X.base CX k f fd ps sp) (hr : Room (k + 1) X.A) (hg : Gl X x) (hm : X.mg x = some (.ref C)) (hb : Binds X.K fd ps ds) (hd : Vals dvs ds) (hx : Passes CX X E)
    (hdb : (x == ("__debug__" : Str)) = false := by decide) : PE X (.Call (.Name x p) [] [] pos) (tMake C sp dvs E tNil) := by
  intro pins s σ H Q I h
  refine wpAny_Call_Name_kw (ld_glob I hg hm ?_ hdb)
  exact PySem.W.callWith_K0 I.kIn M.kp (run_make (us := []) M F hr hb hd hx I .nil h)
end

section
variable {X : Cx} {CX : CXT} {k : Nat} {f C : Addr} {fd : FuncData} {ps ks : List Str} {sp : Sp} {E : XK} {x m : Str} {p pos apos kpos : Pos} {e o : Expr} {es : List Expr} {kws : List Keyword} {te ta : TE} {t tk : TA} {nm : Option Str}
variable {g : List Value → List Value → List Value} {gV : List V → List V → List V}
end

/-- names: the parameters first -/
structure FnScope (N P : List Str) (sc : Scope) : Prop where
  kind : sc.kind = .function
  co : sc.isCoroutine = false
  gen : sc.isGenerator = false
  nd : N.Nodup
  pre : N.take P.length = P
  par : ∀ x ∈ P, sc.names.lookup x = some .local ∨ sc.names.lookup x = some .cell
  nofree : ∀ y ∈ sc.names, y.2 ≠ .free

theorem bindL_out {kindOf : Str → Option NameKind} {x : Str} : ∀ {binds : List (Str × Value)} {m : Str → Option Value}, (∀ v, (x, v) ∉ binds) → bindL kindOf binds m x = m x
  | [], _, _ => rfl
  | (n, v) :: r, m, h => by
    unfold bindL
    rw [bindL_out fun w hw => h w (List.mem_cons_of_mem _ hw)]
    split
    · have : x ≠ n := by rintro rfl; exact h v List.mem_cons_self
      simp [this]
    · rfl
theorem bindC_out {kindOf : Str → Option NameKind} {x : Str} : ∀ {binds : List (Str × Value)} {m : Str → Option Value}, (∀ v, (x, v) ∉ binds) → bindC kindOf binds m x = m x
  | [], _, _ => rfl
  | (n, v) :: r, m, h => by
    unfold bindC
    rw [bindC_out fun w hw => h w (List.mem_cons_of_mem _ hw)]
    split
    · rfl
    · have : x ≠ n := by rintro rfl; exact h v List.mem_cons_self
      simp [this]
theorem bindL_get {kindOf : Str → Option NameKind} {x : Str} {v : Value} : ∀ {P : List Str} {vs : List Value} {i : Nat} {m : Str → Option Value}, P.Nodup → P[i]? = some x → vs[i]? = some v → kindOf x = some .local →
    bindL kindOf (P.zip vs) m x = some v
  | [], _, _, _, _, h, _, _ => by simp at h
  | _ :: _, [], _, _, _, _, h, _ => by simp at h
  | p :: P, w :: vs, 0, m, nd, h1, h2, hk => by
    simp at h1 h2; subst h1; subst h2
    show bindL kindOf ((p, w) :: P.zip vs) m p = _
    unfold bindL
    rw [bindL_out fun v hv => (List.nodup_cons.mp nd).1 (List.of_mem_zip hv).1, if_pos hk]
    simp
  | p :: P, w :: vs, i + 1, m, nd, h1, h2, hk => by
    show bindL kindOf ((p, w) :: P.zip vs) m x = _
    unfold bindL
    exact bindL_get (i := i) (List.nodup_cons.mp nd).2 (by simpa using h1) (by simpa using h2) hk
theorem bindC_get {kindOf : Str → Option NameKind} {x : Str} {v : Value} : ∀ {P : List Str} {vs : List Value} {i : Nat} {m : Str → Option Value}, P.Nodup → P[i]? = some x → vs[i]? = some v → kindOf x ≠ some .local →
    bindC kindOf (P.zip vs) m x = some v
  | [], _, _, _, _, h, _, _ => by simp at h
  | _ :: _, [], _, _, _, _, h, _ => by simp at h
  | p :: P, w :: vs, 0, m, nd, h1, h2, hk => by
    simp at h1 h2; subst h1; subst h2
    show bindC kindOf ((p, w) :: P.zip vs) m p = _
    unfold bindC
    rw [bindC_out fun v hv => (List.nodup_cons.mp nd).1 (List.of_mem_zip hv).1, if_neg hk]
    simp
  | p :: P, w :: vs, i + 1, m, nd, h1, h2, hk => by
    show bindC kindOf ((p, w) :: P.zip vs) m x = _
    unfold bindC
    exact bindC_get (i := i) (List.nodup_cons.mp nd).2 (by simpa using h1) (by simpa using h2) hk

/-- the names' values at the entry -/
def start (N : List Str) (vs : List V) : St := vs.map some ++ List.replicate (N.length - vs.length) none

/-- the context of a def's body, at its entry; an exception leaves the frame, then lies as CX says -/
def cxOf (CX : CXT) (P : Program) (w : World) (K : PySem.W.Frag) (mg : Str → Option Value) (base : Heap) (N : List Str) (qual : Str) (scope : Scope) (f : Addr) (cd : Value) (A : Around) (outer : List Env) (s : Shared) (H : Hp) (E : XK) : Cx where
  prog := P
  w := w
  K := K
  mg := mg
  base := base
  A := A.deeper (envOfC qual scope s.heap.objs.size f cd)
  N := N
  s_0 := s
  H_0 := H
  env := envOfC qual scope s.heap.objs.size f cd
  outer := outer
  stack := envOfC qual scope s.heap.objs.size f cd :: outer
  ex := []
  calm := true
  fn := fun _ => true
  pn := []
  xe := fun e s' => wpAny (model P w) (A.deeper (envOfC qual scope s.heap.objs.size f cd)) (leaving (envOfC qual scope s.heap.objs.size f cd) e) (fun _ s'' => CX outer H s E e s'') (fun e' s'' => CX outer H s E e' s'') s'

theorem cell_has {sc : Scope} {n : Nat} {x : Str} (h : sc.names.lookup x = some .cell) : ∃ c, (cellsFrom n sc.names []).lookup x = some c := by
  have q := PySem.W.cellsFrom_some sc.names n [] (.inl h)
  exact Option.isSome_iff_exists.mp q

theorem inv_start {CX : CXT} {P : Program} {w : World} {K : PySem.W.Frag} {mg : Str → Option Value} {base : Heap} {N ps : List Str} {qual : Str} {scope : Scope} {f : Addr} {cd : Value} {A : Around} {outer : List Env} {s s1 : Shared} {H : Hp} {E : XK} {us : List Value} {vs : List V}
    (S : FnScope N ps scope) (hd : A.handled = none) (e0 : Env0 P w K mg base A outer s H) (hl : vs.length = ps.length) (r : Vals vs us)
    (x : InCallC s s.heap.objs.size (bindL (envOfC qual scope s.heap.objs.size f cd).kindOf (ps.zip us) fun _ => none) (cellsFrom (s.heap.objs.size + 1) scope.names []) (bindC (envOfC qual scope s.heap.objs.size f cd).kindOf (ps.zip us) fun _ => none) s1) :
    Inv (cxOf CX P w K mg base N qual scope f cd A outer s H E) [] (start N vs) H s1 := by
  have hpl : ps.length ≤ N.length := by have := congrArg List.length S.pre; rw [List.length_take] at this; omega
  obtain ⟨h1, tk, rfl, hk⟩ := x.done
  have noA : ∀ b : Addr, b ∉ (cxOf CX P w K mg base N qual scope f cd A outer s H E).ex := fun b z => absurd (show b ∈ ([] : List Addr) from z) (by simp)
  refine ⟨⟨e0.mod, S.kind, rfl, rfl, Nat.le_refl _, fun y z c h1 h2 => ?_, fun y hy => ?_, fun y c _ h => ?_, fun _ => hd, Around.frames_deeper e0.frames, .inr ⟨rfl, rfl⟩, fun b z => absurd z (noA b), e0.bs, e0.bsz, fun b _ _ => noA b, fun b z => absurd z (noA b), e0.funs, e0.frf⟩,
    rfl, e0.bare, Un.kept hk, ⟨_, x.toInCall.ns, fun i y v h1 h2 h3 => ?_⟩, fun y c h => ⟨_, x.cell y c h⟩, e0.hok.fresh (Nat.le_refl _), fun y c h => ?_, fun p hp => absurd (show p ∈ ([] : List (Addr × Obj)) from hp) (by simp), e0.hok.kept hk, ?_⟩
  · exact name_of_addr x.apart (PySem.mem_of_lookup h1) (PySem.mem_of_lookup h2)
  · have hy : scope.names.lookup y = some .cell ∨ scope.names.lookup y = some .free := hy
    rcases hy with hy | hy
    · exact cell_has hy
    · exact absurd rfl (S.nofree _ (PySem.mem_of_lookup hy))
  · exact Nat.le_of_lt (x.above y c (PySem.mem_of_lookup h))
  · have hi : i < vs.length := by
      unfold start at h2
      by_cases hi : i < vs.length
      · exact hi
      · rw [List.getElem?_append_right (by simpa using hi)] at h2
        rw [List.getElem?_replicate] at h2
        split at h2 <;> cases h2
    have ha : vs[i]? = some v := by
      unfold start at h2
      rw [List.getElem?_append_left (by simpa using hi), List.getElem?_map] at h2
      cases e : vs[i]? with
      | none => rw [e] at h2; cases h2
      | some a => rw [e] at h2; cases h2; rfl
    obtain ⟨u, hu, rv⟩ := r.get ha
    have hp : ps[i]? = some y := by
      rw [← S.pre, List.getElem?_take_of_lt (by omega)]; exact h1
    have ndP : ps.Nodup := by rw [← S.pre]; exact S.nd.sublist (List.take_sublist _ _)
    refine ⟨u, rv, ?_⟩
    rcases S.par y (List.mem_of_getElem? hp) with k | k
    · exact .inl ⟨k, bindL_get ndP hp hu k⟩
    · obtain ⟨c, e⟩ := cell_has (n := s.heap.objs.size + 1) k
      refine .inr ⟨.inl k, c, e, ?_⟩
      have q := x.cell y c e
      rw [bindC_get ndP hp hu (by show scope.names.lookup y ≠ _; rw [k]; decide)] at q
      exact q
  · exact e0.hok.fresh (Nat.le_of_lt (x.above y c (PySem.mem_of_lookup h)))
  · unfold start
    show _ = N.length
    rw [List.length_append, List.length_map, List.length_replicate]
    omega

/-- THE RULE: a def (or a method) of the text, by its body. The body's reading t is chosen for each entry; it is run at the parameters' values -/
theorem fn_of {CX : CXT} {P : Program} {w : World} {K : PySem.W.Frag} {mg : Str → Option Value} {base : Heap} {k : Nat} {f : Addr} {name qual : Str} {params : Arguments} {body : List Stmt} {scope : Scope} {dV kV doc pm cdv ct oc : Value} {an od : Option Addr}
    {osl : Array (Option Value)} {N ps : List Str} {sp : Sp} (lk : K.lookup f = some ⟨oc, od, .func (PySem.W.fnOf name qual params body scope dV kV doc pm an cdv ct), osl⟩) (hcd : PySem.W.codeIn K cdv qual = true) (S : FnScope N ps scope)
    (len : ∀ vs H Q E, sp vs H Q E → vs.length = ps.length)
    (hbody : ∀ (A : Around) (outer : List Env) (s : Shared) (H : Hp) (vs : List V) (Q : VK) (E : XK), Room k (A.deeper (envOfC qual scope s.heap.objs.size f cdv)) → sp vs H Q E →
      ∃ t, PSs (cxOf CX P w K mg base N qual scope f cdv A outer s H E) body t ∧ t { nx := fun _ H' => Q .non H', rt := Q } (start N vs) H) :
    FnOk P w K mg base CX (k + 1) f (PySem.W.fnOf name qual params body scope dV kV doc pm an cdv ct) ps sp := by
  refine ⟨len, fun A outer s H args us vs Q E hr e0 hb r hsp => ?_⟩
  have hl := len _ _ _ _ hsp
  have KX : K.In s.heap := e0.mod.kin.keeps fun b o e => (e0.bs b o e).1
  have lim : s.heap.NoLimit := e0.mod.nolimit.keeps fun b o e => (e0.bs b o e).1
  have hkind : ∀ y ∈ ps.zip us, scope.names.lookup y.1 = some .local ∨ (scope.names.lookup y.1 = some .cell ∧ ((cellsFrom (s.heap.objs.size + 1) scope.names []).lookup y.1).isSome = true) := fun ⟨n, v⟩ hy => by
    rcases S.par n (List.of_mem_zip hy).1 with q | q
    · exact .inl q
    · exact .inr ⟨q, PySem.W.cellsFrom_some _ _ _ (.inl q)⟩
  refine codeAny_call_function hr.depth (KX _ _ lk) rfl S.co S.gen rfl (PySem.W.codeRec_of KX hcd) (hb _ _ _ _ ?_)
  refine wpAny_newFunctionEnv_cells S.kind hkind fun env he s1 x => ?_
  subst he
  refine ⟨lim.keeps x.toInCall.keep, codeAny_func ?_⟩
  obtain ⟨t, ht, hq⟩ := hbody A outer s H vs Q E (hr.deeper _) hsp
  have I : Inv (cxOf CX P w K mg base N qual scope f cdv A outer s H E) [] (start N vs) H s1 := inv_start S hr.hd e0 hl r x
  refine wpAny_mono (ht [] s1 (start N vs) H _ I hq) (fun fl s' hs => ?_) fun e s' hs => hs
  have fin : ∀ {σ' : St} {H' : Hp} {v : V} {u : Value}, Inv (cxOf CX P w K mg base N qual scope f cdv A outer s H E) [] σ' H' s' → RelV v u → Q v H' → CE outer P w H s Q u s' :=
    fun {σ' H' v u} J rv q => ⟨v, H', J.os, J.bare, J.base, J.hok, rv, q⟩
  cases fl with
  | ret u =>
    obtain ⟨v, σ', H', J, rv, q⟩ := hs
    exact fin J rv q
  | next =>
    obtain ⟨σ', H', J, q⟩ := hs
    exact fin (v := V.non) (u := Value.none) J rfl q
  | brk =>
    obtain ⟨_, _, _, q⟩ := hs
    exact False.elim q
  | cont =>
    obtain ⟨_, _, _, q⟩ := hs
    exact False.elim q
end L2

namespace L2
open PySem PySem.Spec PyProof.Rows
section
variable {X : Cx} {x : Str} {p pos : Pos} {e : Expr} {es : List Expr} {t : TA} {id T : String} {r : List V → Hp → VK → Prop}

def tCB (r : List V → Hp → VK → Prop) (t : TA) : TE := fun σ H Q => t σ H fun vs H1 => r vs H1 Q
/-- f(e, ..), f a built-in function -/
theorem pe_callB (hc : CallR X (.builtin id) r) (hg : Gl X x) (hm : X.mg x = none) (hv : bootBuiltins x = some (.builtin id)) (ha : PA X (e :: es) t) (hn : x ≠ "__name__" := by decide) (hdb : (x == ("__debug__" : Str)) = false := by decide)
    (he : starEach (e :: es) X.env = (false, eval e X.env) :: starEach es X.env := by rfl) (hpl : (backTo pos (starEach es X.env)).any (·.1) = false := by rfl) : PE X (.Call (.Name x p) (e :: es) [] pos) (tCB r t) := by
  intro pins s σ H Q I h
  refine wpAny_Call_Name_kw (ld_blt I hg hm hv ?_ hn hdb)
  exact PyProof.Rows.callWith_builtin1 (thn (ha pos pins s σ H _ I h) fun us s1 ⟨vs, H1, I1, r1, q1⟩ => hc pins s1 σ H1 vs us Q I1 r1 q1) he hpl
/-- T(e, ..), T a built-in type -/
theorem pe_callTy (hc : CallR X (.type T) r) (hg : Gl X x) (hm : X.mg x = none) (hv : bootBuiltins x = some (.type T)) (ha : PA X (e :: es) t) (hn : x ≠ "__name__" := by decide) (hdb : (x == ("__debug__" : Str)) = false := by decide)
    (he : starEach (e :: es) X.env = (false, eval e X.env) :: starEach es X.env := by rfl) (hpl : (backTo pos (starEach es X.env)).any (·.1) = false := by rfl) : PE X (.Call (.Name x p) (e :: es) [] pos) (tCB r t) := by
  intro pins s σ H Q I h
  refine wpAny_Call_Name_kw (ld_blt I hg hm hv ?_ hn hdb)
  exact PyProof.Rows.callWith_type1 (thn (ha pos pins s σ H _ I h) fun us s1 ⟨vs, H1, I1, r1, q1⟩ => hc pins s1 σ H1 vs us Q I1 r1 q1) he hpl
end
end L2

namespace HT
open PySem PyProof.Rows

section
open PySem.SeqAt
open PySem.AutoSeq1 (wpAny_loadPart')
open PySem.MeetsSeq PySem.MeetsSeq2 PySem.MeetsSeq3

end

section
variable {prog : Program} {w : World} {A : Around} {E : Value → Shared → Prop} {s : Shared}

/-- a slice's bound as a place among n (d where it is left out) -/
def sIx (n d : Nat) : Option Int → Nat
  | none => d
  | some v => if v < 0 then (v + (n : Int)).toNat else min v.toNat n
end
end HT

namespace L2
open PySem PySem.Spec PyProof.Rows

abbrev TO := St → Hp → (Option Int → Hp → Prop) → Prop
/-- a slice's part (left out, or an int) -/
def PO (X : Cx) (e : Option Expr) (t : TO) : Prop :=
  ∀ (pins : List (Addr × Obj)) (s : Shared) (σ : St) (H : Hp) (Q : Option Int → Hp → Prop), Inv X pins σ H s → t σ H Q →
    wpAny (model X.prog X.w) X.A (evalPart e X.env) (fun u s' => ∃ o H', Inv X pins σ H' s' ∧ IsPart u o ∧ Q o H') X.xe s
def tPart (t : TE) : TO := fun σ H Q => t σ H fun x H1 => ∃ i, x = .int i ∧ Q (some i) H1

section
variable {X : Cx} {e : Expr} {te : TE} {lo hi : Option Expr} {tl th : TO} {pos p2 : Pos}

theorem po_some (h : PE X e te) : PO X (some e) (tPart te) := by
  intro pins s σ H Q I hw
  rw [evalPart_some]
  refine thn (h pins s σ H _ I hw) fun u s1 ⟨x, H1, I1, r1, q1⟩ => ?_
  obtain ⟨i, rfl, q⟩ := q1
  obtain ⟨t, rfl⟩ := r1
  exact ⟨some i, H1, I1, .int i t, q⟩

/-- what a slice of a value is, by values: the slice object stands at sl -/
def SlR (X : Cx) (r : V → Option Int → Option Int → Hp → VK → Prop) : Prop :=
  ∀ (pins : List (Addr × Obj)) (s : Shared) (σ : St) (H : Hp) (x : V) (v vl vu : Value) (lo hi : Option Int) (sl : Addr) (Q : VK), Inv X pins σ H s → RelV x v → s.heap.IsSliceOf sl vl vu .none → IsPart vl lo → IsPart vu hi → r x lo hi H Q →
    ∃ T id, typeLookup (.type T) "__getitem__" = pure (some (.builtin id)) ∧ s.TypeIs v T ∧ wpAny (model X.prog X.w) X.A (getItem v (.ref sl)) (EP X pins σ Q) X.xe s
def tSl (r : V → Option Int → Option Int → Hp → VK → Prop) (te : TE) (tl th : TO) : TE := fun σ H Q => te σ H fun x H1 => tl σ H1 fun l H2 => th σ H2 fun u H3 => r x l u H3 Q
/-- a[lo:hi], any a -/
theorem pe_slice {r : V → Option Int → Option Int → Hp → VK → Prop} (hr : SlR X r) (he : PE X e te) (hl : PO X lo tl) (hu : PO X hi th) : PE X (.Subscript e (.Slice lo hi none p2) pos) (tSl r te tl th) := by
  intro pins s σ H Q I h
  refine Subscript_ (thn (he pins s σ H _ I h) fun v s1 ⟨x, H1, I1, r1, q1⟩ => ?_)
  refine wpAny_Slice (thn (hl pins s1 σ H1 _ I1 q1) fun vl s2 ⟨l, H2, I2, pl, q2⟩ => thn (hu pins s2 σ H2 _ I2 q2) fun vu s3 ⟨u, H3, I3, pu, q3⟩ => ?_)
  rw [evalPart_none]
  refine wpAny_pure ?_
  have I4 : Inv X pins σ H3 { s3 with heap := s3.heap.push { cls := .type "slice", data := .fields #[vl, vu, .none] } } := I3.kept (t' := s3.toks) fun b ob q => Heap.get?_push_of_some _ q
  obtain ⟨T, id, hT, ht, hg⟩ := hr pins { s3 with heap := s3.heap.push { cls := .type "slice", data := .fields #[vl, vu, .none] } } σ H3 x v vl vu l u s3.heap.objs.size Q I4 r1 (Heap.IsSliceOf.new ..) pl pu q3
  show wpAny (model X.prog X.w) X.A (subscriptTail e (.Slice lo hi none p2) v (.ref s3.heap.objs.size)) (EP X pins σ Q) X.xe { s3 with heap := s3.heap.push { cls := .type "slice", data := .fields #[vl, vu, .none] } }
  exact tail_any (ops := [.ref s3.heap.objs.size, v]) ht hT hg (by with_unfolding_all rfl)

/-- the items of xs[lo:hi] -/
def cutV (xs : List V) (lo hi : Option Int) : List V := (xs.drop (HT.sIx xs.length 0 lo)).take (HT.sIx xs.length xs.length hi - HT.sIx xs.length 0 lo)
theorem cutV_length (xs : List V) (lo hi : Option Int) : (cutV xs lo hi).length ≤ xs.length := by
  unfold cutV
  rw [List.length_take, List.length_drop]
  omega
end
end L2

namespace L2
open PySem PySem.Spec PyProof.Rows

/-- the place that an index of any sign means -/
def ixN (n : Nat) (i : Int) : Option Nat := if 0 ≤ i then (if i < n then some i.toNat else none) else if -(n : Int) ≤ i then some (i + n).toNat else none
def atI {α : Type} (xs : List α) (i : Int) : Option α := (ixN xs.length i).bind fun j => xs[j]?
theorem ixN_seq {n : Nat} {i : Int} {j : Nat} (h : ixN n i = some j) : seqIndex? i n = some j ∧ j < n ∧ -(n : Int) ≤ i ∧ i < n := by
  unfold ixN at h
  by_cases h0 : 0 ≤ i
  · rw [if_pos h0] at h
    by_cases h1 : i < n
    · rw [if_pos h1] at h
      have e : i.toNat = j := Option.some.inj h
      exact ⟨by rw [seqIndex_of h0 h1, e], by omega, by omega, h1⟩
    · rw [if_neg h1] at h; cases h
  · rw [if_neg h0] at h
    by_cases h1 : -(n : Int) ≤ i
    · rw [if_pos h1] at h
      have e : (i + n).toNat = j := Option.some.inj h
      exact ⟨by rw [seqIndex_neg (by omega) h1, e], by omega, h1, by omega⟩
    · rw [if_neg h1] at h; cases h
theorem atI_get {α : Type} {xs : List α} {i : Int} {v : α} (h : atI xs i = some v) : ∃ j, seqIndex? i xs.length = some j ∧ xs[j]? = some v ∧ j < xs.length ∧ -(xs.length : Int) ≤ i ∧ i < xs.length := by
  unfold atI at h
  cases e : ixN xs.length i with
  | none => rw [e] at h; cases h
  | some j =>
    rw [e] at h
    obtain ⟨h1, h2, h3, h4⟩ := ixN_seq e
    exact ⟨j, h1, h, h2, h3, h4⟩
theorem atI_nat {α : Type} {xs : List α} {j : Nat} {v : α} (h : xs[j]? = some v) : atI xs (j : Int) = some v := by
  have hj : j < xs.length := (List.getElem?_eq_some_iff.mp h).1
  have e : ixN xs.length (j : Int) = some j := by
    unfold ixN
    rw [if_pos (by omega), if_pos (by omega)]; simp
  unfold atI; rw [e]; exact h
theorem atI_last {α : Type} (xs : List α) (v : α) : atI (xs ++ [v]) (-1) = some v := by
  have hl : (xs ++ [v]).length = xs.length + 1 := by simp
  have e : ixN (xs ++ [v]).length (-1) = some xs.length := by
    unfold ixN
    rw [hl, if_neg (by decide), if_pos (by omega)]
    congr 1
    omega
  unfold atI
  rw [e]
  show (xs ++ [v])[xs.length]? = some v
  simp

/-- what stands as an index of a plain subscript -/
def PlainIx (b : Expr) : Prop := ∀ o i, subscripted b false o i = operate [o, i] (getItem o i)
/-- a subscript by values -/
def IxR (X : Cx) (r : R2) : Prop :=
  ∀ (value slice : Expr) (pins : List (Addr × Obj)) (s : Shared) (σ : St) (H : Hp) (x y : V) (v u : Value) (Q : VK), Inv X pins σ H s → RelV x v → RelV y u → r x y H Q →
    subscripted slice false v u = operate [v, u] (getItem v u) → wpAny (model X.prog X.w) X.A (subscriptTail value slice v u) (EP X pins σ Q) X.xe s
/-- a call of a builtin's method by values: the receiver, the arguments -/
def MtR (X : Cx) (id : String) (r : V → List V → Hp → VK → Prop) : Prop :=
  ∀ (pins : List (Addr × Obj)) (s : Shared) (σ : St) (H : Hp) (x : V) (xs : List V) (v : Value) (us : List Value) (Q : VK), Inv X pins σ H s → RelV x v → Vals xs us → r x xs H Q →
    wpAny (model X.prog X.w) X.A (call (.builtin id) (v :: us)) (EP X pins σ Q) X.xe s
section
variable {X : Cx} {a b : Expr} {ta tb : TE} {pos : Pos}
/-- a[b] -/
theorem pe_ix {r : R2} (hr : IxR X r) (ha : PE X a ta) (hb : PE X b tb) (hs : PlainIx b) : PE X (.Subscript a b pos) (tOp r ta tb) := by
  intro pins s σ H Q I h
  exact Subscript_ (binT ha hb I h fun v u s2 x y H2 I2 rx ry q => hr a b pins s2 σ H2 x y v u Q I2 rx ry q (hs _ _))

def rIxL (K : PySem.W.Frag) : R2 := fun x y H Q => ∃ p xs i v, x = .ref p ∧ y = .int i ∧ SqL K H p xs ∧ atI xs i = some v ∧ Q v H
def rIxT (K : PySem.W.Frag) : R2 := fun x y H Q => ∃ p xs i v, x = .ref p ∧ y = .int i ∧ SqT K H p xs ∧ atI xs i = some v ∧ Q v H
theorem ix_list : IxR X (rIxL X.K) := by
  intro value slice pins s σ H x y v u Q I rx ry h hs
  obtain ⟨p, xs, i, z, rfl, rfl, hq, he, q⟩ := h
  cases rx
  obtain ⟨t, rfl⟩ := ry
  obtain ⟨its, r, pl, hz⟩ := I.list hq
  obtain ⟨j, h1, h2, h3, h4, h5⟩ := atI_get he
  obtain ⟨w, ew, rw'⟩ := r.get h2
  have hl := r.length
  have hn := line63
  have fin : EP X pins σ Q w s := ⟨z, H, I, rw', q⟩
  by_cases h0 : 0 ≤ i
  · have hj : i.toNat = j := by
      rw [seqIndex_of h0 h5] at h1
      exact Option.some.inj h1
    exact item_listR pl.isList h0 (by omega) (by rw [hj]; simpa using ew) fin hs
  · have hj : (i + (its.toArray.size : Int)).toNat = j := by
      rw [seqIndex_neg (by omega) h4] at h1
      rw [List.size_toArray, ← hl]
      exact Option.some.inj h1
    exact subscriptTail_builtinR (x := w) pl.isList.typeIs slot_list_getitem.lookup
      (wpAny_getItem_list_neg (Q := fun r s' => r = w ∧ EP X pins σ Q r s') pl.isList (by omega) (by rw [List.size_toArray] <;> omega) (by omega) (by rw [hj]; simpa using ew) ⟨rfl, fin⟩) hs
theorem ix_tup : IxR X (rIxT X.K) := by
  intro value slice pins s σ H x y v u Q I rx ry h hs
  obtain ⟨p, xs, i, z, rfl, rfl, hq, he, q⟩ := h
  cases rx
  obtain ⟨t, rfl⟩ := ry
  obtain ⟨its, r, pl, hz⟩ := I.tuple hq
  obtain ⟨j, h1, h2, h3, h4, h5⟩ := atI_get he
  obtain ⟨w, ew, rw'⟩ := r.get h2
  have hl := r.length
  have hn := line63
  have fin : EP X pins σ Q w s := ⟨z, H, I, rw', q⟩
  exact subscriptTail_builtinR (x := w) pl.typeIs slot_tuple_getitem.lookup
    (getItem_tuple (j := j) (Q := fun r s' => r = w ∧ EP X pins σ Q r s') pl (by omega) (by omega) (by rw [List.size_toArray, ← hl]; exact h1) (by simpa using ew) ⟨rfl, fin⟩) hs
/-- the list's object behind a store -/
theorem mapSeq_set (its : List Value) (n j : Nat) (u : Value) : Obj.mapSeq (·.setIfInBounds j u) { cls := .type "list", data := .seq its.toArray n } = { cls := .type "list", data := .seq (its.set j u).toArray n } := by
  simp [Obj.mapSeq]
theorem Inv.lst {pins : List (Addr × Obj)} {σ : St} {H : Hp} {s : Shared} {p : Addr} {xs : List V} (I : Inv X pins σ H s) (h : H p = some (.lst xs)) :
    ∃ (its : List Value) (n : Nat), Vals xs its ∧ s.heap.get? p = some { cls := .type "list", data := .seq its.toArray n } ∧ xs.length ≤ sizeLine := by
  obtain ⟨z, its, n, r, e⟩ := I.hok p _ h
  exact ⟨its, n, r, e, z⟩
/-- the list at p is written by an update of its object -/
theorem Inv.lstUpd {pins : List (Addr × Obj)} {σ : St} {H : Hp} {s : Shared} {p : Addr} {xs ys : List V} {its its' : List Value} {n n' : Nat} {f : Obj → Obj} (I : Inv X pins σ H s) (h : H p = some (.lst xs))
    (ho : s.heap.get? p = some { cls := .type "list", data := .seq its.toArray n }) (hf : f { cls := .type "list", data := .seq its.toArray n } = { cls := .type "list", data := .seq its'.toArray n' }) (r : Vals ys its') (hz : ys.length ≤ sizeLine) (t : Nat) :
    Inv X pins σ (upd H p (.lst ys)) { s with heap := s.heap.update p f, toks := t } := by
  have e : (s.heap.update p f).get? p = some { cls := .type "list", data := .seq its'.toArray n' } := by
    rw [Heap.get?_update_self f ho (by rw [hf] <;> rfl), hf]
  refine I.write (x := p) (e := p) (by rw [h]; trivial) (.inl rfl) (fun b u hb q => (Heap.get?_update_other _ _ (Ne.symm hb)).trans q) ⟨_, e⟩ ?_
  exact ⟨hz, its', n', r, e⟩
def rSetL : V → V → V → Hp → (Hp → Prop) → Prop := fun o i v H Q => ∃ p xs k j, o = .ref p ∧ i = .int k ∧ H p = some (.lst xs) ∧ ixN xs.length k = some j ∧ Q (upd H p (.lst (xs.set j v)))
theorem set_list : PSet X rSetL := by
  intro pins s σ H o i v ov iv u Q I ro ri rv h
  obtain ⟨p, xs, k, j, rfl, rfl, hp, hj, q⟩ := h
  cases ro
  obtain ⟨t, rfl⟩ := ri
  obtain ⟨its, n, r, ho, hz⟩ := I.lst hp
  obtain ⟨h1, h2, h3, h4⟩ := ixN_seq hj
  have hl := r.length
  have hn := line63
  have I' : Inv X pins σ (upd H p (.lst (xs.set j v))) { s with heap := s.heap.update p (Obj.mapSeq (·.setIfInBounds j u)) } :=
    I.lstUpd hp ho (mapSeq_set its n j u) (r.set rv j) (by rw [List.length_set]; exact hz) s.toks
  by_cases h0 : 0 ≤ k
  · have hk : k.toNat = j := by
      rw [seqIndex_of h0 h4] at h1
      exact Option.some.inj h1
    exact PySem.W.ki_setAt ho h0 (by omega) (by rw [List.size_toArray, ← hl]; exact h4) (by rw [hk]; exact ⟨_, I', q⟩)
  · have hk : (k + (its.toArray.size : Int)).toNat = j := by
      rw [seqIndex_neg (by omega) h3] at h1
      rw [List.size_toArray, ← hl]
      exact Option.some.inj h1
    exact PySem.W.ki_setBack ho (by omega) (by rw [List.size_toArray, ← hl]; exact h3) (by omega) (by rw [hk]; exact ⟨_, I', q⟩)

theorem slice_bounds (lo hi : Option Int) (n : Nat) : (sliceBounds lo hi none n).1 = ((HT.sIx n 0 lo : Nat) : Int) ∧ (sliceBounds lo hi none n).2.1 = ((HT.sIx n n hi : Nat) : Int) ∧ (sliceBounds lo hi none n).2.2 = 1 := by
  refine ⟨?_, ?_, rfl⟩
  · cases lo with
    | none => simp [sliceBounds, HT.sIx]
    | some i =>
      simp only [sliceBounds, HT.sIx, Option.getD_none, show (1 : Int) > 0 by decide, if_true]
      by_cases h : i < 0
      · simp only [h, if_true] <;> omega
      · simp only [h, if_false] <;> omega
  · cases hi with
    | none => simp [sliceBounds, HT.sIx]
    | some i =>
      simp only [sliceBounds, HT.sIx, Option.getD_none, show (1 : Int) > 0 by decide, if_true]
      by_cases h : i < 0
      · simp only [h, if_true] <;> omega
      · simp only [h, if_false] <;> omega
theorem slicePick_cut (its : List Value) (lo hi : Option Int) : slicePick its.toArray lo hi none = ((its.drop (HT.sIx its.length 0 lo)).take (HT.sIx its.length its.length hi - HT.sIx its.length 0 lo)).toArray := by
  obtain ⟨h1, h2, h3⟩ := slice_bounds lo hi its.toArray.size
  unfold slicePick
  rw [h1, h2, h3]
  simp only [sliceRange_one, pick_run, List.size_toArray] <;> rfl
/-- xs[lo:hi] of a list: a new list -/
def rSlL (K : PySem.W.Frag) : V → Option Int → Option Int → Hp → VK → Prop := fun x lo hi H Q => ∃ a xs, x = .ref a ∧ SqL K H a xs ∧ ∀ p, H p = none → Q (.ref p) (upd H p (.lst (cutV xs lo hi)))
theorem sl_list : SlR X (rSlL X.K) := by
  intro pins s σ H x v vl vu lo hi sl Q I rx hs pl pu h
  obtain ⟨a, xs, rfl, hx, q⟩ := h
  cases rx
  obtain ⟨its, r, ht, hz⟩ := I.list hx
  have hlen := r.length
  refine ⟨"list", _, slot_list_getitem.lookup, ht.isList.typeIs, ?_⟩
  refine wpAny_getItem_list_slice ht.isList hs pl pu .none (by simp) ?_ (by rw [List.size_toArray] <;> omega)
  rw [slicePick_cut, ← hlen]
  refine ⟨.ref s.heap.objs.size, _, I.laid (t' := s.toks) (o := .lst (cutV xs lo hi)) (fun b ob q => Heap.get?_push_of_some _ q) (Nat.le_refl _) ?_, rfl, q _ (I.hok.fresh (Nat.le_refl _))⟩
  exact ⟨Nat.le_trans (cutV_length xs lo hi) hz, _, 0, (r.drop (HT.sIx xs.length 0 lo)).take (HT.sIx xs.length xs.length hi - HT.sIx xs.length 0 lo), Heap.get?_push_size _ rfl⟩

def flatV : V → Bool
  | .non => true
  | .bl _ => true
  | .int _ => true
  | .str _ => true
  | _ => false
/-- == of flat values -/
def eqV : V → V → Bool
  | .non, .non => true
  | .bl a, .bl b => a == b
  | .bl a, .int b => (if a then 1 else 0) == b
  | .int a, .bl b => a == (if b then 1 else 0)
  | .int a, .int b => a == b
  | .str a, .str b => a == b
  | _, _ => false
theorem eqAt_V {A : Around} {s : Shared} {y x : V} {u v : Value} (ry : RelV y u) (rx : RelV x v) (fy : flatV y = true) (fx : flatV x = true) : SeqAt.EqAt A s u v (eqV y x) := by
  cases y with
  | non =>
    cases ry
    cases x with
    | non => cases rx; exact SeqAt.EqAt.same _
    | bl b => cases rx; exact SeqAt.EqAt.none_bool b
    | int b => obtain ⟨t, rfl⟩ := rx; exact SeqAt.EqAt.none_int b t
    | str b => obtain ⟨t, rfl⟩ := rx; exact SeqAt.EqAt.none_str b t
    | _ => exact absurd (show false = true from fx) Bool.false_ne_true
  | bl a =>
    cases ry
    cases x with
    | non => cases rx; exact SeqAt.EqAt.bool_none a
    | bl b => cases rx; exact SeqAt.EqAt.bool_bool a b
    | int b => obtain ⟨t, rfl⟩ := rx; exact SeqAt.EqAt.bool_int a b t
    | str b => obtain ⟨t, rfl⟩ := rx; exact SeqAt.EqAt.bool_str a b t
    | _ => exact absurd (show false = true from fx) Bool.false_ne_true
  | int a =>
    obtain ⟨t', rfl⟩ := ry
    cases x with
    | non => cases rx; exact SeqAt.EqAt.int_none a t'
    | bl b => cases rx; exact SeqAt.EqAt.int_bool a t' b
    | int b => obtain ⟨t, rfl⟩ := rx; exact SeqAt.EqAt.int_int a t' b t
    | str b => obtain ⟨t, rfl⟩ := rx; exact SeqAt.EqAt.int_str a t' b t
    | _ => exact absurd (show false = true from fx) Bool.false_ne_true
  | str a =>
    obtain ⟨t', rfl⟩ := ry
    cases x with
    | non => cases rx; exact SeqAt.EqAt.str_none a t'
    | bl b => cases rx; exact SeqAt.EqAt.str_bool a t' b
    | int b => obtain ⟨t, rfl⟩ := rx; exact SeqAt.EqAt.str_int a t' b t
    | str b => obtain ⟨t, rfl⟩ := rx; exact SeqAt.EqAt.str_str a t' b t
    | _ => exact absurd (show false = true from fx) Bool.false_ne_true
  | _ => exact absurd (show false = true from fy) Bool.false_ne_true
/-- the items' answers, read off the values (a value's own answer does not lean on its token) -/
def eqU (x : V) (u : Value) : Bool := match u with
  | .none => eqV .non x
  | .bool b => eqV (.bl b) x
  | .int i _ => eqV (.int i) x
  | .str z _ => eqV (.str z) x
  | _ => false
theorem eqU_of {x y : V} {u : Value} (r : RelV y u) (f : flatV y = true) : eqU x u = eqV y x := by
  cases y with
  | non => cases r; rfl
  | bl b => cases r; rfl
  | int i => obtain ⟨t, rfl⟩ := r; rfl
  | str z => obtain ⟨t, rfl⟩ := r; rfl
  | _ => exact absurd (show false = true from f) Bool.false_ne_true
theorem any_eqU {x : V} : ∀ {xs : List V} {us : List Value}, Vals xs us → xs.all flatV = true → us.any (eqU x) = xs.any fun y => eqV y x
  | _, _, .nil, _ => rfl
  | y :: xs, u :: us, .cons r t, f => by
    rw [List.all_cons, Bool.and_eq_true] at f
    rw [List.any_cons, List.any_cons, eqU_of r f.1, any_eqU t f.2]
theorem mem_eqAt {A : Around} {s : Shared} {x : V} {v : Value} (rx : RelV x v) (fx : flatV x = true) : ∀ {xs : List V} {us : List Value}, Vals xs us → xs.all flatV = true → ∀ u ∈ us, SeqAt.EqAt A s u v (eqU x u)
  | _, _, .nil, _ => fun u hu => by cases hu
  | y :: xs, u :: us, .cons r t, f => fun u' hu => by
    rw [List.all_cons, Bool.and_eq_true] at f
    rcases List.mem_cons.mp hu with rfl | hu
    · rw [eqU_of r f.1]; exact eqAt_V r rx f.1 fx
    · exact mem_eqAt rx fx t f.2 u' hu
def inV (x : V) (xs : List V) : Bool := xs.any fun y => eqV y x
/-- x in a list or tuple of flat items -/
def rIn (K : PySem.W.Frag) (neg : Bool) : R2 := fun x y H Q => ∃ p xs, y = .ref p ∧ (SqL K H p xs ∨ SqT K H p xs) ∧ flatV x = true ∧ xs.all flatV = true ∧ Q (.bl (if neg then !inV x xs else inV x xs)) H
theorem op_in_seq : OpR X (compareOp .In) (rIn X.K false) := by
  intro pins s σ H x y v u Q I rx ry h
  obtain ⟨p, xs, rfl, hq, fx, fs, q⟩ := h
  cases ry
  rcases hq with hq | hq
  · obtain ⟨its, r, pl, hz⟩ := I.list hq
    refine SeqAt.in_listAt (eqU x) pl.isList (fun w hw => mem_eqAt rx fx r fs w (by simpa using hw)) ⟨.bl _, H, I, rfl, ?_⟩
    rw [show its.toArray.any (eqU x) = its.any (eqU x) by simp, any_eqU r fs]
    exact q
  · obtain ⟨its, r, pl, hz⟩ := I.tuple hq
    refine SeqAt.in_tupleAt (eqU x) pl (fun w hw => mem_eqAt rx fx r fs w (by simpa using hw)) ⟨.bl _, H, I, rfl, ?_⟩
    rw [show its.toArray.any (eqU x) = its.any (eqU x) by simp, any_eqU r fs]
    exact q
theorem call_len_seq : CallR X (.builtin "len") (fun xs H Q => ∃ p ys, xs = [.ref p] ∧ (SqL X.K H p ys ∨ SqT X.K H p ys) ∧ Q (.int ys.length) H) := by
  intro pins s σ H xs us Q I r h
  obtain ⟨p, ys, rfl, hq, q⟩ := h
  obtain ⟨u, rfl, rx⟩ := vals1 r
  cases rx
  have hn := line63
  rcases hq with hq | hq
  · obtain ⟨its, r', pl, hz⟩ := I.list hq
    have hlen := r'.length
    exact Calls.call_len_list pl.isList (by simp only [List.size_toArray] <;> omega) ⟨.int ys.length, H, I.tok _, ⟨s.toks + 1, by rw [List.size_toArray, hlen]⟩, q⟩
  · obtain ⟨its, r', pl, hz⟩ := I.tuple hq
    have hlen := r'.length
    exact len_tuple pl (by simp only [List.size_toArray] <;> omega) ⟨.int ys.length, H, I.tok _, ⟨s.toks + 1, by rw [List.size_toArray, hlen]⟩, q⟩
theorem call_list_of : CallR X (.type "list") (fun xs H Q => ∃ p ys, xs = [.ref p] ∧ (SqL X.K H p ys ∨ SqT X.K H p ys) ∧ ∀ l, H l = none → Q (.ref l) (upd H l (.lst ys))) := by
  intro pins s σ H xs us Q I r h
  obtain ⟨p, ys, rfl, hq, q⟩ := h
  obtain ⟨u, rfl, rx⟩ := vals1 r
  cases rx
  have fin : ∀ (its : List Value), Vals ys its → ys.length ≤ sizeLine → ∀ (h' : Heap) (c' : Nat), (∀ b o', s.heap.get? b = some o' → h'.get? b = some o') →
      h'.get? s.heap.objs.size = some { cls := .type "list", dict := none, data := .seq its.toArray c', slots := #[] } → EP X pins σ Q (.ref s.heap.objs.size) { s with heap := h' } := fun its r' hz h' c' kp e =>
    ⟨.ref s.heap.objs.size, _, I.laid (t' := s.toks) kp (Nat.le_refl _) (show ObjOk X.prog X.w _ h' _ (.lst ys) from ⟨hz, its, c', r', e⟩), rfl, q _ (I.hok.fresh (Nat.le_refl _))⟩
  rcases hq with hq | hq
  · obtain ⟨its, r', pl, hz⟩ := I.list hq
    have hlen := r'.length
    obtain ⟨o, ho, hc, n, hd⟩ := pl.isList
    exact call_list_seq p (.inl rfl) ho hc hd (fun h' c' kp e => fin its r' hz h' c' kp e) (by simp only [List.size_toArray] <;> omega)
  · obtain ⟨its, r', pl, hz⟩ := I.tuple hq
    have hlen := r'.length
    obtain ⟨o, ho, hc, n, hd⟩ := pl
    exact call_list_seq p (.inr rfl) ho hc hd (fun h' c' kp e => fin its r' hz h' c' kp e) (by simp only [List.size_toArray] <;> omega)
theorem call_tuple_of : CallR X (.type "tuple") (fun xs H Q => ∃ p ys, xs = [.ref p] ∧ ((SqL X.K H p ys ∧ ∀ l, H l = none → Q (.ref l) (upd H l (.tup ys))) ∨ (SqT X.K H p ys ∧ Q (.ref p) H))) := by
  intro pins s σ H xs us Q I r h
  obtain ⟨p, ys, rfl, h⟩ := h
  obtain ⟨u, rfl, rx⟩ := vals1 r
  cases rx
  rcases h with ⟨hq, q⟩ | ⟨hq, q⟩
  · obtain ⟨its, r', pl, hz⟩ := I.list hq
    have hlen := r'.length
    refine call_tuple_list pl.isList (fun h' kp => ?_) (by simp only [List.size_toArray] <;> omega)
    have I1 : Inv X pins σ H { s with heap := h' } := I.kept (t' := s.toks) kp
    have I2 : Inv X pins σ (upd H h'.objs.size (.tup ys)) { s with heap := h'.push { cls := .type "tuple", data := .seq its.toArray } } :=
      I1.laid (t' := s.toks) (fun b o e => Heap.get?_push_of_some _ e) (Nat.le_refl _) (show ObjOk X.prog X.w _ _ _ (.tup ys) from ⟨hz, its, r', IsTup.new _ _⟩)
    exact ⟨.ref h'.objs.size, _, I2, rfl, q _ (I1.hok.fresh (Nat.le_refl _))⟩
  · obtain ⟨its, r', pl, hz⟩ := I.tuple hq
    exact call_tuple_same pl ⟨.ref p, H, I, rfl, q⟩

/-- the value is of that builtin type -/
def tyV (K : PySem.W.Frag) (T : String) (x : V) (H : Hp) : Prop := match x with
  | .str _ => T = "str"
  | .int _ => T = "int"
  | .ref p => (T = "list" ∧ ∃ xs, SqL K H p xs) ∨ (T = "tuple" ∧ ∃ o, K.lookup p = some o ∧ o.cls = .type "tuple" ∧ o.dict = none) ∨
      (T = "dict" ∧ ((∃ kvs, H p = some (.dK kvs)) ∨ ∃ kvs, H p = some (.dT kvs))) ∨ (T = "set" ∧ ∃ S n, H p = some (.set S n))
  | _ => False
theorem tyV_is {pins : List (Addr × Obj)} {σ : St} {H : Hp} {s : Shared} {T : String} {x : V} {v : Value} (I : Inv X pins σ H s) (r : RelV x v) (ty : tyV X.K T x H) :
    s.TypeIs v T ∧ ∀ a, v = .ref a → ∃ ob, s.heap.get? a = some ob ∧ ob.dict = none := by
  cases x with
  | str z =>
    obtain ⟨t, rfl⟩ := r
    cases (show T = "str" from ty)
    exact ⟨typeIs_str s z t, fun _ e => nomatch e⟩
  | int i =>
    obtain ⟨t, rfl⟩ := r
    cases (show T = "int" from ty)
    exact ⟨typeIs_int s i t, fun _ e => nomatch e⟩
  | ref p =>
    cases r
    rcases ty with ⟨rfl, xs, hq⟩ | ⟨rfl, o, hk, hc, hd⟩ | ⟨rfl, hk⟩ | ⟨rfl, S, n, hk⟩
    · obtain ⟨its, _, pl, _⟩ := I.list hq
      refine ⟨pl.isList.typeIs, fun a e => ?_⟩
      cases e
      obtain ⟨o, n, e, c, hd, _⟩ := pl
      exact ⟨o, e, hd⟩
    · refine ⟨⟨o, I.kIn p o hk, hc⟩, fun a e => ?_⟩
      cases e
      exact ⟨o, I.kIn _ o hk, hd⟩
    · have z : ∃ o, s.heap.get? p = some o ∧ o.ExactDict := by
        rcases hk with ⟨kvs, hk⟩ | ⟨kvs, hk⟩
        · obtain ⟨_, _, _, _, o, _, _, e, ex, _⟩ := I.hok p _ hk
          exact ⟨o, e, ex⟩
        · obtain ⟨_, _, _, _, o, _, _, e, ex, _⟩ := I.hok p _ hk
          exact ⟨o, e, ex⟩
      obtain ⟨o, e, ex⟩ := z
      refine ⟨⟨o, e, ex.1⟩, fun a e2 => ?_⟩
      cases e2
      exact ⟨o, e, ex.2.1⟩
    · obtain ⟨o, _, _, _, e, ex, _⟩ := I.hok p _ hk
      refine ⟨⟨o, e, ex.1⟩, fun a e2 => ?_⟩
      cases e2
      exact ⟨o, e, ex.2.1⟩
  | _ => exact False.elim ty
def tBM0 (K : PySem.W.Frag) (T : String) (r : V → List V → Hp → VK → Prop) (to : TE) : TE := fun σ H Q => to σ H fun x H1 => tyV K T x H1 ∧ r x [] H1 Q
def tBM (K : PySem.W.Frag) (T : String) (r : V → List V → Hp → VK → Prop) (to : TE) (t : TA) : TE := fun σ H Q => to σ H fun x H1 => tyV K T x H1 ∧ t σ H1 fun xs H2 => r x xs H2 Q
variable {o e : Expr} {es : List Expr} {to : TE} {t : TA} {name : Str} {apos cpos : Pos} {T id : String} {r : V → List V → Hp → VK → Prop}
theorem pe_bm0 (pa : PlainAttrs T) (slot : Slot T name id) (hty : typeOf (.builtin id) = pure (.type "method_descriptor")) (hm : MtR X id r) (ho : PE X o to)
    (hbase : attributeBase o name X.env (eval o X.env) = eval o X.env := by rfl) (hline : (apos.endLine == cpos.line) = true := by rfl) : PE X (.Call (.Attribute o name apos) [] [] cpos) (tBM0 X.K T r to) := by
  intro pins s σ H Q I h
  refine wpAny_Call_method0_late hbase hline (thn (ho pins s σ H _ I h) fun v s1 ⟨x, H1, I1, r1, ty, q1⟩ => ?_)
  obtain ⟨h1, h2⟩ := tyV_is I1 r1 ty
  exact ⟨T, id, pa, slot, hty, h1, h2, Calls.callWith_builtin rfl (PySem.evalArgs_none (hm pins s1 σ H1 x [] v [] Q I1 r1 .nil q1))⟩
theorem pe_bm (pa : PlainAttrs T) (slot : Slot T name id) (hty : typeOf (.builtin id) = pure (.type "method_descriptor")) (hm : MtR X id r) (ho : PE X o to) (ha : PA X (e :: es) t)
    (hbase : attributeBase o name X.env (eval o X.env) = eval o X.env := by rfl)
    (hfew : ((backTo cpos (starEach (e :: es) X.env)).all (fun x => !x.1) && (backToKw cpos (keywordEach [] X.env)).all (fun x => x.1.isSome)
      && decide ((e :: es).length + ([] : List Keyword).length + (if ([] : List Keyword).isEmpty then 0 else 1) < 30)) = true := by rfl)
    (hline : (apos.endLine == cpos.line) = true := by rfl) (hs : starEach (e :: es) X.env = (false, eval e X.env) :: starEach es X.env := by rfl) (hplain : (backTo cpos (starEach es X.env)).any (·.1) = false := by rfl) :
    PE X (.Call (.Attribute o name apos) (e :: es) [] cpos) (tBM X.K T r to t) := by
  intro pins s σ H Q I h
  refine wpAny_Call_method_late hbase hfew hline rfl (thn (ho pins s σ H _ I h) fun v s1 ⟨x, H1, I1, r1, ty, q1⟩ => ?_)
  obtain ⟨h1, h2⟩ := tyV_is I1 r1 ty
  refine ⟨T, id, pa, slot, hty, h1, h2, ?_⟩
  have hA := ha cpos pins s1 σ H1 _ I1 q1
  rw [hs] at hA ⊢
  refine Calls.callWith_builtin (by show (false || (backTo cpos (starEach es X.env)).any (·.1)) = false; rw [hplain] <;> rfl) (Calls.evalArgs_plain ?_)
  exact thn hA fun us s2 ⟨vs, H2, I2, r2, q2⟩ => hm pins s2 σ H2 x vs v us Q I2 r1 r2 q2
/- xs.append(e), list.index on a module's tuple .. are MtR facts of 06m -/
end
end L2

namespace L2
open PySem PySem.Spec PyProof.Rows

def MtM (X : Cx) (id : String) (r : V → List V → Hp → VK → Prop) : Prop :=
  ∀ (pins : List (Addr × Obj)) (s : Shared) (σ : St) (H : Hp) (x : V) (xs : List V) (v : Value) (us : List Value) (Q : VK), Inv X pins σ H s → RelV x v → Vals xs us → r x xs H Q →
    wpAny (model X.prog X.w) X.A (call (.builtin id) (v :: us)) (EP X pins σ Q) X.xe s

theorem Vals.one : ∀ {x : V} {us : List Value}, Vals [x] us → ∃ u, us = [u] ∧ RelV x u
  | _, _, .cons r .nil => ⟨_, rfl, r⟩
theorem Vals.zero : ∀ {us : List Value}, Vals [] us → us = []
  | _, .nil => rfl
theorem Vals.dropLast {xs : List V} {us : List Value} (h : Vals xs us) : Vals xs.dropLast us.dropLast := by
  induction h with
  | nil => exact .nil
  | cons r t ih =>
    cases t with
    | nil => exact .nil
    | cons q t' => exact .cons r ih
theorem Vals.rep {xs : List V} {us : List Value} (h : Vals xs us) : ∀ k : Nat, Vals (List.replicate k xs).flatten (List.replicate k us).flatten
  | 0 => .nil
  | k + 1 => by
    rw [List.replicate_succ, List.replicate_succ, List.flatten_cons, List.flatten_cons]
    exact Vals.append h (Vals.rep h k)
theorem erase_last {α : Type} (l : List α) : l.eraseIdx (l.length - 1) = l.dropLast := by
  induction l with
  | nil => rfl
  | cons a r ih =>
    cases r with
    | nil => rfl
    | cons b r =>
      have e : (a :: b :: r).length - 1 = ((b :: r).length - 1) + 1 := by
        have h1 : (a :: b :: r).length = r.length + 2 := rfl
        have h2 : (b :: r).length = r.length + 1 := rfl
        omega
      rw [e, List.eraseIdx_cons_succ, ih]
      all_goals rfl
theorem foldl_rep (its : List Value) : ∀ (k : Nat) (acc : List Value),
    List.foldl (fun x1 x2 => x1 ++ x2) acc.toArray (List.replicate k its.toArray) = (acc ++ (List.replicate k its).flatten).toArray
  | 0, acc => by simp
  | k + 1, acc => by
    have e : acc.toArray ++ its.toArray = (acc ++ its).toArray := by simp
    have e2 : (acc ++ its) ++ (List.replicate k its).flatten = acc ++ (List.replicate (k + 1) its).flatten := by
      rw [List.replicate_succ, List.flatten_cons, List.append_assoc]
    rw [← e2, ← foldl_rep its k (acc ++ its), ← e, List.replicate_succ, List.foldl_cons]

section
variable {X : Cx} {pins : List (Addr × Obj)} {σ : St} {H : Hp} {s : Shared} {l b : Addr} {xs ys zs : List V}

theorem Inv.lset {its its' : List Value} {n : Nat} {f : Array Value → Array Value} {t' : Nat} (I : Inv X pins σ H s) (hH : H l = some (.lst xs))
    (e : s.heap.get? l = some { cls := .type "list", data := .seq its.toArray n }) (hf : f its.toArray = its'.toArray) (hv : Vals ys its') (hz : ys.length ≤ sizeLine) :
    Inv X pins σ (upd H l (.lst ys)) { s with heap := s.heap.update l (Obj.mapSeq f), toks := t' } := by
  have q := PySem.IsL.update e f
  rw [hf] at q
  refine I.write (x := l) (e := l) (by rw [hH]; exact trivial) (.inl rfl) (fun b' u hb hu => (Heap.get?_update_other s.heap (Obj.mapSeq f) (Ne.symm hb)).trans hu) ⟨_, q⟩ ?_
  exact ⟨hz, its', _, hv, q⟩
theorem Inv.lnew {its : List Value} {t' : Nat} (I : Inv X pins σ H s) (hv : Vals ys its) (hz : ys.length ≤ sizeLine) :
    Inv X pins σ (upd H s.heap.objs.size (.lst ys)) { s with heap := s.heap.push { cls := .type "list", data := .seq its.toArray }, toks := t' } :=
  I.laid (fun _ _ q => Heap.get?_push_of_some _ q) (Nat.le_refl _) ⟨hz, its, 0, hv, Heap.get?_push_size _ rfl⟩
theorem Inv.fresh (I : Inv X pins σ H s) : H s.heap.objs.size = none := I.hok.fresh (Nat.le_refl _)
theorem Inv.lstM (I : Inv X pins σ H s) (hH : H l = some (.lst xs)) : xs.length ≤ sizeLine ∧ ∃ (its : List Value) (n : Nat), Vals xs its ∧ xs.length = its.length ∧ s.heap.get? l = some { cls := .type "list", data := .seq its.toArray n } := by
  obtain ⟨z, its, n, r, e⟩ := I.hok l _ hH
  exact ⟨z, its, n, r, r.length, e⟩

theorem notLongL {n : Nat} (h : n ≤ sizeLine) : Builtin.List.listTooLong n = false := by
  unfold Builtin.List.listTooLong
  exact decide_eq_false (by omega)
end

section
variable {X : Cx}

def rAppend : V → List V → Hp → VK → Prop := fun x vs H Q => ∃ l xs y, x = .ref l ∧ vs = [y] ∧ H l = some (.lst xs) ∧ xs.length < sizeLine ∧ Q .non (upd H l (.lst (xs ++ [y])))
theorem mt_append : MtM X "list.append" rAppend := by
  intro pins s σ H x vs v us Q I rx rv h
  obtain ⟨l, xs, y, rfl, rfl, hH, hz, q⟩ := h
  cases rx
  obtain ⟨u, rfl, ru⟩ := rv.one
  obtain ⟨z, its, n, r, hl, e⟩ := I.lstM hH
  refine call_meets F.slot_list_append ⟨_, e, rfl⟩ F.entry_list_append (F.args_list_append_2 _ _) (PySem.list_append l its.toArray n u (by rw [List.size_toArray]; omega)) ⟨e, ?_⟩
  refine ⟨.non, _, I.lset (its' := its ++ [u]) hH e (by simp) (r.append (.cons ru .nil)) ?_, rfl, q⟩
  rw [List.length_append, List.length_singleton]
  omega

def rExtend : V → List V → Hp → VK → Prop := fun x vs H Q => ∃ l b xs zs, x = .ref l ∧ vs = [.ref b] ∧ H l = some (.lst xs) ∧ H b = some (.lst zs) ∧ xs.length + zs.length ≤ sizeLine ∧ Q .non (upd H l (.lst (xs ++ zs)))
theorem mt_extend : MtM X "list.extend" rExtend := by
  intro pins s σ H x vs v us Q I rx rv h
  obtain ⟨l, b, xs, zs, rfl, rfl, hH, hB, hz, q⟩ := h
  cases rx
  obtain ⟨u, rfl, ru⟩ := rv.one
  cases ru
  obtain ⟨z, its, n, r, hl, e⟩ := I.lstM hH
  obtain ⟨z2, its2, n2, r2, hl2, e2⟩ := I.lstM hB
  have hsz : its.toArray.size + its2.toArray.size ≤ sizeLine := by rw [List.size_toArray, List.size_toArray]; omega
  have hlong : ¬ (!its.toArray.isEmpty && Builtin.List.listTooLong (its.toArray.size + its2.toArray.size)) = true := by
    rw [notLongL hsz, Bool.and_false]
    exact Bool.false_ne_true
  refine call_meets F.slot_list_extend ⟨_, e, rfl⟩ F.entry_list_extend (F.args_list_extend_2 _ _)
    (AutoSeq1.list_extend_list_list_0 l its.toArray n b its2.toArray n2 hlong (by rw [List.size_toArray]; omega) (by omega)) ⟨e, e2, ?_⟩
  refine ⟨.non, _, I.lset (its' := its ++ its2) hH e (by simp) (r.append r2) ?_, rfl, q⟩
  rw [List.length_append]
  omega

def rPop : V → List V → Hp → VK → Prop := fun x vs H Q => ∃ l xs y, x = .ref l ∧ vs = [] ∧ H l = some (.lst xs) ∧ xs[xs.length - 1]? = some y ∧ Q y (upd H l (.lst xs.dropLast))
theorem mt_pop : MtM X "list.pop" rPop := by
  intro pins s σ H x vs v us Q I rx rv h
  obtain ⟨l, xs, y, rfl, rfl, hH, hy, q⟩ := h
  cases rx
  have hus := rv.zero
  subst hus
  obtain ⟨z, its, n, r, hl, e⟩ := I.lstM hH
  obtain ⟨u, hu, ru⟩ := r.get hy
  have hy' : its.toArray[its.toArray.size - 1]? = some u := by
    show its.toArray[its.length - 1]? = some u
    rw [← Array.getElem?_toList, ← hl]
    exact hu
  refine call_meets F.slot_list_pop ⟨_, e, rfl⟩ F.entry_list_pop (F.args_list_pop_1 _) (MeetsSeq.list_pop_last l its.toArray n u hy' (by rw [List.size_toArray]; omega)) ⟨e, ?_⟩
  refine ⟨y, _, I.lset (its' := its.dropLast) hH e ?_ r.dropLast ?_, ru, q⟩
  · show its.toArray.eraseIdxIfInBounds (its.toArray.size - 1) = its.dropLast.toArray
    rw [List.size_toArray, List.eraseIdxIfInBounds_toArray, erase_last]
  · rw [List.length_dropLast]
    omega

def rCat : R2 := fun x y H Q => ∃ l b xs zs, x = .ref l ∧ y = .ref b ∧ H l = some (.lst xs) ∧ H b = some (.lst zs) ∧ xs.length + zs.length ≤ sizeLine ∧ ∀ p, H p = none → Q (.ref p) (upd H p (.lst (xs ++ zs)))
theorem op_cat : OpR X (binaryOp .Add) rCat := by
  intro pins s σ H x y v u Q I rx ry h
  obtain ⟨l, b, xs, zs, rfl, rfl, hH, hB, hz, q⟩ := h
  cases rx
  cases ry
  obtain ⟨z, its, n, r, hl, e⟩ := I.lstM hH
  obtain ⟨z2, its2, n2, r2, hl2, e2⟩ := I.lstM hB
  refine PySem.P.add_list e e2 ?_ (by rw [List.size_toArray, List.size_toArray]; omega)
  have ea : its.toArray ++ its2.toArray = (its ++ its2).toArray := by simp
  rw [ea]
  exact ⟨.ref _, _, I.lnew (t' := s.toks) (r.append r2) (by rw [List.length_append]; omega), rfl, q _ I.fresh⟩
/-- a list times an int (a negative one is nothing) -/
def rRep : R2 := fun x y H Q => ∃ l k xs, x = .ref l ∧ y = .int k ∧ H l = some (.lst xs) ∧ -(2 ^ 63) ≤ k ∧ k < 2 ^ 63 ∧ xs.length * k.toNat ≤ sizeLine ∧
  ∀ p, H p = none → Q (.ref p) (upd H p (.lst (List.replicate k.toNat xs).flatten))
theorem len_rep {α : Type} (xs : List α) (k : Nat) : (List.replicate k xs).flatten.length = k * xs.length := by
  induction k with
  | zero => simp
  | succ k ih => rw [List.replicate_succ, List.flatten_cons, List.length_append, ih, Nat.succ_mul, Nat.add_comm]
theorem op_rep : OpR X (binaryOp .Mult) rRep := by
  intro pins s σ H x y v u Q I rx ry h
  obtain ⟨l, k, xs, rfl, rfl, hH, h1, h2, hz, q⟩ := h
  cases rx
  obtain ⟨t, rfl⟩ := ry
  obtain ⟨z, its, n, r, hl, e⟩ := I.lstM hH
  have hlen : its.toArray.size * k.toNat ≤ sizeLine := by rw [List.size_toArray, ← hl]; exact hz
  have hcap : ¬ its.toArray.size * k.toNat > (2 ^ 63 - 1) / 8 := by
    have : (sizeLine : Nat) ≤ (2 ^ 63 - 1) / 8 := by decide
    omega
  have hfit : ¬ (!Builtin.List.listFitsIndex k) = true := by
    rw [fitsIndex_both h1 h2]
    exact Bool.false_ne_true
  have hlong : ¬ Builtin.List.listTooLong (its.toArray.size * k.toNat) = true := by
    rw [notLongL hlen]
    exact Bool.false_ne_true
  have hnew : List.foldl (fun x1 x2 => x1 ++ x2) #[] (List.replicate (if its.toArray.isEmpty = true then 0 else k.toNat) its.toArray) = (List.replicate k.toNat its).flatten.toArray := by
    have f0 : ∀ m : Nat, List.foldl (fun x1 x2 => x1 ++ x2) #[] (List.replicate m its.toArray) = (List.replicate m its).flatten.toArray := fun m => by
      have := foldl_rep its m []
      rw [List.nil_append] at this
      exact this
    rw [f0]
    cases its with
    | nil => simp
    | cons a r' => rw [if_neg (by simp)]
  refine wpAny_binaryOp_repeat_ref (T := "list") (U := "int") (by decide) ⟨_, e, rfl⟩ (fun s' => typeIs_int s' k t) noFill_list_mul F.fills_int_mul F.slot_int_rmul repeat_list F.slot_int_index.lookup
    (call_meets F.slot_int_rmul (typeIs_int s k t) F.entry_int_rmul (F.args_int_rmul_2 _ _) (int___rmul___int_list k t l its.toArray n)
      ⟨e, rfl, ⟨_, e, rfl⟩, call_meets F.slot_list_mul ⟨_, e, rfl⟩ F.entry_list_mul (F.args_list_mul_2 _ _) (AutoListH.list___mul___list_int_3 l its.toArray n k t hfit hcap hlong) ⟨e, ?_⟩⟩)
  rw [hnew]
  exact ⟨.ref _, _, I.lnew (t' := s.toks) (r.rep k.toNat) (by rw [len_rep, Nat.mul_comm]; exact hz), rfl, q _ I.fresh⟩

end

section
variable {prog : Program} {w : World} {A : Around} {E : Value → Shared → Prop} {s : Shared}
end

section
variable {X : Cx}
end
end L2

namespace L2
open PySem PySem.Spec PyProof.Rows

theorem Vals.bls : ∀ {bs : List Bool} {us : List Value}, Vals (bs.map V.bl) us → us = bs.map Value.bool
  | [], us, h => by
    rw [List.map_nil] at h
    cases h
    rfl
  | b :: bs, us, h => by
    rw [List.map_cons] at h
    cases h with
    | cons r t =>
      cases r
      rw [Vals.bls t, List.map_cons]
theorem Vals.ref1 {a : Addr} {us : List Value} (r : Vals [V.ref a] us) : us = [Value.ref a] := by
  cases r with
  | cons r t =>
    cases t
    cases r
    rfl
section
variable {prog : Program} {w : World} {A : Around} {E : Value → Shared → Prop} {s : Shared} {l : Addr} {its : List Value} {ns : List Int} {Q : Value → Shared → Prop}
end

section
variable {X : Cx}
end

section
variable {X : Cx}
end

section
variable {X : Cx}
end

theorem iter_any {prog : Program} {w : World} {A : Around} {E : Value → Shared → Prop} {s : Shared} {l : Addr} {items : Array Value} {Q : Value → Shared → Prop} (hl : s.heap.IsList l items)
    (h : ∀ s₂ : Shared, s₂ = { s with heap := s.heap.push { cls := .type "list_iterator", data := .fields #[.ref l, .int 0 0] } } →
      (s₂.heap.IsListIter s.heap.objs.size l 0 ∧ s₂.heap.IsList l items) → l ≠ s.heap.objs.size → Q (.ref s.heap.objs.size) s₂) : wpAny (model prog w) A (pyIter (.ref l)) Q E s := by
  have hlt : l < s.heap.objs.size := by obtain ⟨_, e, _⟩ := hl; exact Heap.lt_size e
  exact wpAny_pyIter_list hl (h _ rfl ⟨⟨_, Heap.get?_push_size _ rfl, rfl, rfl⟩, hl.push _⟩ (Nat.ne_of_lt hlt))
theorem truth_bools {prog : Program} {w : World} {A : Around} {bs : List Bool} {its : List Value} (e : its = bs.map Value.bool) :
    TruthOf prog w A (fun i v => its.toArray[i]? = some v) (fun i => bs.getD i false) := fun i v s Q E hv hq => by
  have hv' : its[i]? = some v := by simpa using hv
  rw [e, List.getElem?_map] at hv'
  obtain ⟨b, hb, rfl⟩ := Option.map_eq_some_iff.mp hv'
  have hg : bs.getD i false = b := by rw [List.getD_eq_getElem?_getD, hb] <;> rfl
  have hq' : Q (bs.getD i false) s := hq
  rw [hg] at hq'
  exact wpAny_truthy_bool hq'
theorem all_range : ∀ bs : List Bool, (List.range bs.length).all (fun i => bs.getD i false) = bs.all id
  | [] => rfl
  | b :: bs => by
    rw [List.length_cons, List.range_succ_eq_map, List.all_cons, List.all_map, List.all_cons, ← all_range bs]
    all_goals rfl
section
variable {X : Cx}
def rAll (K : PySem.W.Frag) : List V → Hp → VK → Prop := fun vs H Q => ∃ (a : Addr) (bs : List Bool), vs = [V.ref a] ∧ SqL K H a (bs.map V.bl) ∧ Q (.bl (bs.all id)) H
theorem cr_all (hc : X.calm = true) : CallR X (.builtin "all") (rAll X.K) := by
  intro pins s σ H vs us Q I r h
  obtain ⟨a, bs, rfl, hs, q⟩ := h
  obtain ⟨its, rv, hl, _⟩ := I.list hs
  rw [Vals.ref1 r]
  have hb := rv.bls
  refine call_all_walk (iter_any hl.isList fun s₂ e2 st hne => ?_)
  subst e2
  refine ⟨_, _, _, _, _, _, _, rfl, Walks.list (A := X.A.in1) (I.ok.hd hc) _ a hne its.toArray, st, truth_bools hb, fun h' tk hk => ?_⟩
  refine ⟨.bl _, H, I.kept fun b o eo => hk b o (fun hmem => ?_) (Heap.get?_push_of_some _ eo), ?_, q⟩
  · rcases List.mem_cons.mp hmem with e1 | hmem
    · exact absurd (e1 ▸ Heap.lt_size eo) (Nat.lt_irrefl _)
    · cases hmem
  · show Value.bool _ = Value.bool _
    rw [← all_range, hb, List.size_toArray, List.length_map]
end

mutual
inductive Dp (K : PySem.W.Frag) (H : Hp) : V → PyData → Prop
  | non : Dp K H .non .none
  | bl (b : Bool) : Dp K H (.bl b) (.bool b)
  | int (i : Int) : Dp K H (.int i) (.int i)
  | str (x : Str) : Dp K H (.str x) (.str x)
  | lst {a : Addr} {xs : List V} {ds : List PyData} : SqL K H a xs → DpAll K H xs ds → Dp K H (.ref a) (.list ds)
  | tup {a : Addr} {xs : List V} {ds : List PyData} : SqT K H a xs → DpAll K H xs ds → Dp K H (.ref a) (.tuple ds)
inductive DpAll (K : PySem.W.Frag) (H : Hp) : List V → List PyData → Prop
  | nil : DpAll K H [] []
  | cons {v : V} {vs : List V} {d : PyData} {ds : List PyData} : Dp K H v d → DpAll K H vs ds → DpAll K H (v :: vs) (d :: ds)
end
section
variable {X : Cx} {pins : List (Addr × Obj)} {σ : St} {H : Hp} {s : Shared}
mutual
theorem Dp.reads (I : Inv X pins σ H s) : ∀ (d : PyData) (v : V) (u : Value), Dp X.K H v d → RelV v u → ∃ as, Reads s.heap u d as
  | .none, _, _, h, r => by
    cases h
    cases r
    exact ⟨_, Reads.none⟩
  | .bool b, _, _, h, r => by
    cases h
    cases r
    exact ⟨_, Reads.bool b⟩
  | .int i, _, _, h, r => by
    cases h
    obtain ⟨t, rfl⟩ := r
    exact ⟨_, Reads.int i t⟩
  | .str x, _, _, h, r => by
    cases h
    obtain ⟨t, rfl⟩ := r
    exact ⟨_, Reads.str x t⟩
  | .list ds, _, _, h, r => by
    cases h with
    | lst hs ha =>
      cases r
      obtain ⟨its, rv, ⟨o, n, ho, hc, _, hd⟩, _⟩ := I.list hs
      obtain ⟨as, hr⟩ := Dp.readsAll I ds _ its ha rv
      exact ⟨_, Reads.list ho hc hd hr⟩
  | .tuple ds, _, _, h, r => by
    cases h with
    | tup hs ha =>
      cases r
      obtain ⟨its, rv, ⟨o, ho, hc, n, hd⟩, _⟩ := I.tuple hs
      obtain ⟨as, hr⟩ := Dp.readsAll I ds _ its ha rv
      exact ⟨_, Reads.tuple ho hc hd hr⟩
  | .dict _, _, _, h, _ => by cases h
theorem Dp.readsAll (I : Inv X pins σ H s) : ∀ (ds : List PyData) (vs : List V) (us : List Value), DpAll X.K H vs ds → Vals vs us → ∃ as, ReadsAll s.heap us ds as
  | [], _, _, h, r => by
    cases h
    cases r
    exact ⟨_, ReadsAll.nil⟩
  | d :: ds, _, _, h, r => by
    cases h with
    | cons h1 h2 =>
      cases r with
      | cons r1 r2 =>
        obtain ⟨as, q1⟩ := Dp.reads I d _ _ h1 r1
        obtain ⟨bs, q2⟩ := Dp.readsAll I ds _ _ h2 r2
        exact ⟨_, ReadsAll.cons q1 q2⟩
end
end
section
variable {X : Cx}
def rEqD (K : PySem.W.Frag) : R2 := fun x y H Q => ∃ d e, Dp K H x d ∧ Dp K H y e ∧ SeqAt.shaped d = true ∧ SeqAt.shaped e = true ∧ Q (.bl (PyData.eqv d e)) H
theorem op_eqD (hu : X.A.units + 64 < cLine) : OpR X (compareOp .Eq) (rEqD X.K) := by
  intro pins s σ H x y v u Q I rx ry h
  obtain ⟨d, e, hd, he, sd, se, q⟩ := h
  obtain ⟨as, r1⟩ := Dp.reads I d x v hd rx
  obtain ⟨bs, r2⟩ := Dp.reads I e y u he ry
  exact SeqAt.compareEq_shaped r1 r2 sd se hu ⟨.bl _, H, I, rfl, q⟩
end
end L2

namespace L2
open PySem PySem.Spec PyProof.Rows
abbrev CellAt (h : Heap) (c : Addr) (v : Option Value) : Prop := h.IsCell c v
def relS (scope sc : Scope) : Scope :=
  { scope with names := scope.names.map fun (n, k) => if (k == .free && sc.kind == .function && sc.names.lookup n == some .cell) then (n, .cell) else (n, k) }

def cloFrom (cells : List (Str × Addr)) : List (Str × NameKind) → List (Str × Addr) → List (Str × Addr)
  | [], acc => acc
  | (n, k) :: r, acc => if k == .free then cloFrom cells r ((n, (cells.lookup n).getD 0) :: acc) else cloFrom cells r acc

theorem closure_loop (env : Env) (f : Str × NameKind → List (Str × Addr) → Sem (ForInStep (List (Str × Addr))))
    (hf : ∀ n k c, f (n, k) c = if k == .free then (do let a ← cellOf env n; pure (.yield ((n, a) :: c))) else pure (.yield c)) :
    ∀ (names : List (Str × NameKind)) (acc : List (Str × Addr)), (∀ y ∈ names, y.2 = .free → ∃ c, env.cells.lookup y.1 = some c) → forIn names acc f = pure (cloFrom env.cells names acc)
  | [], acc, _ => by rw [List.forIn_nil]; rfl
  | (n, k) :: r, acc, h => by
    rw [List.forIn_cons, hf]
    have ih := fun acc => closure_loop env f hf r acc fun y hy => h y (List.mem_cons_of_mem _ hy)
    unfold cloFrom
    by_cases hk : (k == NameKind.free) = true
    · rw [if_pos hk, if_pos hk]
      obtain ⟨c, hc⟩ := h (n, k) List.mem_cons_self (by simpa using hk)
      have e : cellOf env n = pure c := by unfold cellOf; rw [hc]
      rw [e]
      have e2 : (env.cells.lookup n).getD 0 = c := by rw [hc]; rfl
      rw [e2]
      exact ih _
    · rw [if_neg hk, if_neg hk]
      exact ih _
theorem closure_ok {scope : Scope} {env : Env} (h : ∀ y ∈ scope.names, y.2 = .free → ∃ c, env.cells.lookup y.1 = some c) : closureFor scope env = pure (cloFrom env.cells scope.names []) := by
  simp only [closureFor]
  rw [closure_loop env _ (fun n k c => rfl) scope.names [] h]
  rfl

theorem mem_lookup {α : Type} : ∀ {l : List (Str × α)} {n : Str} {c : α}, (n, c) ∈ l → ∃ c', l.lookup n = some c'
  | (k, v) :: r, n, c, h => by
    rw [List.lookup_cons]
    cases hb : n == k with
    | true => exact ⟨_, rfl⟩
    | false =>
      rcases List.mem_cons.mp h with e | h
      · cases e; simp at hb
      · exact mem_lookup h

theorem cloFrom_mem {cells : List (Str × Addr)} : ∀ {names : List (Str × NameKind)} {acc : List (Str × Addr)} {n : Str} {c : Addr}, (n, c) ∈ cloFrom cells names acc → (n, c) ∈ acc ∨ ((n, .free) ∈ names ∧ c = (cells.lookup n).getD 0)
  | [], _, _, _, h => .inl h
  | (m, k) :: r, acc, n, c, h => by
    unfold cloFrom at h
    split at h
    · rename_i hk
      have hk : k = .free := by simpa using hk
      rcases cloFrom_mem h with h | ⟨h1, h2⟩
      · rcases List.mem_cons.mp h with e | h
        · cases e; exact .inr ⟨hk ▸ List.mem_cons_self, rfl⟩
        · exact .inl h
      · exact .inr ⟨List.mem_cons_of_mem _ h1, h2⟩
    · rcases cloFrom_mem h with h | ⟨h1, h2⟩
      · exact .inl h
      · exact .inr ⟨List.mem_cons_of_mem _ h1, h2⟩
theorem cloFrom_acc {cells : List (Str × Addr)} : ∀ {names : List (Str × NameKind)} {acc : List (Str × Addr)} {p : Str × Addr}, p ∈ acc → p ∈ cloFrom cells names acc
  | [], _, _, h => h
  | (m, k) :: r, acc, p, h => by
    unfold cloFrom
    split
    · exact cloFrom_acc (List.mem_cons_of_mem _ h)
    · exact cloFrom_acc h
theorem cloFrom_has {cells : List (Str × Addr)} : ∀ {names : List (Str × NameKind)} {acc : List (Str × Addr)} {n : Str}, (n, .free) ∈ names → (n, (cells.lookup n).getD 0) ∈ cloFrom cells names acc
  | (m, k) :: r, acc, n, h => by
    unfold cloFrom
    rcases List.mem_cons.mp h with e | h
    · cases e
      exact cloFrom_acc List.mem_cons_self
    · split
      · exact cloFrom_has h
      · exact cloFrom_has h

theorem cells_mem : ∀ {names : List (Str × NameKind)} {h : Heap} {acc : List (Str × Addr)} {x : Str} {c : Addr}, (x, c) ∈ cellsFrom h.objs.size names acc →
    (x, c) ∈ acc ∨ ((x, .cell) ∈ names ∧ h.objs.size ≤ c ∧ CellAt (pushCells h names) c none)
  | [], _, _, _, _, h => .inl h
  | (n, k) :: r, h, acc, x, c, hm => by
    unfold cellsFrom at hm
    unfold pushCells
    split at hm
    · rename_i hk
      rw [if_pos hk]
      have hk : k = .cell := by simpa using hk
      rw [← Heap.size_push h { cls := .type "cell", data := .cell none }] at hm
      rcases cells_mem hm with hm | ⟨h1, h2, h3⟩
      · rcases List.mem_cons.mp hm with e | hm
        · cases e
          exact .inr ⟨hk ▸ List.mem_cons_self, Nat.le_refl _, _, pushCells_keeps r _ _ _ (Heap.get?_push_size _ rfl), rfl⟩
        · exact .inl hm
      · rw [Heap.size_push] at h2
        exact .inr ⟨List.mem_cons_of_mem _ h1, Nat.le_of_succ_le h2, h3⟩
    · rename_i hk
      rw [if_neg hk]
      rcases cells_mem hm with hm | ⟨h1, h2, h3⟩
      · exact .inl hm
      · exact .inr ⟨List.mem_cons_of_mem _ h1, h2, h3⟩
theorem cells_acc : ∀ {names : List (Str × NameKind)} {n : Nat} {acc : List (Str × Addr)} {p : Str × Addr}, p ∈ acc → p ∈ cellsFrom n names acc
  | [], _, _, _, h => h
  | (m, k) :: r, n, acc, p, h => by
    unfold cellsFrom
    split
    · exact cells_acc (List.mem_cons_of_mem _ h)
    · exact cells_acc h
theorem cells_has : ∀ {names : List (Str × NameKind)} {n : Nat} {acc : List (Str × Addr)} {x : Str}, (x, .cell) ∈ names → ∃ c, (x, c) ∈ cellsFrom n names acc
  | (m, k) :: r, n, acc, x, h => by
    unfold cellsFrom
    rcases List.mem_cons.mp h with e | h
    · cases e
      exact ⟨n, cells_acc List.mem_cons_self⟩
    · split
      · exact cells_has h
      · exact cells_has h
theorem cells_inj : ∀ {names : List (Str × NameKind)} {h : Heap} {acc : List (Str × Addr)} {x y : Str} {c : Addr}, (∀ p ∈ acc, p.2 < h.objs.size) → (∀ x y c, (x, c) ∈ acc → (y, c) ∈ acc → x = y) →
    (x, c) ∈ cellsFrom h.objs.size names acc → (y, c) ∈ cellsFrom h.objs.size names acc → x = y
  | [], _, _, _, _, _, _, hi, h1, h2 => hi _ _ _ h1 h2
  | (n, k) :: r, h, acc, x, y, c, hl, hi, h1, h2 => by
    unfold cellsFrom at h1 h2
    split at h1
    · rename_i hk
      rw [if_pos hk] at h2
      rw [← Heap.size_push h { cls := .type "cell", data := .cell none }] at h1 h2
      refine cells_inj (h := h.push _) (fun p hp => ?_) (fun x y c a b => ?_) h1 h2
      · rw [Heap.size_push]
        rcases List.mem_cons.mp hp with rfl | hp
        · exact Nat.lt_succ_self _
        · exact Nat.lt_succ_of_lt (hl p hp)
      · rcases List.mem_cons.mp a with e | a <;> rcases List.mem_cons.mp b with e' | b
        · cases e; cases e'; rfl
        · cases e; exact absurd (hl _ b) (Nat.lt_irrefl _)
        · cases e'; exact absurd (hl _ a) (Nat.lt_irrefl _)
        · exact hi _ _ _ a b
    · rename_i hk
      rw [if_neg hk] at h2
      exact cells_inj hl hi h1 h2

theorem newEnv_comp {M : Model} {A : Around} {E : Value → Shared → Prop} {s : Shared} {scope : Scope} {globals : Addr} {closure : List (Str × Addr)} {qual : Str} {func : Option Addr} {code : Value} {around : Env} {builtins : Addr} {Q : Env → Shared → Prop}
    (h : Q (newEnv scope s.heap.objs.size globals (cellsFrom (s.heap.objs.size + 1) scope.names closure) qual func code (some around) builtins)
      { s with heap := pushCells (s.heap.push { cls := .type "dict", data := .dict #[] }) scope.names }) :
    wpAny M A (newFunctionEnv scope globals closure [] qual func code (some around) builtins) Q E s := by
  simp only [newFunctionEnv, Option.isSome_some, if_true]
  refine wpAny_bind (wpAny_alloc ?_)
  refine wpAny_bind (wpAny_layCells _ (fun n k c => rfl) scope.names closure _ _ ?_)
  rw [show ({ s with heap := s.heap.push { cls := .type "dict", data := .dict #[] } } : Shared).heap.objs.size = s.heap.objs.size + 1 from Heap.size_push ..]
  rw [List.forIn_nil]
  exact wpAny_bind (wpAny_pure (wpAny_pure h))

/-- every name of the written scope, in the scope that runs -/
theorem lookup_relS {sc : Scope} : ∀ {names : List (Str × NameKind)} {x : Str} {k : NameKind},
    (names.map fun (n, k) => if (k == NameKind.free && sc.kind == .function && sc.names.lookup n == some .cell) then (n, NameKind.cell) else (n, k)).lookup x = some k →
    ∃ k', names.lookup x = some k' ∧ (k = k' ∨ (k' = .free ∧ k = .cell))
  | [], _, _, h => by simp at h
  | (n, k₀) :: r, x, k, h => by
    have ih := @lookup_relS sc r x k
    have h' : List.lookup x ((if (k₀ == NameKind.free && sc.kind == .function && sc.names.lookup n == some .cell) = true then (n, NameKind.cell) else (n, k₀)) :: (r.map _)) = some k := h
    cases hx : x == n with
    | true =>
      simp only [List.lookup_cons, hx]
      by_cases hc : (k₀ == NameKind.free && sc.kind == .function && sc.names.lookup n == some .cell) = true
      · rw [if_pos hc] at h'
        simp only [List.lookup_cons, hx] at h'
        cases h'
        simp only [Bool.and_eq_true, beq_iff_eq] at hc
        exact ⟨k₀, rfl, .inr ⟨hc.1.1, rfl⟩⟩
      · rw [if_neg hc] at h'
        simp only [List.lookup_cons, hx] at h'
        cases h'
        exact ⟨_, rfl, .inl rfl⟩
    | false =>
      simp only [List.lookup_cons, hx]
      by_cases hc : (k₀ == NameKind.free && sc.kind == .function && sc.names.lookup n == some .cell) = true
      · rw [if_pos hc] at h'
        simp only [List.lookup_cons, hx] at h'
        exact ih h'
      · rw [if_neg hc] at h'
        simp only [List.lookup_cons, hx] at h'
        exact ih h'
/-- the names of a comprehension's block: its own (with their places in N), or captured -/
structure BlkOk (N : List Str) (sc scope : Scope) (own : List (Str × Nat)) : Prop where
  kind : scope.kind = .function
  uniq : ∀ y ∈ scope.names, scope.names.lookup y.1 = some y.2
  ix : ∀ p ∈ own, N[p.2]? = some p.1
  free : ∀ y ∈ scope.names, y.2 = .free → sc.names.lookup y.1 = some .cell ∨ sc.names.lookup y.1 = some .free
  own : ∀ y ∈ scope.names, y.2 = .local ∨ y.2 = .cell → y.1 ∈ own.map (·.1) ∨ y.1 ∉ N
/-- the slots of the block's own names forgotten -/
def wipe (σ : St) : List Nat → St
  | [] => σ
  | v :: vs => (wipe σ vs).set v none
theorem wipe_length (σ : St) : ∀ vs : List Nat, (wipe σ vs).length = σ.length
  | [] => rfl
  | v :: vs => by unfold wipe; rw [List.length_set, wipe_length σ vs]
theorem wipe_some {σ : St} {i : Nat} {x : V} : ∀ {vs : List Nat}, (wipe σ vs)[i]? = some (some x) → σ[i]? = some (some x) ∧ i ∉ vs
  | [], h => ⟨h, by simp⟩
  | v :: vs, h => by
    unfold wipe at h
    by_cases hi : v = i
    · subst hi
      by_cases hv : v < (wipe σ vs).length
      · rw [List.getElem?_set_self hv] at h; cases h
      · rw [List.getElem?_eq_none (by simpa using hv)] at h; cases h
    · rw [List.getElem?_set_ne hi] at h
      obtain ⟨h1, h2⟩ := wipe_some h
      exact ⟨h1, by simp only [List.mem_cons, not_or]; exact ⟨fun e => hi e.symm, h2⟩⟩

/-- the context of a block that starts at s, its iterator's objects at fp -/
abbrev Cx.blk (X : Cx) (s : Shared) (H : Hp) (scope : Scope) (cenv : Env) (fp : List Addr) : Cx := { X with s_0 := s, H_0 := H, env := cenv, outer := X.stack, ex := fp, fn := fun x => scope.names.lookup x == some .cell, pn := [], xe := fun _ _ => False }
section
variable {X : Cx} {pins : List (Addr × Obj)} {σ : St} {H : Hp} {s : Shared}
theorem block_start {scope : Scope} {own : List (Str × Nat)} {fp : List Addr} (I : Inv X pins σ H s) (ok : BlkOk X.N X.env.scope scope own) (hN : X.N.Nodup) (hfp : ∀ b ∈ fp, FpOk X pins H b ∧ b < s.heap.objs.size) :
    Inv (X.blk s H scope (compEnvC scope (cellsFrom (s.heap.objs.size + 1) scope.names (cloFrom X.env.cells scope.names [])) s.heap.objs.size X.env) fp) [] (wipe σ (own.map (·.2))) H { s with heap := pushCells (s.heap.push { cls := .type "dict", data := .dict #[] }) scope.names } := by
  have hfree : ∀ y ∈ scope.names, y.2 = .free → ∃ c, X.env.cells.lookup y.1 = some c := fun y hy e => by
    rcases ok.free y hy e with k | k
    · exact I.ok.has _ (.inl k)
    · exact I.ok.has _ (.inr k)
  generalize hcenv : compEnvC scope (cellsFrom (s.heap.objs.size + 1) scope.names (cloFrom X.env.cells scope.names [])) s.heap.objs.size X.env = cenv
  have kp : ∀ b o, s.heap.get? b = some o → (pushCells (s.heap.push { cls := .type "dict", data := .dict #[] }) scope.names).get? b = some o := fun b o e => pushCells_keeps _ _ _ _ (Heap.get?_push_of_some _ e)
  have hL : cenv.locals = s.heap.objs.size := by rw [← hcenv]; rfl
  have hcl : cenv.cells = cellsFrom (s.heap.objs.size + 1) scope.names (cloFrom X.env.cells scope.names []) := by rw [← hcenv]; rfl
  have hsc : cenv.scope = relS scope X.env.scope := by rw [← hcenv]; rfl
  rw [← Heap.size_push s.heap { cls := .type "dict", data := .dict #[] }] at hcl
  have cm : ∀ {y c}, (y, c) ∈ cloFrom X.env.cells scope.names [] → X.env.cells.lookup y = some c ∧ c < s.heap.objs.size := fun {y c} hm => by
    rcases cloFrom_mem hm with hm | ⟨h1, rfl⟩
    · cases hm
    · obtain ⟨c, hc⟩ := hfree _ h1 rfl
      rw [hc]
      obtain ⟨w, z⟩ := I.cell _ _ hc
      exact ⟨rfl, z.lt⟩
  have mem : ∀ {y c}, cenv.cells.lookup y = some c → (X.env.cells.lookup y = some c ∧ c < s.heap.objs.size) ∨ (s.heap.objs.size + 1 ≤ c ∧ CellAt (pushCells (s.heap.push { cls := .type "dict", data := .dict #[] }) scope.names) c none) := fun {y c} e => by
    rw [hcl] at e
    rcases cells_mem (PySem.mem_of_lookup e) with hm | ⟨_, h2, h3⟩
    · exact .inl (cm hm)
    · rw [Heap.size_push] at h2; exact .inr ⟨h2, h3⟩
  have look : ∀ {y}, scope.names.lookup y = some .free → ∃ c, cenv.cells.lookup y = some c ∧ X.env.cells.lookup y = some c := fun {y} hl => by
    have hy : (y, NameKind.free) ∈ scope.names := PySem.mem_of_lookup hl
    obtain ⟨c', e'⟩ := mem_lookup (cells_acc (names := scope.names) (n := (s.heap.push { cls := .type "dict", data := .dict #[] }).objs.size) (cloFrom_has (cells := X.env.cells) (acc := []) hy))
    rw [← hcl] at e'
    refine ⟨c', e', ?_⟩
    rw [hcl] at e'
    rcases cells_mem (PySem.mem_of_lookup e') with hm | ⟨h1, _, _⟩
    · exact (cm hm).1
    · have := ok.uniq _ h1
      rw [hl] at this; cases this
  have okB : (X.blk s H scope cenv fp).Ok := by
    refine ⟨I.ok.mod, by show cenv.scope.kind = _; rw [hsc]; exact ok.kind, by show cenv.globals = _; rw [← hcenv]; exact I.ok.glob, by show cenv.builtins = _; rw [← hcenv]; exact I.ok.blt, by show s.heap.objs.size ≤ cenv.locals; rw [hL]; exact Nat.le_refl _,
      fun y z c e1 e2 => ?_, fun y hy => ?_, fun y c z e => ?_, I.ok.hd, I.ok.frames, .inl rfl, fun b hb => ⟨?_, fun y c e z => ?_⟩, I.bs, Nat.le_trans I.ok.bsz I.sz, fun b o e hb => ?_, fun b hb z => ?_, I.stack, I.stkFree⟩
    · have e1 : cenv.cells.lookup y = some c := e1
      have e2 : cenv.cells.lookup z = some c := e2
      rw [hcl] at e1 e2
      refine cells_inj (fun p hp => ?_) (fun y z c a b => I.ok.inj y z c (cm a).1 (cm b).1) (PySem.mem_of_lookup e1) (PySem.mem_of_lookup e2)
      rw [Heap.size_push]
      exact Nat.lt_succ_of_lt (cm (y := p.1) (c := p.2) hp).2
    · show ∃ c, cenv.cells.lookup y = some c
      have key : ∀ k, cenv.kindOf y = some k → (k = .cell ∨ k = .free) → ∃ c, cenv.cells.lookup y = some c := fun k hk hk' => by
        unfold Env.kindOf at hk
        rw [hsc] at hk
        obtain ⟨k', e, r⟩ := lookup_relS hk
        have : k' = .cell ∨ k' = .free := by
          rcases r with rfl | ⟨rfl, _⟩
          · exact hk'
          · exact .inr rfl
        rcases this with rfl | rfl
        · obtain ⟨c, hm⟩ := cells_has (n := (s.heap.push { cls := .type "dict", data := .dict #[] }).objs.size) (acc := cloFrom X.env.cells scope.names []) (PySem.mem_of_lookup e)
          obtain ⟨c', e'⟩ := mem_lookup hm
          exact ⟨c', by rw [hcl]; exact e'⟩
        · obtain ⟨c, h1, _⟩ := look e
          exact ⟨c, h1⟩
      rcases hy with hy | hy
      · exact key _ hy (.inl rfl)
      · exact key _ hy (.inr rfl)
    · have z : (scope.names.lookup y == some NameKind.cell) = true := z
      have z : scope.names.lookup y = some .cell := by simpa using z
      have e : cenv.cells.lookup y = some c := e
      rw [hcl] at e
      rcases cells_mem (PySem.mem_of_lookup e) with hm | ⟨_, h2, _⟩
      · rcases cloFrom_mem hm with hm | ⟨h1, _⟩
        · cases hm
        · have q := ok.uniq _ h1
          rw [z] at q; cases q
      · rw [Heap.size_push] at h2
        exact Nat.le_of_succ_le h2
    · show b ≠ cenv.locals
      rw [hL]; exact Nat.ne_of_lt (hfp b hb).2
    · have e : cenv.cells.lookup y = some c := e
      rcases mem e with ⟨h1, _⟩ | ⟨h1, _⟩
      · exact (hfp b hb).1.2.2.2.2.1 y c h1 z
      · have h2 : s.heap.objs.size + 1 ≤ b := by rw [← z]; exact h1
        exact absurd (Nat.lt_of_lt_of_le (hfp b hb).2 (Nat.le_of_succ_le h2)) (Nat.lt_irrefl _)
    · rcases (hfp b hb).1.2.2.2.1 with z | z
      · exact I.ok.noex b o e z
      · exact absurd (Nat.lt_of_lt_of_le (Heap.lt_size e) (Nat.le_trans I.ok.bsz z)) (Nat.lt_irrefl _)
    · rcases List.mem_cons.mp (I.stkSub b z) with z | z
      · exact (hfp b hb).1.2.1 z
      · exact (hfp b hb).1.2.2.1 z
  refine ⟨okB, rfl, I.bare, Un.kept kp, ⟨fun _ => none, ?_, fun i y av e1 e2 e3 => ?_⟩, fun y c e => ?_, ?_, fun y c e => ?_, fun p hp => ?_, I.hok.kept kp, by rw [wipe_length]; exact I.len⟩
  · show Heap.Ns _ cenv.locals _
    rw [hL]
    exact Heap.Ns.keeps (Heap.Ns.new ..) fun b o e => pushCells_keeps _ _ _ _ e
  · obtain ⟨e2, hne⟩ := wipe_some e2
    have hfr : scope.names.lookup y = some .free ∧ (cenv.kindOf y = some .cell ∨ cenv.kindOf y = some .free) := by
      have key : ∀ k, cenv.scope.names.lookup y = some k → k = .local ∨ k = .cell ∨ k = .free → scope.names.lookup y = some .free ∧ (cenv.kindOf y = some .cell ∨ cenv.kindOf y = some .free) := fun k hk hk' => by
        have hk0 := hk
        rw [hsc] at hk
        obtain ⟨k', e, r⟩ := lookup_relS hk
        have no : ¬ (k' = .local ∨ k' = .cell) := fun hh => by
          rcases ok.own _ (PySem.mem_of_lookup e) hh with e' | e'
          · obtain ⟨p, hp, hpy⟩ := List.mem_map.mp e'
            have e3 := ok.ix p hp
            have : p.1 = y := hpy
            rw [this] at e3
            exact hne (List.mem_map.mpr ⟨p, hp, nodup_ix hN e3 e1⟩)
          · exact e' (List.mem_of_getElem? e1)
        rcases r with rfl | ⟨rfl, rfl⟩
        · rcases hk' with rfl | rfl | rfl
          · exact absurd (.inl rfl) no
          · exact absurd (.inr rfl) no
          · exact ⟨e, .inr hk0⟩
        · exact ⟨e, .inl hk0⟩
      have e3 : Vis cenv.scope y := e3
      rcases e3 with e3 | e3 | e3
      · exact key _ e3 (.inl rfl)
      · exact key _ e3 (.inr (.inl rfl))
      · exact key _ e3 (.inr (.inr rfl))
    obtain ⟨m, hn, hl⟩ := I.loc
    have hvis : Vis X.env.scope y := (ok.free _ (PySem.mem_of_lookup hfr.1) rfl).elim (fun k => .inr (.inl k)) (fun k => .inr (.inr k))
    obtain ⟨w, r, q⟩ := hl i y av e1 e2 hvis
    refine ⟨w, r, .inr ⟨hfr.2, ?_⟩⟩
    obtain ⟨c, h1, h2⟩ := look hfr.1
    rcases q with ⟨k, _⟩ | ⟨_, c', e', z⟩
    · have k : X.env.scope.names.lookup y = some .local := k
      rcases ok.free _ (PySem.mem_of_lookup hfr.1) rfl with k' | k' <;> rw [show X.env.scope.names.lookup y = _ from k'] at k <;> cases k
    · rw [h2] at e'; cases e'
      exact ⟨c, h1, z.keeps kp⟩
  · have e : cenv.cells.lookup y = some c := e
    rcases mem e with ⟨h1, _⟩ | ⟨_, z⟩
    · obtain ⟨w, z⟩ := I.cell y c h1
      exact ⟨w, z.keeps kp⟩
    · exact ⟨_, z⟩
  · show H cenv.locals = none
    rw [hL]; exact I.hok.fresh (Nat.le_refl _)
  · have e : cenv.cells.lookup y = some c := e
    rcases mem e with ⟨h1, _⟩ | ⟨h1, _⟩
    · exact I.freeC y c h1
    · exact I.hok.fresh (Nat.le_of_succ_le h1)
  · exact absurd (show p ∈ ([] : List (Addr × Obj)) ++ [] from hp) (by simp)

/-- an item appended to a tracked list -/
theorem app_ok {E : Value → Shared → Prop} {D : Addr} {xs : List V} {y : V} {v : Value} {Q : Value → Shared → Prop} (I : Inv X pins σ H s) (hD : H D = some (.lst xs)) (hz : xs.length < sizeLine) (r : RelV y v)
    (h : ∀ s', Inv X pins σ (upd H D (.lst (xs ++ [y]))) s' → Q .none s') : wpAny (model X.prog X.w) X.A (call (.builtin "list.append") [.ref D, v]) Q E s := by
  obtain ⟨hz', its, n, ri, e⟩ := I.hok D _ hD
  have hl := ri.length
  refine append_at (hsz := by rw [List.size_toArray]; omega) e fun h' sb ho' => ?_
  refine h { s with heap := h' } (I.write (t' := s.toks) (by rw [hD]; trivial) (.inl rfl) (fun b u hb q => (sb.2 b hb).trans q) ⟨_, ho'⟩ ⟨by rw [List.length_append]; exact hz, its ++ [v], n + 1, ri.append (.cons r .nil), ?_⟩)
  rw [ho']
  simp

/-- a clause's tests -/
def PTs (X : Cx) (ifs : List Expr) (t : TT) : Prop :=
  ∀ (pins : List (Addr × Obj)) (s : Shared) (σ : St) (H : Hp) (Q : Bool → Hp → Prop), Inv X pins σ H s → t σ H Q →
    wpAny (model X.prog X.w) X.A (forIn ifs true fun c r => if r = true then do let ok ← isTrue c X.env (eval c X.env); pure (ForInStep.yield ok) else pure (ForInStep.yield r)) (TP X pins σ Q) X.xe s
def tYes : TT := fun _ H Q => Q true H
theorem pts_nil : PTs X [] tYes := fun _ _ _ H _ I h => wpAny_tests_nil ⟨H, I, h⟩
theorem pts_one {c : Expr} {t : TT} (h : PT X c t) : PTs X [c] t := fun pins s σ H Q I hw => wpAny_tests_one (h pins s σ H Q I hw)
end

theorem thnF {α : Type} {t : Sem α} {Q Q' : α → Shared → Prop} {M : Model} {A : Around} {E : Value → Shared → Prop} {s : Shared} (h : wpAny M A t Q (fun _ _ => False) s) (hQ : ∀ a s, Q a s → Q' a s) : wpAny M A t Q' E s := wpAny_mono h hQ fun _ _ z => False.elim z

/-- the loop of a list comprehension's block, the target of any form (codeAny_compLoop_tests asks a target that no tuple goes to; statement and proof follow it, PyProof/CompMap.lean:41-61, with the step letOwnedTupleGo kept) -/
theorem compLoop_any {prog : Program} {w : World} {A : Around} {R : Result → Shared → Prop} {s : Shared} {elt target iter : Expr} {ifs : List Expr} {scope : Scope} {pos : Pos} {it acc : Value} {env : Env} (I : Nat → Shared → Prop)
    (turn : ∀ n s, I n s → wpAny (model prog w) A (pyNext it) (fun r s₁ => match r with
      | none => R (.ok .next) s₁
      | some v => wpAny (model prog w) A (letOwnedTupleGo target it v) (fun _ s₁' => wpAny (model prog w) A (assign target env v) (fun _ s₂ =>
          wpAny (model prog w) A (forIn ifs true fun c r => if r = true then do let ok ← isTrue c env (eval c env); pure (ForInStep.yield ok) else pure (ForInStep.yield r)) (fun ok s₃ =>
            if ok = true then wpAny (model prog w) A (eval elt env) (fun x s₄ =>
              wpAny (model prog w) A (call (.builtin "list.append") [acc, x]) (fun _ s₅ => ∃ m, m < n ∧ I m s₅) (notedBy (model prog w) A env fun e s' => R (.error e) s') s₄) (notedBy (model prog w) A env fun e s' => R (.error e) s') s₃
            else ∃ m, m < n ∧ I m s₃) (notedBy (model prog w) A env fun e s' => R (.error e) s') s₂) (notedBy (model prog w) A env fun e s' => R (.error e) s') s₁') (notedBy (model prog w) A env fun e s' => R (.error e) s') s₁) (notedBy (model prog w) A env fun e s' => R (.error e) s') s)
    (n : Nat) (h : I n s) :
    codeAny (model prog w) A (.compLoop (.ListComp elt [⟨target, iter, ifs, 0⟩] scope pos) 0 it acc env) R s := by
  refine codeAny_loop rfl I (fun n s hI => ?_) n h
  show wpAny _ A ((compTurn (.ListComp elt [⟨target, iter, ifs, 0⟩] scope pos) 0 it acc env).onRaise (fun x => do noteFrame x env; theTreesLotGoes x)) _ _ s
  refine wpAny_noted ?_
  rw [compTurn_list]
  refine wpAny_bind (wpAny_standAt (wpAny_bind (wpAny_mono (turn n s hI) (fun r s₁ h₁ => ?_) fun _ _ h' => h')))
  cases r with
  | none => exact wpAny_pure h₁
  | some v =>
    refine wpAny_bind (wpAny_mono h₁ (fun _ s₁' h₁' => ?_) fun _ _ h' => h')
    refine wpAny_bind (wpAny_mono h₁' (fun _ s₂ h₂ => wpAny_bind (wpAny_mono h₂ (fun ok s₃ h₃ => ?_) fun _ _ h' => h')) fun _ _ h' => h')
    cases ok with
    | false => exact wpAny_pure ⟨rfl, h₃⟩
    | true =>
      exact wpAny_bind (wpAny_bind (wpAny_mono h₃ (fun x s₄ h₄ => wpAny_bind (wpAny_mono h₄ (fun _ s₅ h₅ => wpAny_pure (wpAny_pure ⟨rfl, h₅⟩)) fun _ _ h' => h')) fun _ _ h' => h'))

section
variable {X : Cx}
/-- [elt for target in iter if ..]: D the new list; W by the turn and a measure, Nx what a turn is to reach -/
def tLc (wi : TI) (g : TG) (tt : TT) (te : TE) (vs : List Nat) : TE := fun σ H Q => wi σ H fun J H1 => ∀ D, H1 D = none → ∃ W : Nat → Nat → Hp → Prop, (∃ m, W 0 m (upd H1 D (.lst []))) ∧ ∀ i m H, W i m H →
  (J.stop i H ∧ Q (.ref D) H) ∨ (J.go i H ∧ ∃ Nx : Hp → Prop, (∀ H', Nx H' → ∃ m', m' < m ∧ W (i + 1) m' H') ∧ ∀ x H', J.yld i H x H' → g x (wipe σ vs) H' fun σ2 H2 => wipe σ2 vs = wipe σ vs ∧ tt σ2 H2 fun b H3 =>
    if b = true then te σ2 H3 fun y H4 => ∃ acc, H4 D = some (.lst acc) ∧ acc.length < sizeLine ∧ Nx (upd H4 D (.lst (acc ++ [y]))) else Nx H3)
theorem lc_core {pins : List (Addr × Obj)} {s : Shared} {σ : St} {H : Hp} {Q : VK} {elt tg iter : Expr} {ifs : List Expr} {scope : Scope} {own : List (Str × Nat)} {pos pos' : Pos} {wi : TI} {g : TG} {tt : TT} {te : TE} {use : Option (Value → Sem Unit)} {Qf : Value → Shared → Prop}
    (hc : X.calm = true) (hN : X.N.Nodup) (I : Inv X pins σ H s) (hi : PI X tg iter wi) (ok : BlkOk X.N X.env.scope scope own)
    (hg : ∀ (s : Shared) (H : Hp) (C : Addr) (cl : List (Str × Addr)) (fp : List Addr), PG (X.blk s H scope (compEnvC scope cl C X.env) fp) tg g) (ht : ∀ (s : Shared) (H : Hp) (C : Addr) (cl : List (Str × Addr)) (fp : List Addr), PTs (X.blk s H scope (compEnvC scope cl C X.env) fp) ifs tt)
    (he : ∀ (s : Shared) (H : Hp) (C : Addr) (cl : List (Str × Addr)) (fp : List Addr), PE (X.blk s H scope (compEnvC scope cl C X.env) fp) elt te) (hs : ∀ x, foldedSetIterable iter X.env x = pure x)
    (h : tLc wi g tt te (own.map (·.2)) σ H Q)
    (hRR : ∀ D C s' m H', Inv X pins σ H' s' → Q (.ref D) H' → s'.heap.Ns C m → FpOk X pins H' C → compPost (model X.prog X.w) X.A X.xe use Qf (.ref D) C (.ok .next) s') :
    wpAny (model X.prog X.w) X.A (comprehension (.ListComp elt [⟨tg, iter, ifs, 0⟩] scope pos) scope X.env pos' (newList []) false (eval iter X.env) use) Qf X.xe s := by
  have hfree : ∀ y ∈ scope.names, y.2 = .free → ∃ c, X.env.cells.lookup y.1 = some c := fun y hy e => by
    rcases ok.free y hy e with k | k
    · exact I.ok.has _ (.inl k)
    · exact I.ok.has _ (.inr k)
  refine wpAny_comprehension_free (use := use) rfl hs (closure_ok hfree) ok.kind (fun y hy e => by rw [ok.uniq y hy, e])
    (thn (hi pins s σ H _ I h) fun xv s1 hx => thn hx fun itv s2 h2 => ?_)
  obtain ⟨it, fp, tn, J, H2, e, I2, T, st2, f2, q⟩ := h2
  subst e
  refine wpAny_newObj_type (newEnv_comp ?_) (by show 0 ≤ sizeLine; decide)
  generalize hD : s2.heap.objs.size = D
  have hDn : H2 D = none := I2.hok.fresh (Nat.le_of_eq hD)
  obtain ⟨W, ⟨m0, w0⟩, turn⟩ := q D hDn
  -- the new list
  generalize hs3 : ({ s2 with heap := s2.heap.push { cls := .type "list", data := .seq ([] : List Value).toArray } } : Shared) = s3
  have I3 : Inv X pins σ (upd H2 D (.lst [])) s3 := by
    rw [← hs3]
    refine I2.laid (t' := s2.toks) (fun b o e => Heap.get?_push_of_some _ e) (Nat.le_of_eq hD) ⟨Nat.zero_le _, [], 0, .nil, ?_⟩
    rw [← hD]
    exact Heap.get?_push_size _ rfl
  have h3 : s3.heap = s2.heap.push { cls := .type "list", data := .seq ([] : List Value).toArray } := by rw [← hs3]
  have sz : ∀ b ∈ fp, b < s2.heap.objs.size := fun b hb => by
    obtain ⟨o, e, _⟩ := T.obj _ _ st2 b hb
    exact Heap.lt_size e
  have f3 : ∀ b ∈ fp, FpOk X pins (upd H2 D (.lst [])) b ∧ b < s3.heap.objs.size := fun b hb => by
    have hlt := sz b hb
    refine ⟨⟨?_, (f2 b hb).2⟩, by rw [h3, Heap.size_push]; exact Nat.lt_succ_of_lt hlt⟩
    rw [upd_ne (by rw [← hD]; exact Nat.ne_of_lt hlt)]
    exact (f2 b hb).1
  have st3 : tn 0 s3.heap := T.keep _ _ _ st2 fun b _ o e => by rw [h3]; exact Heap.get?_push_of_some _ e
  have I4 := block_start I3 ok hN f3
  have pg := hg s3 (upd H2 D (.lst [])) s3.heap.objs.size (cellsFrom (s3.heap.objs.size + 1) scope.names (cloFrom X.env.cells scope.names [])) fp
  have pt := ht s3 (upd H2 D (.lst [])) s3.heap.objs.size (cellsFrom (s3.heap.objs.size + 1) scope.names (cloFrom X.env.cells scope.names [])) fp
  have pe := he s3 (upd H2 D (.lst [])) s3.heap.objs.size (cellsFrom (s3.heap.objs.size + 1) scope.names (cloFrom X.env.cells scope.names [])) fp
  show codeAny _ _ (.compStart (.ListComp elt [⟨tg, iter, ifs, 0⟩] scope pos) 0 (.ref it) (.ref D) (compEnvC scope (cellsFrom (s3.heap.objs.size + 1) scope.names (cloFrom X.env.cells scope.names [])) s3.heap.objs.size X.env)) (compPost (model X.prog X.w) X.A X.xe use Qf (.ref D) s3.heap.objs.size) { s3 with heap := pushCells (s3.heap.push { cls := .type "dict", data := .dict #[] }) scope.names }
  have nfp : ∀ b ∈ fp, (upd H2 D (.lst [])) b = none := fun b hb => (f3 b hb).1.1
  generalize hce : compEnvC scope (cellsFrom (s3.heap.objs.size + 1) scope.names (cloFrom X.env.cells scope.names [])) s3.heap.objs.size X.env = ce at I4 pg pt pe ⊢
  have cL : ce.locals = s3.heap.objs.size := by subst hce; rfl
  generalize hH3 : upd H2 D (.lst []) = H3 at I3 I4 pg pt pe w0 nfp f3
  generalize hs4 : ({ s3 with heap := pushCells (s3.heap.push { cls := .type "dict", data := .dict #[] }) scope.names } : Shared) = s4 at I4 ⊢
  have st4 : tn 0 s4.heap := T.keep _ _ _ st3 fun b _ o e => by rw [← hs4]; exact pushCells_keeps _ _ _ _ (Heap.get?_push_of_some _ e)
  have stat : ∀ {σ' : St} {H' : Hp} {s' : Shared}, Inv (X.blk s3 H3 scope ce fp) [] σ' H' s' → (∀ b ∈ fp, H' b = none) → ∀ b ∈ fp, FpOk (X.blk s3 H3 scope ce fp) [] H' b := fun {σ' H' s'} I' hn b hb =>
    ⟨hn b hb, (I'.ok.exf b hb).1, I'.ok.exfs b hb, .inl hb, fun x c e => (I'.ok.exf b hb).2 x c e, fun p hp => absurd (show p ∈ ([] : List (Addr × Obj)) ++ [] from hp) (by simp)⟩
  have loop : codeAny (model X.prog X.w) X.A (.compLoop (.ListComp elt [⟨tg, iter, ifs, 0⟩] scope pos) 0 (.ref it) (.ref D) ce) (compPost (model X.prog X.w) X.A X.xe use Qf (.ref D) s3.heap.objs.size) s4 := by
    refine compLoop_any (fun n s' => ∃ i H', Inv (X.blk s3 H3 scope ce fp) [] (wipe σ (own.map (·.2))) H' s' ∧ tn i s'.heap ∧ (∀ b ∈ fp, H' b = none) ∧ W i n H') ?_ m0 ⟨0, H3, I4, st4, nfp, w0⟩
    rintro n s5 ⟨i, H5, I5, st5, n5, w5⟩
    rcases turn i n H5 w5 with ⟨stop, qq⟩ | ⟨go, Nx, hNx, step⟩
    · have td := T.done (X.blk s3 H3 scope ce fp) rfl rfl rfl hc i [] s5 _ H5 (fun _ _ => False) I5 (stat I5 n5) st5 stop
      refine thnF td fun r s6 ⟨hr, I6⟩ => ?_
      subst hr
      -- back in the def's context
      have I7 : Inv X pins σ H5 s6 := I3.call' (ch := fp) I6.os I6.base I6.hok I6.bare fun b hb => ⟨(f3 b hb).1.2.2.2.1, (f3 b hb).1.2.1, (f3 b hb).1.2.2.2.2.1, (f3 b hb).1.2.2.2.2.2⟩
      have nC : H5 s3.heap.objs.size = none := by
        have z : H5 ce.locals = none := I6.free
        rw [cL] at z
        exact z
      obtain ⟨m, hn, _⟩ := I6.loc
      have hn : s6.heap.Ns ce.locals m := hn
      rw [cL] at hn
      exact hRR D s3.heap.objs.size s6 m H5 I7 qq hn (I3.fpOk (Nat.le_refl _) nC)
    · have ti := T.item (X.blk s3 H3 scope ce fp) rfl rfl rfl hc i [] s5 _ H5 (fun _ _ => False) I5 (stat I5 n5) st5 go
      refine thnF ti fun r s6 ⟨u, hr, h6⟩ => ?_
      subst hr
      refine thnF h6 fun _ s7 ⟨x, H7, I7, r7, y7, st7, n7⟩ => ?_
      have I7' := I7.pinned (stat I7 n7) (T.obj _ _ st7)
      refine thnF (pg _ s7 _ H7 x u _ I7' r7 (step x H7 y7)) fun _ s8 ⟨σ8, H8, I8, hw8, q8⟩ => ?_
      refine thnF (pt _ s8 σ8 H8 _ I8 q8) fun b s9 ⟨H9, I9, q9⟩ => ?_
      -- the turn's end
      have fin : ∀ {s' : Shared} {H' : Hp}, Inv (X.blk s3 H3 scope ce fp) ([] ++ pinsAt fp s7.heap) σ8 H' s' → Nx H' → ∃ m, m < n ∧ ∃ i H', Inv (X.blk s3 H3 scope ce fp) [] (wipe σ (own.map (·.2))) H' s' ∧ tn i s'.heap ∧ (∀ b ∈ fp, H' b = none) ∧ W i m H' := fun {s' H'} I' nx => by
        obtain ⟨m', hm, w'⟩ := hNx H' nx
        have pin' : ∀ b ∈ fp, ∀ o, s7.heap.get? b = some o → s'.heap.get? b = some o ∧ H' b = none := fun b hb o e =>
          let z := I'.pin (b, o) (List.mem_append_right _ (List.mem_append_right _ (mem_pinsAt hb e)))
          ⟨z.1, z.2.1⟩
        have hl : (wipe σ (own.map (·.2))).length = σ8.length := by rw [← hw8, wipe_length]
        refine ⟨m', hm, i + 1, H', (I'.unpinned (pins := [])).weak hl (fun j v e => ?_), T.keep _ _ _ st7 fun b hb o e => (pin' b hb o e).1, fun b hb => ?_, w'⟩
        · rw [← hw8] at e
          exact (wipe_some e).1
        · obtain ⟨o, e, _⟩ := T.obj _ _ st7 b hb
          exact (pin' b hb o e).2
      cases b with
      | false =>
        simp only [Bool.false_eq_true, if_false] at q9 ⊢
        exact fin I9 q9
      | true =>
        simp only [if_true] at q9 ⊢
        refine thnF (pe _ s9 σ8 H9 _ I9 q9) fun z s10 ⟨yv, H10, I10, r10, acc, hD10, hz10, nx⟩ => ?_
        exact app_ok (X := X.blk s3 H3 scope ce fp) I10 hD10 hz10 r10 fun s11 I11 => fin I11 nx
  exact codeAny_compStart_list loop (T.self X.A 0 _ _ _ st4 loop)
/-- as a value -/
theorem pe_lc {elt tg iter : Expr} {ifs : List Expr} {scope : Scope} {own : List (Str × Nat)} {pos : Pos} {wi : TI} {g : TG} {tt : TT} {te : TE} (hc : X.calm = true) (hN : X.N.Nodup) (hi : PI X tg iter wi) (ok : BlkOk X.N X.env.scope scope own)
    (hg : ∀ (s : Shared) (H : Hp) (C : Addr) (cl : List (Str × Addr)) (fp : List Addr), PG (X.blk s H scope (compEnvC scope cl C X.env) fp) tg g) (ht : ∀ (s : Shared) (H : Hp) (C : Addr) (cl : List (Str × Addr)) (fp : List Addr), PTs (X.blk s H scope (compEnvC scope cl C X.env) fp) ifs tt)
    (he : ∀ (s : Shared) (H : Hp) (C : Addr) (cl : List (Str × Addr)) (fp : List Addr), PE (X.blk s H scope (compEnvC scope cl C X.env) fp) elt te) (hs : ∀ x, foldedSetIterable iter X.env x = pure x := by intro _; rfl) :
    PE X (.ListComp elt [⟨tg, iter, ifs, 0⟩] scope pos) (tLc wi g tt te (own.map (·.2))) := by
  intro pins s σ H Q I h
  rw [eval_ListComp]
  refine lc_core hc hN I hi ok hg ht he hs h fun D C s' m H' I' q hn f => ⟨m, hn, fun h'' sb => ?_⟩
  obtain ⟨f0, f1, f2, f3, f4, f5⟩ := f
  exact ⟨.ref D, H', I'.turned (t' := s'.toks) (fun b o hb e => (sb.2 b hb).trans e) f0 f1 f3 f4 f5, rfl, q⟩
/-- name = [..] on one line, the name a local -/
theorem ps_setLc {i : Nat} {y : Str} {py : Pos} {elt tg iter : Expr} {ifs : List Expr} {scope : Scope} {own : List (Str × Nat)} {pos spos : Pos} {wi : TI} {g : TG} {tt : TT} {te : TE} (hc : X.calm = true) (hN : X.N.Nodup) (hy : X.N[i]? = some y) (hyl : X.env.scope.names.lookup y = some .local)
    (hsw : swapsWith (.ListComp elt [⟨tg, iter, ifs, 0⟩] scope pos) (some (.Name y py)) spos.line X.env = pure true) (hi : PI X tg iter wi) (ok : BlkOk X.N X.env.scope scope own)
    (hg : ∀ (s : Shared) (H : Hp) (C : Addr) (cl : List (Str × Addr)) (fp : List Addr), PG (X.blk s H scope (compEnvC scope cl C X.env) fp) tg g) (ht : ∀ (s : Shared) (H : Hp) (C : Addr) (cl : List (Str × Addr)) (fp : List Addr), PTs (X.blk s H scope (compEnvC scope cl C X.env) fp) ifs tt)
    (he : ∀ (s : Shared) (H : Hp) (C : Addr) (cl : List (Str × Addr)) (fp : List Addr), PE (X.blk s H scope (compEnvC scope cl C X.env) fp) elt te) (hs : ∀ x, foldedSetIterable iter X.env x = pure x := by intro _; rfl) :
    PS X (.Assign [.Name y py] (.ListComp elt [⟨tg, iter, ifs, 0⟩] scope pos) spos) (tAsg (tLc wi g tt te (own.map (·.2))) (gName i)) := by
  intro pins s σ H D I h
  rw [exec_Assign_Name_used _ _ _ _ hsw]
  refine wpAny_bind (wpAny_standAt (wpAny_bind ?_))
  show wpAny _ X.A (do let _ ← comprehension (.ListComp elt [⟨tg, iter, ifs, 0⟩] scope pos) scope X.env (firstIterPos [⟨tg, iter, ifs, 0⟩] pos) (newList []) false (eval iter X.env) (some (assign (.Name y py) X.env))) _ _ s
  have h : tLc wi g tt te (own.map (·.2)) σ H (fun x H1 => gName i x σ H1 D.nx) := h
  refine wpAny_bind (thn (lc_core (Qf := fun _ s' => SP X pins D .next s') hc hN I hi ok hg ht he hs h fun L C s' m H' I' q hn f => ?_) fun _ s' hq => wpAny_pure (wpAny_pure hq))
  show wpAny _ _ (assign (.Name y py) X.env (.ref L)) _ _ _
  refine wpAny_assign_Name (store_ok2 (v := V.ref L) I' hN hy (.inl hyl) rfl (fun s2 I2 ⟨a, sb, ha⟩ => ?_) (.inr hyl))
  obtain ⟨f0, f1, f2, f3, f4, f5⟩ := f
  have haC : C ≠ a := by
    rcases ha with z | z
    · rw [z]; exact f1
    · exact fun e => f4 y a z e.symm
  refine ⟨m, hn.sameBut sb haC, fun h3 sb3 => ?_⟩
  exact ⟨_, H', I2.turned (t' := s2.toks) (fun b o hb e => (sb3.2 b hb).trans e) f0 f1 f3 f4 f5, q⟩
theorem sw_true {elt : Expr} {gs : List Comprehension} {scope : Scope} {pos py : Pos} {y : Str} {l : Nat} {env : Env} (hk : env.scope.kind = .function) (hy : env.scope.names.lookup y = some .local) (hl : (py.line == pos.line) = true)
    (ha : (scope.names.any fun (n, k) => n == y && (k == .local || k == .cell)) = false) : swapsWith (.ListComp elt gs scope pos) (some (.Name y py)) l env = pure true := by
  have ky : env.kindOf y = some .local := hy
  have hb : env.blockKind = .function := by unfold Env.blockKind; rw [hk]; rfl
  unfold swapsWith
  simp only [hb, ky, ha, Expr.pos, hl]
  rfl
end

/-- over a range: Pv by the turn and the heap (the new list at D within) -/
theorem lc_range {lo : Int} {n : Nat} {g : TG} {tt : TT} {te : TE} {vs : List Nat} {σ : St} {H1 : Hp} {D : Addr} {Qd : Hp → Prop} (Pv : Nat → Hp → Prop) (h0 : Pv 0 (upd H1 D (.lst [])))
    (hs : ∀ i H, i < n → Pv i H → g (.int (lo + i)) (wipe σ vs) H fun σ2 H2 => wipe σ2 vs = wipe σ vs ∧ tt σ2 H2 fun b H3 =>
      if b = true then te σ2 H3 fun y H4 => ∃ acc, H4 D = some (.lst acc) ∧ acc.length < sizeLine ∧ Pv (i + 1) (upd H4 D (.lst (acc ++ [y]))) else Pv (i + 1) H3) (hd : ∀ H, Pv n H → Qd H) :
    ∃ W : Nat → Nat → Hp → Prop, (∃ m, W 0 m (upd H1 D (.lst []))) ∧ ∀ i m H, W i m H →
      ((Itr lo n).stop i H ∧ Qd H) ∨ ((Itr lo n).go i H ∧ ∃ Nx : Hp → Prop, (∀ H', Nx H' → ∃ m', m' < m ∧ W (i + 1) m' H') ∧ ∀ x H', (Itr lo n).yld i H x H' → g x (wipe σ vs) H' fun σ2 H2 => wipe σ2 vs = wipe σ vs ∧ tt σ2 H2 fun b H3 =>
        if b = true then te σ2 H3 fun y H4 => ∃ acc, H4 D = some (.lst acc) ∧ acc.length < sizeLine ∧ Nx (upd H4 D (.lst (acc ++ [y]))) else Nx H3) := by
  refine ⟨fun i m H => m = n - i ∧ i ≤ n ∧ Pv i H, ⟨n, by simp, Nat.zero_le _, h0⟩, ?_⟩
  rintro i m H ⟨rfl, hi, p⟩
  by_cases hlt : i < n
  · refine .inr ⟨hlt, Pv (i + 1), fun H' p' => ⟨n - (i + 1), by omega, rfl, hlt, p'⟩, fun x H' y => ?_⟩
    obtain ⟨e, y⟩ := y
    subst e y
    exact hs i _ hlt p
  · have e : i = n := by omega
    subst e
    exact .inl ⟨Nat.le_refl _, hd H p⟩
/-- over a list that the block leaves as it is -/
theorem lc_list {K : PySem.W.Frag} {a : Addr} {xs : List V} {g : TG} {tt : TT} {te : TE} {vs : List Nat} {σ : St} {H1 : Hp} {D : Addr} {Qd : Hp → Prop} (Pv : Nat → Hp → Prop) (h0 : Pv 0 (upd H1 D (.lst []))) (hl : ∀ i H, i ≤ xs.length → Pv i H → SqL K H a xs)
    (hs : ∀ i x H, xs[i]? = some x → Pv i H → g x (wipe σ vs) H fun σ2 H2 => wipe σ2 vs = wipe σ vs ∧ tt σ2 H2 fun b H3 =>
      if b = true then te σ2 H3 fun y H4 => ∃ acc, H4 D = some (.lst acc) ∧ acc.length < sizeLine ∧ Pv (i + 1) (upd H4 D (.lst (acc ++ [y]))) else Pv (i + 1) H3) (hd : ∀ H, Pv xs.length H → Qd H) :
    ∃ W : Nat → Nat → Hp → Prop, (∃ m, W 0 m (upd H1 D (.lst []))) ∧ ∀ i m H, W i m H →
      ((Itl K a).stop i H ∧ Qd H) ∨ ((Itl K a).go i H ∧ ∃ Nx : Hp → Prop, (∀ H', Nx H' → ∃ m', m' < m ∧ W (i + 1) m' H') ∧ ∀ x H', (Itl K a).yld i H x H' → g x (wipe σ vs) H' fun σ2 H2 => wipe σ2 vs = wipe σ vs ∧ tt σ2 H2 fun b H3 =>
        if b = true then te σ2 H3 fun y H4 => ∃ acc, H4 D = some (.lst acc) ∧ acc.length < sizeLine ∧ Nx (upd H4 D (.lst (acc ++ [y]))) else Nx H3) := by
  refine ⟨fun i m H => m = xs.length - i ∧ i ≤ xs.length ∧ Pv i H, ⟨xs.length, by simp, Nat.zero_le _, h0⟩, ?_⟩
  rintro i m H ⟨rfl, hi, p⟩
  have q := hl i H hi p
  by_cases hlt : i < xs.length
  · refine .inr ⟨⟨xs, xs[i], q, by simp [hlt]⟩, Pv (i + 1), fun H' p' => ⟨xs.length - (i + 1), by omega, rfl, hlt, p'⟩, fun x H' y => ?_⟩
    obtain ⟨e, y⟩ := y
    subst e
    exact hs i x _ (y xs q) p
  · have e : i = xs.length := by omega
    subst e
    exact .inl ⟨⟨xs, q, Nat.le_refl _⟩, hd H p⟩
/-- over a tuple -/
theorem lc_tup {K : PySem.W.Frag} {a : Addr} {xs : List V} {g : TG} {tt : TT} {te : TE} {vs : List Nat} {σ : St} {H1 : Hp} {D : Addr} {Qd : Hp → Prop} (Pv : Nat → Hp → Prop) (h0 : Pv 0 (upd H1 D (.lst []))) (hl : ∀ i H, i ≤ xs.length → Pv i H → SqT K H a xs)
    (hs : ∀ i x H, xs[i]? = some x → Pv i H → g x (wipe σ vs) H fun σ2 H2 => wipe σ2 vs = wipe σ vs ∧ tt σ2 H2 fun b H3 =>
      if b = true then te σ2 H3 fun y H4 => ∃ acc, H4 D = some (.lst acc) ∧ acc.length < sizeLine ∧ Pv (i + 1) (upd H4 D (.lst (acc ++ [y]))) else Pv (i + 1) H3) (hd : ∀ H, Pv xs.length H → Qd H) :
    ∃ W : Nat → Nat → Hp → Prop, (∃ m, W 0 m (upd H1 D (.lst []))) ∧ ∀ i m H, W i m H →
      ((Itt K a).stop i H ∧ Qd H) ∨ ((Itt K a).go i H ∧ ∃ Nx : Hp → Prop, (∀ H', Nx H' → ∃ m', m' < m ∧ W (i + 1) m' H') ∧ ∀ x H', (Itt K a).yld i H x H' → g x (wipe σ vs) H' fun σ2 H2 => wipe σ2 vs = wipe σ vs ∧ tt σ2 H2 fun b H3 =>
        if b = true then te σ2 H3 fun y H4 => ∃ acc, H4 D = some (.lst acc) ∧ acc.length < sizeLine ∧ Nx (upd H4 D (.lst (acc ++ [y]))) else Nx H3) := by
  refine ⟨fun i m H => m = xs.length - i ∧ i ≤ xs.length ∧ Pv i H, ⟨xs.length, by simp, Nat.zero_le _, h0⟩, ?_⟩
  rintro i m H ⟨rfl, hi, p⟩
  have q := hl i H hi p
  by_cases hlt : i < xs.length
  · refine .inr ⟨⟨xs, xs[i], q, by simp [hlt]⟩, Pv (i + 1), fun H' p' => ⟨xs.length - (i + 1), by omega, rfl, hlt, p'⟩, fun x H' y => ?_⟩
    obtain ⟨e, y⟩ := y
    subst e
    exact hs i x _ (y xs q) p
  · have e : i = xs.length := by omega
    subst e
    exact .inl ⟨⟨xs, q, Nat.le_refl _⟩, hd H p⟩
def blkC (N : List Str) (sc scope : Scope) (own : List (Str × Nat)) : Bool :=
  (match scope.kind with | .function => true | _ => false) && (scope.names.all fun y => decide (scope.names.lookup y.1 = some y.2)) && (own.all fun p => decide (N[p.2]? = some p.1)) &&
    (scope.names.all fun y => match y.2 with
      | .free => (match sc.names.lookup y.1 with | some .cell => true | some .free => true | _ => false)
      | .local => decide (y.1 ∈ own.map (·.1)) || decide (y.1 ∉ N)
      | .cell => decide (y.1 ∈ own.map (·.1)) || decide (y.1 ∉ N)
      | _ => true)
theorem blkOk_by {N : List Str} {sc scope : Scope} {own : List (Str × Nat)} (h : blkC N sc scope own = true) : BlkOk N sc scope own := by
  unfold blkC at h
  simp only [Bool.and_eq_true, List.all_eq_true, decide_eq_true_eq] at h
  obtain ⟨⟨⟨h1, h2⟩, h3⟩, h4⟩ := h
  refine ⟨?_, h2, h3, fun y hy e => ?_, fun y hy e => ?_⟩
  · split at h1
    · assumption
    · cases h1
  · have q := h4 y hy
    simp only [e] at q
    split at q <;> first | exact .inl (by assumption) | exact .inr (by assumption) | cases q
  · have q := h4 y hy
    rcases e with e | e <;> (simp only [e, Bool.or_eq_true, decide_eq_true_eq] at q; exact q)
end L2

namespace L2
open PySem PySem.Spec PyProof.Rows

section
variable {prog : Program} {w : World} {A : Around} {R : Result → Shared → Prop} {s : Shared} {elt t0 i0 t1 i1 : Expr} {ifs0 ifs1 : List Expr} {scope : Scope} {pos : Pos} {it acc : Value} {env : Env}
end

section
variable {X : Cx}
end
end L2

namespace L2
open PySem PySem.Spec PyProof.Rows

section
variable {κ : Type} [DecidableEq κ]
end


section
variable {P : Program} {w : World} {H : Hp} {h : Heap} {a : Addr}
end

section
variable {X : Cx} {pins : List (Addr × Obj)} {σ : St} {H : Hp} {s : Shared} {a : Addr} {y v : V} {u r : Value} {o : Option V} {A : Around} {E : Value → Shared → Prop}

end

section
variable {X : Cx} {pins : List (Addr × Obj)} {σ : St} {H : Hp} {s : Shared} {a : Addr} {kvs : List (Key × V)} {k : Key} {u : Value} {A : Around} {E : Value → Shared → Prop}
end


section
variable {X : Cx} {o i e value : Expr} {pos pos' tpos : Pos} {td ty tv : TE}
end


section
variable {X : Cx} {pos : Pos}
end

section
variable {X : Cx} {pins : List (Addr × Obj)} {σ : St} {H : Hp} {s : Shared} {a : Addr} {y d : V} {u r : Value} {o : Option V} {A : Around} {E : Value → Shared → Prop}
end

section
variable {X : Cx} {o e f : Expr} {apos cpos : Pos} {td ty tx : TE}
end

section
variable {X : Cx} {pins : List (Addr × Obj)} {σ : St} {H : Hp} {s : Shared} {a : Addr} {kvs : List (Key × V)} {A : Around} {E : Value → Shared → Prop}
end


section
variable {X : Cx} {pins : List (Addr × Obj)} {σ : St} {H : Hp} {s : Shared} {a : Addr} {y : V} {u : Value} {A : Around} {E : Value → Shared → Prop}
end
end L2

namespace L2
open PySem PySem.Spec PyProof.Rows

section
variable {prog : Program} {w : World} {A : Around} {E : Value → Shared → Prop}
end

section
variable {X : Cx}
end
end L2

namespace L2
open PySem PySem.Spec PyProof.Rows

section
variable {X : Cx} {pins : List (Addr × Obj)} {σ : St} {H : Hp} {s : Shared} {h' : Heap}
/-- several records of ours have turned -/
theorem Inv.turnedL {t' : Nat} {ch : List Addr} (I : Inv X pins σ H s) (k : ∀ b o, b ∉ ch → s.heap.get? b = some o → h'.get? b = some o) (hf : ∀ b ∈ ch, FpOk X pins H b) : Inv X pins σ H { s with heap := h', toks := t' } := by
  have nit : ∀ b u, H b = some u → b ∉ ch := fun b u e z => by
    have q := (hf b z).1
    rw [q] at e; cases e
  refine I.step (g' := s.gens) (d' := s.drawn) (ch := ch) (fun b hb => ⟨(hf b hb).2.2.2.1, (hf b hb).2.1, (hf b hb).2.2.2.2.1, (hf b hb).2.2.2.2.2⟩) (fun b o _ _ hc e _ => k b o hc e) (fun b o _ _ hc e _ => ⟨o.slots, k b o hc e⟩)
    (fun _ _ _ _ n => n) (fun b o hc e => ⟨o, k b o hc e⟩) (fun _ _ e => e) (fun _ _ _ e => e) (fun b ps e => ⟨#[], by rw [e]; simp⟩) (fun m hm => ?_) (fun b u e => ?_) I.bare
  · obtain ⟨o, es, ep, ho, r⟩ := hm
    exact ⟨o, es, ep, k _ o (fun z => (hf _ z).2.1 rfl) ho, r⟩
  · refine (I.hok b u e).stay (fun c v hc q => k c v ?_ q) (fun _ q => q) fun _ _ q => q
    rcases hc with z | z
    · rw [z]; exact nit b u e
    · exact nit c _ z
/-- .. and one new object is laid -/
theorem Inv.turnedNew {t' : Nat} {ch : List Addr} {T : Addr} {ob : HO} (I : Inv X pins σ H s) (k : ∀ b o, b ∉ ch → s.heap.get? b = some o → h'.get? b = some o) (hf : ∀ b ∈ ch, FpOk X pins H b) (hT : s.heap.objs.size ≤ T)
    (new : ObjOk X.prog X.w (upd H T ob) h' T ob) : Inv X pins σ (upd H T ob) { s with heap := h', toks := t' } := by
  have hn : H T = none := I.hok.fresh hT
  have nit : ∀ b u, H b = some u → b ∉ ch := fun b u e z => by
    have q := (hf b z).1
    rw [q] at e; cases e
  refine I.step (g' := s.gens) (d' := s.drawn) (ch := ch) (fun b hb => ⟨(hf b hb).2.2.2.1, (hf b hb).2.1, (hf b hb).2.2.2.2.1, (hf b hb).2.2.2.2.2⟩) (fun b o _ _ hc e _ => k b o hc e) (fun b o _ _ hc e _ => ⟨o.slots, k b o hc e⟩)
    (fun b o _ e n => ?_) (fun b o hc e => ⟨o, k b o hc e⟩) (fun b xs e => ?_) (fun b o u e => ?_) (fun b ps e => ⟨#[], ?_⟩) (fun m hm => ?_) (fun b u e => ?_) I.bare
  · rw [upd_ne (Nat.ne_of_lt (Nat.lt_of_lt_of_le (Heap.lt_size e) hT))]; exact n
  · rw [upd_ne (ne_of_none e hn)]; exact e
  · rw [upd_ne (ne_of_none e hn)]; exact e
  · rw [upd_ne (ne_of_none e hn), e]; simp
  · obtain ⟨o, es, ep, ho, r⟩ := hm
    exact ⟨o, es, ep, k _ o (fun z => (hf _ z).2.1 rfl) ho, r⟩
  · by_cases hb : b = T
    · subst hb
      rw [upd_same] at e
      cases e
      exact new
    · rw [upd_ne hb] at e
      refine (I.hok b u e).stay (fun c v hc q => k c v ?_ q) (fun c q => by rw [upd_ne (ne_of_none q hn)]; exact q) fun c xs q => by rw [upd_ne (ne_of_none q hn)]; exact q
      rcases hc with z | z
      · rw [z]; exact nit b u e
      · exact nit c _ z

end
section
variable {X : Cx}
theorem pi_one {tg : Expr} {pins : List (Addr × Obj)} {σ : St} {H : Hp} {s : Shared} {R : It → Hp → Prop} {J : It} {tn : Nat → Heap → Prop} {tk : Nat} (I : Inv X pins σ H s) (o : Obj)
    (T : Turn X.prog X.w X.K tg J [s.heap.objs.size] s.heap.objs.size tn) (st : tn 0 (s.heap.push o)) (q : R J H) : PIE X pins σ tg R (.ref s.heap.objs.size) { s with heap := s.heap.push o, toks := tk } := by
  refine ⟨s.heap.objs.size, [s.heap.objs.size], tn, J, H, rfl, I.kept fun b ob e => Heap.get?_push_of_some _ e, T, st, fun b hb => ?_, q⟩
  have e : b = s.heap.objs.size := by simpa using hb
  subst e
  exact I.fpOk (Nat.le_refl _) (I.hok.fresh (Nat.le_refl _))
end

section
variable {X : Cx} {tg : Expr}
end
section
variable {X : Cx} {tg : Expr}
end

def Its (x : Str) : It := ⟨fun i _ => i < x.cps.size, fun i H v H' => H' = H ∧ ∃ c, x.cps[i]? = some c ∧ v = .str ⟨#[c]⟩, fun i _ => x.cps.size ≤ i⟩
theorem turn_str {P : Program} {w : World} {K : PySem.W.Frag} {tg : Expr} (it : Addr) (x : Str) (t : Tok) (ty : String) (hty : ty = "str_ascii_iterator" ∨ ty = "str_iterator") :
    Turn P w K tg (Its x) [it] it (fun i h => h.IsStrIter it ty x t i) where
  mem := by simp
  obj := fun i h st b hb => by
    have e : b = it := by simpa using hb
    subst e
    obtain ⟨o, e, c, d⟩ := st
    exact ⟨o, e, fun v z => by rw [d] at z; cases z⟩
  keep := fun i h h' st k => let ⟨o, ho, r⟩ := st; ⟨o, k it (by simp) o ho, r⟩
  item := by
    intro X hP hw hK hc i pins s σ H E I hf st hg
    subst hP hw hK
    obtain ⟨f0, f1, f2, f3, f4, f5⟩ := hf it (by simp)
    have W : Walks X.prog X.w X.A it [it] [it] x.cps.size (SignAt x) (fun i h => h.IsStrIter it ty x t i) := by
      rcases hty with e | e
      · rw [e]; exact Walks.strAscii (I.ok.hd hc) it x t
      · rw [e]; exact Walks.strWide (I.ok.hd hc) it x t
    have hno : ["enumerate", "zip", "dict_itemiterator", "dict_reverseitemiterator", "odict_iterator", "itertools.zip_longest", "itertools.pairwise"].contains ty = false := by
      rcases hty with e | e
      · rw [e]; decide
      · rw [e]; decide
    refine W.item i s _ _ hg st fun v h' tk hv st' kk => ?_
    obtain ⟨c, u, hcx, rfl⟩ := hv
    have I1 : Inv X pins σ H { s with heap := h', toks := tk } := I.turned (fun b o hb e => kk b o (by simpa using hb) e) f0 f1 f3 f4 f5
    obtain ⟨oi, e, cc, dd⟩ := id st'
    exact ⟨_, rfl, go_of (s := { s with heap := h', toks := tk }) e cc dd hno ⟨.str ⟨#[c]⟩, H, I1, ⟨u, rfl⟩, ⟨rfl, c, hcx, rfl⟩, st', fun b hb => (hf b hb).1⟩⟩
  done := by
    intro X hP hw hK hc i pins s σ H E I hf st hg
    subst hP hw hK
    obtain ⟨f0, f1, f2, f3, f4, f5⟩ := hf it (by simp)
    have hx : x.cps[i]? = none := Array.getElem?_eq_none hg
    rcases hty with e | e
    · rw [e] at st
      exact wpAny_pyNext_ascii_end (I.ok.hd hc) st hx fun h' eb => ⟨rfl, I.turned (t' := s.toks) (fun b o hb e => eb b o hb e) f0 f1 f3 f4 f5⟩
    · rw [e] at st
      exact wpAny_pyNext_wide_end (I.ok.hd hc) st hx fun h' eb => ⟨rfl, I.turned (t' := s.toks) (fun b o hb e => eb b o hb e) f0 f1 f3 f4 f5⟩
  self := fun A i s Q E st h => by
    rcases hty with e | e
    · rw [e] at st; exact wpAny_pyIter_striter_ascii st h
    · rw [e] at st; exact wpAny_pyIter_striter_wide st h
def iStr (te : TE) : TI := fun σ H R => te σ H fun v H1 => ∃ x, v = .str x ∧ R (Its x) H1
theorem pi_str {X : Cx} {tg e : Expr} {te : TE} (he : PE X e te) : PI X tg e (iStr te) := by
  intro pins s σ H R I h
  refine thn (he pins s σ H _ I h) fun v s1 ⟨y, H1, I1, r1, x, ex, q⟩ => ?_
  subst ex
  obtain ⟨t, rfl⟩ := r1
  cases ha : x.cps.all (· < 128)
  · exact wpAny_pyIter_wide ha (pi_one (tk := s1.toks) I1 _ (turn_str _ x t "str_iterator" (.inr rfl)) ⟨_, Heap.get?_push_size _ rfl, rfl, rfl⟩ q)
  · exact wpAny_pyIter_ascii ha (pi_one (tk := s1.toks) I1 _ (turn_str _ x t "str_ascii_iterator" (.inl rfl)) ⟨_, Heap.get?_push_size _ rfl, rfl, rfl⟩ q)

section
variable {prog : Program} {w : World} {A : Around} {E : Value → Shared → Prop} {s : Shared}
end

section
variable {X : Cx} {pins : List (Addr × Obj)} {σ : St} {H : Hp} {s : Shared} {d : Addr} {o : Obj}
end

section
variable {P : Program} {w : World} {K : PySem.W.Frag} {tg : Expr} {d : Addr} {o : Obj} {es : Array DictEntry} {ep : Nat}
end

section
variable {X : Cx} {tg e : Expr} {td : TE} {apos cpos : Pos}
end

/-- the list at a as it stands at each turn, each item in a new pair -/
def Ite (K : PySem.W.Frag) (a : Addr) : It :=
  ⟨fun i H => ∃ (xs : List V) (x : V), SqL K H a xs ∧ xs[i]? = some x, fun i H v H' => ∃ T x, v = .ref T ∧ H T = none ∧ H' = upd H T (.tup [.int (i : Nat), x]) ∧ ∀ xs, SqL K H a xs → xs[i]? = some x, fun i H => ∃ xs : List V, SqL K H a xs ∧ xs.length ≤ i⟩
theorem turn_enum {P : Program} {w : World} {K : PySem.W.Frag} {elts : List Expr} {kk : Nat} {tpos : Pos} (a e it : Addr) :
    Turn P w K (.Tuple elts kk tpos) (Ite K a) [e, it] e (fun i h => (∃ old, IsEnum h e it ((i : Nat) : Int) old) ∧ h.IsListIter it a i ∧ e ≠ it) where
  mem := by simp
  obj := fun i h st b hb => by
    obtain ⟨⟨old, he⟩, ⟨o, ho, hc, hd⟩, _⟩ := st
    have e' : b = e ∨ b = it := by simpa using hb
    rcases e' with z | z
    · rw [z]; exact ⟨_, he, fun v q => nomatch q⟩
    · rw [z]; exact ⟨o, ho, fun v q => by rw [hd] at q; cases q⟩
  keep := fun i h h' st k => let ⟨⟨old, he⟩, hi, hne⟩ := st; ⟨⟨old, k e (by simp) _ he⟩, hi.at fun o q => k it (by simp) o q, hne⟩
  item := by
    intro X hP hw hK hc i pins s σ H E I hf st hg
    subst hP hw hK
    obtain ⟨⟨old, he⟩, hit, hne⟩ := st
    obtain ⟨xs, x, hq, hx⟩ := hg
    obtain ⟨its, rv, p, hz⟩ := I.list hq
    obtain ⟨u, hu, ru⟩ := rv.get hx
    have hel : e < s.heap.objs.size := Heap.lt_size he
    have hil : it < s.heap.objs.size := by obtain ⟨_, q, _⟩ := hit; exact Heap.lt_size q
    refine wpAny_pyNext_enum_item he hit p.isList (x := u) (by simpa using hu) hne fun h' ho hit' hT hsz hk => ?_
    refine ⟨_, rfl, wpAny_letOwnedTupleGo_enum (s := { s with heap := h', toks := s.toks + 1 }) ho fun h'' he' sb => ?_⟩
    have hT2 : h''.get? s.heap.objs.size = some { cls := .type "tuple", data := .seq #[.int i s.toks, u] } := (sb.2 _ (Nat.ne_of_gt hel)).trans hT
    have new : ObjOk X.prog X.w (upd H s.heap.objs.size (.tup [.int (i : Nat), x])) h'' s.heap.objs.size (.tup [.int (i : Nat), x]) :=
      ⟨by show 2 ≤ sizeLine; decide, [.int i s.toks, u], .cons ⟨_, rfl⟩ (.cons ru .nil), ⟨_, hT2, rfl, _, rfl⟩⟩
    have I1 : Inv X pins σ (upd H s.heap.objs.size (.tup [.int (i : Nat), x])) { s with heap := h'', toks := s.toks + 1 } :=
      I.turnedNew (ch := [e, it]) (fun b ob hb q => (sb.2 b (fun z => hb (by simp [z]))).trans (hk b ob (fun z => hb (by simp [z])) (fun z => hb (by simp [z])) q)) hf (Nat.le_refl _) new
    refine ⟨.ref s.heap.objs.size, _, I1, rfl, ⟨_, x, rfl, I.hok.fresh (Nat.le_refl _), rfl, fun ys hy => by rw [I.list_inj hy hq]; exact hx⟩, ⟨⟨u, ?_⟩, hit'.at fun o q => (sb.2 it (Ne.symm hne)).trans q, hne⟩, fun b hb => ?_⟩
    · have e1 : ((i + 1 : Nat) : Int) = (i : Int) + 1 := by omega
      rw [e1]; exact he'
    · have hb' : b < s.heap.objs.size := by
        have e' : b = e ∨ b = it := by simpa using hb
        rcases e' with z | z
        · rw [z]; exact hel
        · rw [z]; exact hil
      rw [upd_ne (Nat.ne_of_lt hb')]
      exact (hf b hb).1
  done := by
    intro X hP hw hK hc i pins s σ H E I hf st hg
    subst hP hw hK
    obtain ⟨⟨old, he⟩, hit, hne⟩ := st
    obtain ⟨xs, hq, hx⟩ := hg
    obtain ⟨its, rv, p, hz⟩ := I.list hq
    obtain ⟨f0, f1, f2, f3, f4, f5⟩ := hf it (by simp)
    have hl := rv.length
    exact wpAny_pyNext_enum_end (I.ok.hd hc) he hit p.isList (by simp; omega) fun h' eb => ⟨rfl, I.turned (t' := s.toks) (fun b o hb q => eb b o hb q) f0 f1 f3 f4 f5⟩
  self := fun A i s Q E st h => let ⟨⟨_, he⟩, _⟩ := st; wpAny_pyIter_enum he h
def iEnum (K : PySem.W.Frag) (ta : TA) : TI := fun σ H R => ta σ H fun vs H1 => ∃ a xs, vs = [.ref a] ∧ SqL K H1 a xs ∧ R (Ite K a) H1
theorem pi_enum {X : Cx} {e : Expr} {ta : TA} {p pos tpos : Pos} {elts : List Expr} {kk : Nat} (hg : Gl X "enumerate") (hm : X.mg "enumerate" = none) (ha : PA X [e] ta) (hs : starEach [e] X.env = [(false, eval e X.env)] := by rfl) :
    PI X (.Tuple elts kk tpos) (.Call (.Name "enumerate" p) [e] [] pos) (iEnum X.K ta) := by
  intro pins s σ H R I h
  refine Call_ (ld_blt I hg hm boot_enumerate (PyProof.Rows.callWith_type1 (thn (ha pos pins s σ H _ I h) fun us s1 ⟨vs, H1, I1, r1, q1⟩ => ?_) hs rfl))
  obtain ⟨a, xs, ex, hq, q⟩ := q1
  subst ex
  cases r1 with
  | cons r rr =>
    cases rr
    cases r
    obtain ⟨its, rv, p', hz⟩ := I1.list hq
    refine call_enumerate_list p'.isList fun h' he hit hsz hk => wpAny_pyIter_enum he ?_
    have I2 : Inv X pins σ H1 { s1 with heap := h' } := I1.kept (t' := s1.toks) hk
    refine ⟨s1.heap.objs.size + 1, [s1.heap.objs.size + 1, s1.heap.objs.size], _, _, H1, rfl, I2, turn_enum a (s1.heap.objs.size + 1) s1.heap.objs.size, ⟨⟨.none, he⟩, hit, Nat.succ_ne_self _⟩, fun b hb => ?_, q⟩
    have e' : b = s1.heap.objs.size + 1 ∨ b = s1.heap.objs.size := by simpa using hb
    have hle : s1.heap.objs.size ≤ b := by
      rcases e' with z | z
      · rw [z]; exact Nat.le_add_right _ _
      · rw [z]; exact Nat.le_refl _
    exact I1.fpOk hle (I1.hok.fresh hle)
theorem boot_zip5 : bootBuiltins "zip" = some (.type "zip") := by decide +kernel
end L2

section 
namespace Bits
open PySem PyProof.Rows

end Bits
end 

section 
namespace TL
open PySem PySem.Builtin PySem.Builtin.Str PySem.StrLaws

end TL
end 

namespace L2
open PySem PySem.Spec PyProof.Rows

section
variable {X : Cx} {pins : List (Addr × Obj)} {σ : St} {H : Hp} {s : Shared} {Q : VK}
end

section
variable {X : Cx}

end

section
variable {X : Cx} {o e : Expr} {to te : TE}
end
end L2

namespace L2
open PySem PySem.Spec PyProof.Rows

section
variable {X : Cx}
end

end L2

namespace Att
open PySem PySem.W PySem.Calls PyProof.Rows

section
variable {prog : Program} {w : World} {A : Around} {E : Value → Shared → Prop} {s : Shared} {K : Frag}

end
end Att

namespace L2
open PySem PySem.Spec PyProof.Rows

end L2

namespace L2
open PySem PySem.Spec PyProof.Rows

end L2

/- THE LAST THEOREM (shape; LID, My.* are yours):
   My.Adr: a structure of the addresses that your layer names (classes, functions); My.Txt K t: a structure (Prop) of the equations over K;
   My.txt_mk : {K} {implicit addresses ..} (e1 : nsIn K mainGlobals "law" = some (some (.ref f))) (e2 : K.lookup f = some ⟨oc, od, .func (fnOf "law" "law" params body scope dV kV doc pm an cdv ct), sl⟩) (e3 : codeIn K cdv "law" = true) .. : ∃ t, My.Txt K t

set_option maxRecDepth 100000 in
set_option maxHeartbeats 0 in
theorem PySem.Challenge.cw_LID_holds : PySem.Challenge.rw_LID.Holds := by
  w_on; o_law; k_head; (case hw => w_witness2)
  k_fill
  refine L2.walk_of (l := PySem.Challenge.rw_LID) (n := 63) (k := 40) (x := "script") (CX := fun w => ..) (sp := fun _ => My.sp_law) rfl (by decide) rfl ⟨rfl, by decide, by decide⟩ (fun w h Y => PySem.W.kIn_of Y) ?F ?S ?C
  case F =>
    intro w mg fa h KX G hmg
    have T : ∃ t, My.Txt (L2.KOf KX) t := by
      dsimp only [L2.KOf]                          -- K must stand as «<heap const> w.params» for k_is
      refine' My.txt_mk ?e1 ?e2 ?e3 ..
      (case e1 => PySem.W.k_is)                    -- in the order: a name -> its address -> its object -> its parts
      (case e2 => PySem.W.k_is)
      ..
    obtain ⟨t, T⟩ := T
    have e0 := hmg.symm.trans (PySem.W.mg_of KX G T.law)
    cases e0                                       -- fa is the law's own address
    exact ⟨_, fun s u => .of_eq rfl, fun base kb nb => My.law_fn T kb nb⟩     -- if «.of_eq rfl» comes too early: refine' ⟨_, ?b, fun base kb nb => My.law_fn T kb nb⟩; exact fun s u => .of_eq rfl
  case S => exact fun w H a ns hl hO hS => ..
  case C => exact ..
(the tactic k_is has no namespace: write k_is) -/

namespace L2
open PySem PySem.Spec PyProof.Rows

/-- the j-th statement of a class's body -/
def inClass (s : Stmt) (j : Nat) : Stmt := match s with
  | .ClassDef _ _ _ body _ _ _ _ _ _ _ => body.getD j (.Pass ⟨0, 0, 0, 0⟩)
  | _ => .Pass ⟨0, 0, 0, 0⟩
def defArgs (s : Stmt) : Arguments := match s with
  | .FunctionDef _ a _ _ _ _ _ _ _ _ => a
  | _ => { posonlyargs := [], args := [], vararg := none, kwonlyargs := [], kw_defaults := [], kwarg := none, defaults := [] }
def defBody (s : Stmt) : List Stmt := match s with
  | .FunctionDef _ _ b _ _ _ _ _ _ _ => b
  | _ => []
def defScope (s : Stmt) : Scope := match s with
  | .FunctionDef _ _ _ _ _ _ sc _ _ _ => sc
  | _ => { kind := .function, names := [], isGenerator := false, isCoroutine := false }

abbrev CX0 : CXT := fun _ _ _ _ _ _ => False
abbrev E0 : XK := fun _ _ _ => False
theorem pass0 {X : Cx} : Passes CX0 X E0 := fun _ _ _ _ _ _ _ h => h.elim

structure Fun (K : PySem.W.Frag) (x qual : Str) (st : Stmt) (f : Addr) (fd : FuncData) : Prop where
  ex : ∃ (oc : Value) (od : Option Addr) (kV doc pm : Value) (an : Option Addr) (cdv ct : Value) (osl : Array (Option Value)),
    fd = PySem.W.fnOf x qual (defArgs st) (defBody st) (defScope st) .none kV doc pm an cdv ct ∧ K.lookup f = some ⟨oc, od, .func fd, osl⟩ ∧ PySem.W.codeIn K cdv qual = true
  kp : PySem.W.keepIn K (.ref f) = true
section
variable {P : Program} {w : World} {K : PySem.W.Frag} {mg : Str → Option Value} {base : Heap}
/-- THE RULE for a def: its body as a term of rules, and the reading of that term -/
theorem Fun.ok {x qual : Str} {st : Stmt} {f : Addr} {fd : FuncData} {N ps : List Str} {k : Nat} {sp : Sp} (F : Fun K x qual st f fd) (S : FnScope N ps (defScope st)) (len : ∀ vs H Q E, sp vs H Q E → vs.length = ps.length)
    (hbody : ∀ (cdv : Value) (A : Around) (outer : List Env) (s : Shared) (H : Hp) (vs : List V) (Q : VK) (E : XK), Room k (A.deeper (envOfC qual (defScope st) s.heap.objs.size f cdv)) → sp vs H Q E →
      ∃ t, PSs (cxOf CX0 P w K mg base N qual (defScope st) f cdv A outer s H E).nox (defBody st) t ∧ t { nx := fun _ H' => Q .non H', rt := Q } (start N vs) H) : FnOk P w K mg base CX0 (k + 1) f fd ps sp := by
  obtain ⟨oc, od, kV, doc, pm, an, cdv, ct, osl, rfl, lk, hcd⟩ := F.ex
  refine fn_of lk hcd S len fun A outer s H vs Q E hr hsp => ?_
  obtain ⟨t, h, q⟩ := hbody cdv A outer s H vs Q E hr hsp
  exact ⟨t, h.nox, q⟩
/-- how its arguments bind (no defaults): h is «fun _ _ _ _ _ _ us hl => match us, hl with | [_, _], _ => rfl», one _ a parameter -/
theorem Fun.binds {x qual : Str} {st : Stmt} {f : Addr} {fd : FuncData} {ps : List Str} (F : Fun K x qual st f fd)
    (h : ∀ (kV doc pm : Value) (an : Option Addr) (cdv ct : Value) (us : List Value), us.length = ps.length → bindArgs (PySem.W.fnOf x qual (defArgs st) (defBody st) (defScope st) .none kV doc pm an cdv ct) ⟨us, []⟩ = pure (ps.zip us)) : Binds K fd ps [] := by
  obtain ⟨oc, od, kV, doc, pm, an, cdv, ct, osl, rfl, lk, hcd⟩ := F.ex
  exact .all (h kV doc pm an cdv ct)
theorem fun_mk {x qual : Str} {st : Stmt} {f : Addr} {oc : Value} {od an : Option Addr} {osl : Array (Option Value)} {kV doc pm cdv ct : Value} (l : K.lookup f = some ⟨oc, od, .func (PySem.W.fnOf x qual (defArgs st) (defBody st) (defScope st) .none kV doc pm an cdv ct), osl⟩)
    (c : PySem.W.codeIn K cdv qual = true) (k : PySem.W.keepIn K (.ref f) = true) : Fun K x qual st f (PySem.W.fnOf x qual (defArgs st) (defBody st) (defScope st) .none kV doc pm an cdv ct) := ⟨⟨oc, od, kV, doc, pm, an, cdv, ct, osl, rfl, l, c⟩, k⟩
end
section
variable {X : Cx}
theorem pv (i : Nat) {x : Str} {pos : Pos} (hN : X.N[i]? = some x := by rfl) (hv : Vis X.env.scope x := by first | exact Or.inl rfl | exact Or.inr (Or.inl rfl) | exact Or.inr (Or.inr rfl)) (hd : (x == ("__debug__" : Str)) = false := by decide)
    (hcd : (x == ("__classdict__" : Str)) = false := by decide) : PE X (.Name x pos) (tVar i) := pe_var hN hv hd hcd
end

theorem iteF {A B : Prop} (h : B) : if false = true then A else B := by
  rw [if_neg Bool.false_ne_true]
  exact h
theorem iteT {A B : Prop} (h : A) : if true = true then A else B := by
  rw [if_pos rfl]
  exact h
/-- all that was tracked is as it was -/
def Same (H H' : Hp) : Prop := ∀ b o, H b = some o → H' b = some o
theorem Same.refl (H : Hp) : Same H H := fun _ _ h => h
theorem Same.trans {H H1 H2 : Hp} (a : Same H H1) (b : Same H1 H2) : Same H H2 := fun c o h => b c o (a c o h)
theorem Same.free {H H' : Hp} (e : Same H H') {l : Addr} (h : H' l = Option.none) : H l = Option.none := by
  cases q : H l with
  | none => rfl
  | some o =>
    rw [e l o q] at h
    cases h
theorem Same.seq {K : PySem.W.Frag} {H H' : Hp} {a : Addr} {xs : List V} (e : Same H H') (h : SqL K H a xs) : SqL K H' a xs := by
  rcases h with (h | ⟨o, h⟩) | h
  · exact .inl (.inl (e _ _ h))
  · exact .inl (.inr ⟨o, e _ _ h⟩)
  · exact .inr h

section
variable {κ : Type} [DecidableEq κ]
end
/-- a new instance and its __init__ leave all that was tracked as it was -/
theorem Same.made {H H1 : Hp} {x dx C : Addr} (nx : H x = Option.none) (nd : H dx = Option.none) (k : ∀ b o, (upd (upd H dx (.own x)) x (.ins C dx [])) b = some o → b ≠ x → H1 b = some o) : Same H H1 := fun b o e =>
  k b o (by rw [upd_ne (ne_of_none e nx), upd_ne (ne_of_none e nd)]; exact e) (ne_of_none e nx)
end L2

section
set_option Elab.async false
set_option linter.all false
set_option maxRecDepth 100000
set_option maxHeartbeats 2000000
namespace L2
open PySem PySem.Spec PyProof.Rows
open PySem.W (WData Codec OpenSpec Well WellAll ReadsW ReadsAllW)
mutual
/-- x stands for the datum d, lists and tuples all the way -/
inductive Dw (K : PySem.W.Frag) (H : Hp) : V → WData → Prop
  | non : Dw K H .non .none
  | bl (b : Bool) : Dw K H (.bl b) (.bool b)
  | int (i : Int) : Dw K H (.int i) (.int i)
  | str (x : Str) : Dw K H (.str x) (.str x)
  | byt (b : Array UInt8) : Dw K H (.byt b) (.bytes b.toList)
  | lst {a : Addr} {xs : List V} {ds : List WData} : SqL K H a xs → DwAll K H xs ds → Dw K H (.ref a) (.list ds)
  | tup {a : Addr} {xs : List V} {ds : List WData} : SqT K H a xs → DwAll K H xs ds → Dw K H (.ref a) (.tuple ds)
inductive DwAll (K : PySem.W.Frag) (H : Hp) : List V → List WData → Prop
  | nil : DwAll K H [] []
  | cons {v : V} {vs : List V} {d : WData} {ds : List WData} : Dw K H v d → DwAll K H vs ds → DwAll K H (v :: vs) (d :: ds)
end
theorem dw_ints {K : PySem.W.Frag} {H : Hp} : ∀ ns : List Int, DwAll K H (ns.map V.int) (ns.map WData.int)
  | [] => .nil
  | n :: r => .cons (.int n) (dw_ints r)
theorem ints_dw {K : PySem.W.Frag} {H : Hp} : ∀ (ns : List Int) (xs : List V), DwAll K H xs (ns.map WData.int) → xs = ns.map V.int
  | [], xs, h => by
    cases h
    rfl
  | n :: r, xs, h => by
    cases h with
    | cons h1 h2 =>
      cases h1
      rw [ints_dw r _ h2] <;> rfl
section
variable {P : Program} {w : World} {K : PySem.W.Frag} {H : Hp} {h : Heap} {R : PySem.W.WRecords} {cl : Str → Option Addr}
theorem sqL_at {a : Addr} {xs : List V} (hok : HOk P w H h) (KX : K.In h) (q : SqL K H a xs) : ∃ (its : List Value) (o : Obj) (n : Nat), Vals xs its ∧ h.get? a = some o ∧ o.cls = .type "list" ∧ o.data = .seq its.toArray n := by
  rcases q with q | ⟨o, its, n, e, hc, _, hd, _, hv⟩
  · obtain ⟨_, its, n, hv, e⟩ := (show ObjOk P w H h a (.lst xs) from q.ok hok)
    exact ⟨its, _, n, hv, e, rfl, rfl⟩
  · exact ⟨its.toList, o, n, hv, KX _ _ e, hc, by simp [hd]⟩
theorem sqT_at {a : Addr} {xs : List V} (hok : HOk P w H h) (KX : K.In h) (q : SqT K H a xs) : ∃ (its : List Value) (o : Obj) (n : Nat), Vals xs its ∧ h.get? a = some o ∧ o.cls = .type "tuple" ∧ o.data = .seq its.toArray n := by
  rcases q with q | ⟨o, its, n, e, hc, hd, _, hv⟩
  · obtain ⟨_, its, hv, o, e, hc, n, hd⟩ := (show ObjOk P w H h a (.tup xs) from q.ok hok)
    exact ⟨its, o, n, hv, e, hc, hd⟩
  · exact ⟨its.toList, o, n, hv, KX _ _ e, hc, by simp [hd]⟩
mutual
theorem Dw.reads (hok : HOk P w H h) (KX : K.In h) : ∀ (d : WData) (v : V) (u : Value), Dw K H v d → RelV v u → ∃ as, ReadsW R cl h u d as
  | .none, _, _, x, r => by
    cases x
    cases r
    exact ⟨_, ReadsW.none⟩
  | .bool b, _, _, x, r => by
    cases x
    cases r
    exact ⟨_, ReadsW.bool b⟩
  | .int i, _, _, x, r => by
    cases x
    obtain ⟨t, rfl⟩ := r
    exact ⟨_, ReadsW.int i t⟩
  | .str s, _, _, x, r => by
    cases x
    obtain ⟨t, rfl⟩ := r
    exact ⟨_, ReadsW.str s t⟩
  | .bytes b, _, _, x, r => by
    cases x
    obtain ⟨t, rfl⟩ := r
    exact ⟨_, ReadsW.bytes _ t⟩
  | .list ds, _, _, x, r => by
    cases x with
    | lst hs ha =>
      cases r
      obtain ⟨its, o, n, rv, ho, hc, hd⟩ := sqL_at hok KX hs
      obtain ⟨as, hr⟩ := Dw.readsAll hok KX ds _ its ha rv
      exact ⟨_, ReadsW.list ho hc hd hr⟩
  | .tuple ds, _, _, x, r => by
    cases x with
    | tup hs ha =>
      cases r
      obtain ⟨its, o, n, rv, ho, hc, hd⟩ := sqT_at hok KX hs
      obtain ⟨as, hr⟩ := Dw.readsAll hok KX ds _ its ha rv
      exact ⟨_, ReadsW.tuple ho hc hd hr⟩
  | .float _, _, _, x, _ => by cases x
  | .dict _, _, _, x, _ => by cases x
  | .bytearray _, _, _, x, _ => by cases x
  | .set _, _, _, x, _ => by cases x
  | .frozenset _, _, _, x, _ => by cases x
  | .obj _ _, _, _, x, _ => by cases x
theorem Dw.readsAll (hok : HOk P w H h) (KX : K.In h) : ∀ (ds : List WData) (vs : List V) (us : List Value), DwAll K H vs ds → Vals vs us → ∃ as, ReadsAllW R cl h us ds as
  | [], _, _, x, r => by
    cases x
    cases r
    exact ⟨_, ReadsAllW.nil⟩
  | d :: ds, _, _, x, r => by
    cases x with
    | cons h1 h2 =>
      cases r with
      | cons r1 r2 =>
        obtain ⟨as, q1⟩ := Dw.reads hok KX d _ _ h1 r1
        obtain ⟨bs, q2⟩ := Dw.readsAll hok KX ds _ _ h2 r2
        exact ⟨_, ReadsAllW.cons q1 q2⟩
end
end
mutual
/-- data that a codec tells -/
def plW : WData → Bool
  | .none => true
  | .bool _ => true
  | .int _ => true
  | .str _ => true
  | .bytes _ => true
  | .list xs => plWs xs
  | .tuple xs => plWs xs
  | _ => false
def plWs : List WData → Bool
  | [] => true
  | x :: r => plW x && plWs r
end
theorem plWs_map {α : Type} {f : α → WData} (h : ∀ a, plW (f a) = true) : ∀ l : List α, plWs (l.map f) = true
  | [] => rfl
  | x :: r => by
    show (plW (f x) && plWs (r.map f)) = true
    rw [h x, plWs_map h r] <;> rfl
theorem pl_enc : ∀ (c : Codec) (a : c.denote), plW (c.enc a) = true
  | .unit, _ => rfl
  | .bool, _ => rfl
  | .int _ _, _ => rfl
  | .nat _ _, _ => rfl
  | .u8, _ => rfl
  | .bytes _ _, _ => rfl
  | .text _ _ _ _, _ => rfl
  | .list _ _ c, a => plWs_map (fun x => pl_enc c x) a
  | .pair c d, a => by
    show (plW (c.enc a.1) && (plW (d.enc a.2) && true)) = true
    rw [pl_enc c a.1, pl_enc d a.2] <;> rfl
  | .triple c d e, a => by
    show (plW (c.enc a.1) && (plW (d.enc a.2.1) && (plW (e.enc a.2.2) && true))) = true
    rw [pl_enc c a.1, pl_enc d a.2.1, pl_enc e a.2.2] <;> rfl
  | .option c, none => rfl
  | .option c, some x => pl_enc c x
theorem pl_encAll : ∀ (cs : List Codec) (a : Codec.denoteAll cs), plWs (Codec.encAll cs a) = true
  | [], _ => rfl
  | c :: cs, a => by
    show (plW (c.enc a.1) && plWs (Codec.encAll cs a.2)) = true
    rw [pl_enc c a.1, pl_encAll cs a.2] <;> rfl
theorem weight_mem : ∀ {xs : List WData} {d : WData}, d ∈ xs → d.weight ≤ WData.weightAll xs
  | [], d, h => absurd h (by simp)
  | x :: r, d, h => by
    show d.weight ≤ x.weight + 1 + WData.weightAll r
    rcases List.mem_cons.mp h with e | m
    · rw [e]
      omega
    · have z := weight_mem m
      omega
def toV : Value → V
  | .none => .non
  | .bool b => .bl b
  | .int i _ => .int i
  | .str x _ => .str x
  | .bytes b _ => .byt b
  | .ref a => .ref a
  | _ => .non
/-- a value of the arguments, its objects among A -/
def OkU (A : List Addr) : Value → Prop
  | .none => True
  | .bool _ => True
  | .int _ _ => True
  | .str _ _ => True
  | .bytes _ _ => True
  | .ref a => a ∈ A
  | _ => False
theorem OkU.mono {A B : List Addr} (h : ∀ a ∈ A, a ∈ B) : ∀ {u : Value}, OkU A u → OkU B u := fun {u} x => by
  cases u with
  | ref a => exact h a x
  | none => trivial
  | bool b => trivial
  | int i t => trivial
  | str s t => trivial
  | bytes b t => trivial
  | _ => exact False.elim x
theorem relV_toV {A : List Addr} {u : Value} (x : OkU A u) : RelV (toV u) u := by
  cases u with
  | ref a => rfl
  | none => rfl
  | bool b => rfl
  | int i t => exact ⟨t, rfl⟩
  | str s t => exact ⟨t, rfl⟩
  | bytes b t => exact ⟨t, rfl⟩
  | _ => exact False.elim x
theorem vals_toV {A : List Addr} : ∀ {vs : List Value}, (∀ u ∈ vs, OkU A u) → Vals (vs.map toV) vs
  | [], _ => .nil
  | u :: r, h => .cons (relV_toV (h u (List.mem_cons_self ..))) (vals_toV fun x hx => h x (List.mem_cons_of_mem _ hx))
/-- an object of the arguments -/
def ArgOb (h : Heap) (A : List Addr) (a : Addr) : Prop := ∃ vs : List Value, vs.length ≤ sizeLine ∧ (∀ u ∈ vs, OkU A u) ∧
  (h.get? a = some { cls := .type "list", data := .seq vs.toArray } ∨ h.get? a = some { cls := .type "tuple", data := .seq vs.toArray })
theorem ArgOb.mono {h : Heap} {A B : List Addr} {a : Addr} (k : ∀ a ∈ A, a ∈ B) (x : ArgOb h A a) : ArgOb h B a := by
  obtain ⟨vs, h1, h2, h3⟩ := x
  exact ⟨vs, h1, fun u hu => (h2 u hu).mono k, h3⟩
theorem wellAll_len {P : Params} {h : Heap} : ∀ {vs : List Value} {ds : List WData}, WellAll P h vs ds → vs.length = ds.length
  | _, _, .nil => rfl
  | _, _, .cons _ b => by
    show _ + 1 = _ + 1
    rw [wellAll_len b]
theorem well_list {P : Params} {h : Heap} {v : Value} {ds : List WData} (x : Well P h v (.list ds)) : ∃ (a : Addr) (vs : List Value), v = .ref a ∧ h.get? a = some { cls := .type "list", data := .seq vs.toArray } ∧ WellAll P h vs ds := by
  cases x with
  | list ho hall => exact ⟨_, _, rfl, ho, hall⟩
theorem well_tuple {P : Params} {h : Heap} {v : Value} {ds : List WData} (x : Well P h v (.tuple ds)) : ∃ (a : Addr) (vs : List Value), v = .ref a ∧ h.get? a = some { cls := .type "tuple", data := .seq vs.toArray } ∧ WellAll P h vs ds := by
  cases x with
  | tuple ho hall => exact ⟨_, _, rfl, ho, hall⟩
theorem well_cons {P : Params} {h : Heap} {us : List Value} {d : WData} {ds : List WData} (x : WellAll P h us (d :: ds)) : ∃ (v : Value) (vs : List Value), us = v :: vs ∧ Well P h v d ∧ WellAll P h vs ds := by
  cases x with
  | cons a b => exact ⟨_, _, rfl, a, b⟩
theorem line_of {n : Nat} (h : n ≤ 1048576) : n ≤ sizeLine := Nat.le_trans h (by decide)
section
variable {P : Params} {h : Heap}
mutual
theorem area_one : ∀ (d : WData) (v : Value), Well P h v d → plW d = true → d.weight ≤ 1048576 → ∃ A : List Addr, OkU A v ∧ ∀ a ∈ A, ArgOb h A a
  | .none, _, x, _, _ => by
    cases x
    exact ⟨[], trivial, fun a m => absurd m (by simp)⟩
  | .bool b, _, x, _, _ => by
    cases x
    exact ⟨[], trivial, fun a m => absurd m (by simp)⟩
  | .int i, _, x, _, _ => by
    cases x
    exact ⟨[], trivial, fun a m => absurd m (by simp)⟩
  | .str s, _, x, _, _ => by
    cases x
    exact ⟨[], trivial, fun a m => absurd m (by simp)⟩
  | .bytes b, _, x, _, _ => by
    cases x
    exact ⟨[], trivial, fun a m => absurd m (by simp)⟩
  | .list ds, _, x, p, z => by
    obtain ⟨a, vs, rfl, ho, hall⟩ := well_list x
    have z2 : WData.weightAll ds ≤ 1048576 := z
    obtain ⟨A, h1, h2⟩ := area_all ds _ hall p fun d hd => Nat.le_trans (weight_mem hd) z2
    have k : ∀ b ∈ A, b ∈ a :: A := fun b hb => List.mem_cons_of_mem _ hb
    refine ⟨a :: A, List.mem_cons_self .., fun b hb => ?_⟩
    rcases List.mem_cons.mp hb with e | m
    · rw [e]
      exact ⟨vs, line_of (by rw [wellAll_len hall]; exact Nat.le_trans (PySem.W.length_le_weightAllW ds) z2), fun u hu => (h1 u hu).mono k, .inl ho⟩
    · exact (h2 b m).mono k
  | .tuple ds, _, x, p, z => by
    obtain ⟨a, vs, rfl, ho, hall⟩ := well_tuple x
    have z2 : WData.weightAll ds ≤ 1048576 := z
    obtain ⟨A, h1, h2⟩ := area_all ds _ hall p fun d hd => Nat.le_trans (weight_mem hd) z2
    have k : ∀ b ∈ A, b ∈ a :: A := fun b hb => List.mem_cons_of_mem _ hb
    refine ⟨a :: A, List.mem_cons_self .., fun b hb => ?_⟩
    rcases List.mem_cons.mp hb with e | m
    · rw [e]
      exact ⟨vs, line_of (by rw [wellAll_len hall]; exact Nat.le_trans (PySem.W.length_le_weightAllW ds) z2), fun u hu => (h1 u hu).mono k, .inr ho⟩
    · exact (h2 b m).mono k
  | .float _, _, _, p, _ => Bool.noConfusion (show false = true from p)
  | .dict _, _, _, p, _ => Bool.noConfusion (show false = true from p)
  | .bytearray _, _, _, p, _ => Bool.noConfusion (show false = true from p)
  | .set _, _, _, p, _ => Bool.noConfusion (show false = true from p)
  | .frozenset _, _, _, p, _ => Bool.noConfusion (show false = true from p)
  | .obj _ _, _, _, p, _ => Bool.noConfusion (show false = true from p)
theorem area_all : ∀ (ds : List WData) (vs : List Value), WellAll P h vs ds → plWs ds = true → (∀ d ∈ ds, d.weight ≤ 1048576) → ∃ A : List Addr, (∀ u ∈ vs, OkU A u) ∧ ∀ a ∈ A, ArgOb h A a
  | [], _, x, _, _ => by
    cases x
    exact ⟨[], fun u m => absurd m (by simp), fun a m => absurd m (by simp)⟩
  | d :: ds, _, x, p, z => by
    obtain ⟨v, vs, rfl, x1, x2⟩ := well_cons x
    have q : plW d = true ∧ plWs ds = true := Bool.and_eq_true_iff.mp p
    obtain ⟨A, a1, a2⟩ := area_one d v x1 q.1 (z d (List.mem_cons_self ..))
    obtain ⟨B, b1, b2⟩ := area_all ds vs x2 q.2 fun e he => z e (List.mem_cons_of_mem _ he)
    have kA : ∀ b ∈ A, b ∈ A ++ B := fun b hb => List.mem_append.mpr (.inl hb)
    have kB : ∀ b ∈ B, b ∈ A ++ B := fun b hb => List.mem_append.mpr (.inr hb)
    refine ⟨A ++ B, fun u hu => ?_, fun b hb => ?_⟩
    · rcases List.mem_cons.mp hu with e | m
      · rw [e]
        exact a1.mono kA
      · exact (b1 u m).mono kB
    · rcases List.mem_append.mp hb with m | m
      · exact (a2 b m).mono kA
      · exact (b2 b m).mono kB
end
end
/-- what is tracked of an argument's object -/
def hoOf (o : Obj) : Option HO := match o.data with
  | .seq vs _ => if (o.cls == Value.type "list") = true then some (.frz o (.lst (vs.toList.map toV))) else some (.frz o (.tup (vs.toList.map toV)))
  | _ => none
def argH (K : PySem.W.Frag) (h : Heap) (A : List Addr) : Hp := fun b => if b ∈ A then (if (K.lookup b).isNone = true then (h.get? b).bind hoOf else none) else none
/-- nothing is tracked but what is known to the object -/
def OnlyF (H : Hp) : Prop := ∀ b, H b = none ∨ ∃ o u, H b = some (.frz o u)
theorem hoOf_lst (vs : List Value) : hoOf { cls := .type "list", data := .seq vs.toArray } = some (.frz { cls := .type "list", data := .seq vs.toArray } (.lst (vs.map toV))) := by
  show (if (Value.type "list" == Value.type "list") = true then some (HO.frz { cls := .type "list", data := .seq vs.toArray } (.lst (vs.toArray.toList.map toV))) else some (HO.frz { cls := .type "list", data := .seq vs.toArray } (.tup (vs.toArray.toList.map toV)))) = _
  rw [if_pos (beq_self_eq_true _)]
theorem hoOf_tup (vs : List Value) : hoOf { cls := .type "tuple", data := .seq vs.toArray } = some (.frz { cls := .type "tuple", data := .seq vs.toArray } (.tup (vs.map toV))) := by
  show (if (Value.type "tuple" == Value.type "list") = true then some (HO.frz { cls := .type "tuple", data := .seq vs.toArray } (.lst (vs.toArray.toList.map toV))) else some (HO.frz { cls := .type "tuple", data := .seq vs.toArray } (.tup (vs.toArray.toList.map toV)))) = _
  rw [if_neg (by decide)]
section
variable {P : Program} {w : World} {K : PySem.W.Frag} {h : Heap} {A : List Addr}
theorem argH_at {b : Addr} {o : Obj} (hb : b ∈ A) (hk : K.lookup b = none) (e : h.get? b = some o) : argH K h A b = hoOf o := by
  unfold argH
  rw [if_pos hb, hk, if_pos (show (none : Option Obj).isNone = true from rfl), e] <;> rfl
theorem of_argH {b : Addr} {u : HO} (q : argH K h A b = some u) : b ∈ A ∧ K.lookup b = none := by
  unfold argH at q
  by_cases hb : b ∈ A
  · rw [if_pos hb] at q
    cases hk : K.lookup b with
    | none => exact ⟨hb, rfl⟩
    | some o =>
      rw [hk, if_neg (by simp)] at q
      cases q
  · rw [if_neg hb] at q
    cases q
/-- what stands tracked -/
theorem argH_is (ar : ∀ a ∈ A, ArgOb h A a) {b : Addr} {u : HO} (q : argH K h A b = some u) : K.lookup b = none ∧ ∃ vs : List Value, vs.length ≤ sizeLine ∧ (∀ u ∈ vs, OkU A u) ∧
    ((h.get? b = some { cls := .type "list", data := .seq vs.toArray } ∧ u = .frz { cls := .type "list", data := .seq vs.toArray } (.lst (vs.map toV))) ∨
     (h.get? b = some { cls := .type "tuple", data := .seq vs.toArray } ∧ u = .frz { cls := .type "tuple", data := .seq vs.toArray } (.tup (vs.map toV)))) := by
  obtain ⟨hb, hk⟩ := of_argH q
  obtain ⟨vs, h1, h2, h3⟩ := ar b hb
  refine ⟨hk, vs, h1, h2, ?_⟩
  rcases h3 with e | e
  · rw [argH_at hb hk e, hoOf_lst] at q
    exact .inl ⟨e, (Option.some.inj q).symm⟩
  · rw [argH_at hb hk e, hoOf_tup] at q
    exact .inr ⟨e, (Option.some.inj q).symm⟩
theorem argH_only (ar : ∀ a ∈ A, ArgOb h A a) : OnlyF (argH K h A) := fun b => by
  cases q : argH K h A b with
  | none => exact .inl rfl
  | some u =>
    obtain ⟨_, vs, _, _, ⟨_, e⟩ | ⟨_, e⟩⟩ := argH_is ar q
    · exact .inr ⟨_, _, by rw [e]⟩
    · exact .inr ⟨_, _, by rw [e]⟩
theorem argH_ok (ar : ∀ a ∈ A, ArgOb h A a) : HOk P w (argH K h A) h := fun b u q => by
  obtain ⟨_, vs, h1, h2, ⟨e, rfl⟩ | ⟨e, rfl⟩⟩ := argH_is ar q
  · exact ⟨e, by rw [List.length_map]; exact h1, vs, _, vals_toV h2, e⟩
  · exact ⟨e, by rw [List.length_map]; exact h1, vs, vals_toV h2, _, e, rfl, _, rfl⟩
theorem seq_inj {c c' : Value} {vs us : List Value} (e : (some { cls := c, data := .seq vs.toArray } : Option Obj) = some { cls := c', data := .seq us.toArray }) : c = c' ∧ vs = us := by
  have e1 := Option.some.inj e
  have e2 : c = c' := congrArg Obj.cls e1
  have e3 : Data.seq vs.toArray = Data.seq us.toArray := congrArg Obj.data e1
  injection e3 with e4
  refine ⟨e2, ?_⟩
  have e5 := congrArg Array.toList e4
  simpa using e5
/-- a list argument -/
theorem argL (KX : K.In h) (ar : ∀ a ∈ A, ArgOb h A a) {a : Addr} {vs : List Value} (ha : a ∈ A) (e : h.get? a = some { cls := .type "list", data := .seq vs.toArray }) : (∀ u ∈ vs, OkU A u) ∧ SqL K (argH K h A) a (vs.map toV) := by
  obtain ⟨us, h1, h2, h3⟩ := ar a ha
  have hu : us = vs := by
    rcases h3 with q | q
    · rw [e] at q
      exact (seq_inj q).2.symm
    · rw [e] at q
      exact absurd (Value.type.inj (seq_inj q).1) (by decide)
  subst hu
  refine ⟨h2, ?_⟩
  cases hk : K.lookup a with
  | none => exact .inl (.inr ⟨_, by rw [argH_at ha hk e, hoOf_lst]⟩)
  | some o =>
    have e2 := KX a o hk
    rw [e] at e2
    obtain rfl := Option.some.inj e2
    exact .inr ⟨_, us.toArray, _, hk, rfl, rfl, rfl, by rw [List.size_toArray]; exact h1, by simpa using vals_toV h2⟩
theorem argT (KX : K.In h) (ar : ∀ a ∈ A, ArgOb h A a) {a : Addr} {vs : List Value} (ha : a ∈ A) (e : h.get? a = some { cls := .type "tuple", data := .seq vs.toArray }) : (∀ u ∈ vs, OkU A u) ∧ SqT K (argH K h A) a (vs.map toV) := by
  obtain ⟨us, h1, h2, h3⟩ := ar a ha
  have hu : us = vs := by
    rcases h3 with q | q
    · rw [e] at q
      exact absurd (Value.type.inj (seq_inj q).1) (by decide)
    · rw [e] at q
      exact (seq_inj q).2.symm
  subst hu
  refine ⟨h2, ?_⟩
  cases hk : K.lookup a with
  | none => exact .inl (.inr ⟨_, by rw [argH_at ha hk e, hoOf_tup]⟩)
  | some o =>
    have e2 := KX a o hk
    rw [e] at e2
    obtain rfl := Option.some.inj e2
    exact .inr ⟨_, us.toArray, _, hk, rfl, rfl, by rw [List.size_toArray]; exact h1, by simpa using vals_toV h2⟩
mutual
theorem dw_one {Pm : Params} (KX : K.In h) (ar : ∀ a ∈ A, ArgOb h A a) : ∀ (d : WData) (v : Value), Well Pm h v d → plW d = true → OkU A v → Dw K (argH K h A) (toV v) d
  | .none, _, x, _, _ => by
    cases x
    exact .non
  | .bool b, _, x, _, _ => by
    cases x
    exact .bl b
  | .int i, _, x, _, _ => by
    cases x
    exact .int i
  | .str s, _, x, _, _ => by
    cases x
    exact .str s
  | .bytes b, _, x, _, _ => by
    cases x
    have z := Dw.byt (K := K) (H := argH K h A) b.toArray
    exact z
  | .list ds, _, x, p, hu => by
    obtain ⟨a, vs, rfl, ho, hall⟩ := well_list x
    obtain ⟨h2, hs⟩ := argL KX ar hu ho
    exact .lst hs (dw_all KX ar ds _ hall p h2)
  | .tuple ds, _, x, p, hu => by
    obtain ⟨a, vs, rfl, ho, hall⟩ := well_tuple x
    obtain ⟨h2, hs⟩ := argT KX ar hu ho
    exact .tup hs (dw_all KX ar ds _ hall p h2)
  | .float _, _, _, p, _ => Bool.noConfusion (show false = true from p)
  | .dict _, _, _, p, _ => Bool.noConfusion (show false = true from p)
  | .bytearray _, _, _, p, _ => Bool.noConfusion (show false = true from p)
  | .set _, _, _, p, _ => Bool.noConfusion (show false = true from p)
  | .frozenset _, _, _, p, _ => Bool.noConfusion (show false = true from p)
  | .obj _ _, _, _, p, _ => Bool.noConfusion (show false = true from p)
theorem dw_all {Pm : Params} (KX : K.In h) (ar : ∀ a ∈ A, ArgOb h A a) : ∀ (ds : List WData) (vs : List Value), WellAll Pm h vs ds → plWs ds = true → (∀ u ∈ vs, OkU A u) → DwAll K (argH K h A) (vs.map toV) ds
  | [], _, x, _, _ => by
    cases x
    exact .nil
  | d :: ds, _, x, p, hu => by
    obtain ⟨v, vs, rfl, x1, x2⟩ := well_cons x
    have q : plW d = true ∧ plWs ds = true := Bool.and_eq_true_iff.mp p
    exact .cons (dw_one KX ar d v x1 q.1 (hu _ (List.mem_cons_self ..))) (dw_all KX ar ds vs x2 q.2 fun u m => hu u (List.mem_cons_of_mem _ m))
end
end
theorem spec_call {P : Program} {w : World} {K : PySem.W.Frag} {mg mb : Str → Option Value} {CX : CXT} {k : Nat} {fa : Addr} {fd : FuncData} {ps : List Str} {sp : Sp} {s₁ : Shared} {vals : List Value} {ds : List WData} {R : PySem.W.WRecords} {cl : Str → Option Addr} {d0 : WData}
    (KX : K.In s₁.heap) (hns : s₁.heap.Ns mainGlobals mg) (hb : s₁.heap.Ns builtinsNs mb) (hbb : ∀ x : Str, x ≠ "__name__" → mb x = bootBuiltins x) (hlim : s₁.heap.NoLimit) (hg : s₁.gens = #[])
    (hwl : WellAll w.params s₁.heap vals ds) (hpl : plWs ds = true) (hwt : ∀ d ∈ ds, d.weight ≤ 1048576) (hr : Room k callerA)
    (F : ∀ base : Heap, K.In base → base.Ns mainGlobals mg → FnOk P w K mg base CX k fa fd ps sp) (hbind : ∀ (s : Shared) (us : List Value), us.length = ps.length → BindsTo s fd ⟨us, []⟩ (ps.zip us)) (hlen : ds.length = ps.length)
    (hsp : ∀ (H : Hp) (xs : List V), OnlyF H → DwAll K H xs ds → sp xs H (fun v H' => Dw K H' v d0) fun _ _ _ => False)
    (hCX : ∀ H e s', CX [] H s₁ (fun _ _ _ => False) e s' → False) :
    codeAny (model P w) callerA (.call (.ref fa) ⟨vals, []⟩) (fun r s' => ∃ u as, r = .ok (.ret u) ∧ ReadsW R cl s'.heap u d0 as ∧ OldK s₁.heap s'.heap ∧ s'.os = s₁.os ∧ AllBare s'.gens) s₁ := by
  obtain ⟨A, ho, ar⟩ := area_all ds vals hwl hpl hwt
  have hO : OnlyF (argH K s₁.heap A) := argH_only ar
  have hok : HOk P w (argH K s₁.heap A) s₁.heap := argH_ok ar
  have hS := dw_all KX ar ds vals hwl hpl ho
  have hV := vals_toV ho
  have hK : ∀ b u, argH K s₁.heap A b = some u → K.lookup b = none := fun b u q => (argH_is ar q).1
  have noA : ∀ {b : Addr} {o : Obj} {es : Array DictEntry} {ep : Nat}, s₁.heap.get? b = some o → o.data = .dict es ep → argH K s₁.heap A b = none := fun {b o es ep} e d => by
    cases q : argH K s₁.heap A b with
    | none => rfl
    | some u =>
      obtain ⟨_, vs, _, _, ⟨e2, _⟩ | ⟨e2, _⟩⟩ := argH_is ar q
      · rw [e2] at e
        cases e
        have d' : Data.seq vs.toArray _ = Data.dict es ep := d
        cases d'
      · rw [e2] at e
        cases e
        have d' : Data.seq vs.toArray _ = Data.dict es ep := d
        cases d'
  generalize argH K s₁.heap A = H at hO hok hS hK noA
  have base_of : ∀ {b : Addr} {o : Obj}, s₁.heap.get? b = some o → H b = none → (hidT s₁.heap H).get? b = some o := fun e n => hidT_get e n
  have nsK : ∀ {b : Addr} {m : Str → Option Value}, s₁.heap.Ns b m → (hidT s₁.heap H).Ns b m := fun {b m} ⟨o, es, ep, e, d, r⟩ => ⟨o, es, ep, base_of e (noA e d), d, r⟩
  have nK : ∀ b o, K.lookup b = some o → H b = none := fun b o e => by
    cases q : H b with
    | none => rfl
    | some u =>
      rw [hK b u q] at e
      cases e
  have hKb : K.In (hidT s₁.heap H) := fun b o e => base_of (KX b o e) (nK b o e)
  have hM : Mod K mg (hidT s₁.heap H) := ⟨hKb, nsK hns, ⟨mb, nsK hb, hbb⟩, let ⟨mc, h1, h2⟩ := hlim; ⟨mc, nsK h1, h2⟩⟩
  have e0 : Env0 P w K mg (hidT s₁.heap H) callerA [] s₁ H := ⟨rfl, hM, fun b o e => of_hidT e, Nat.le_of_eq (hidT_size _ _), trivial, fun b hb => absurd (show b ∈ ([] : List Addr) from hb) (by simp), hok, .of_eq hg⟩
  have hl : vals.length = ps.length := by rw [wellAll_len hwl]; exact hlen
  refine codeAny_mono ((F _ hKb (nsK hns)).run callerA [] s₁ H ⟨vals, []⟩ vals (vals.map toV) _ _ hr e0 (hbind s₁ vals hl) hV (hsp H _ hO hS)) fun r s' x => ?_
  cases r with
  | error e => exact (hCX H e s' x).elim
  | ok fl =>
    cases fl with
    | next => exact False.elim x
    | brk => exact False.elim x
    | cont => exact False.elim x
    | ret u =>
      obtain ⟨v, H', os, bare, un, hok', r', q⟩ := x
      have kept : ∀ b o, s₁.heap.get? b = some o → s'.heap.get? b = some o := fun b o e => by
        cases q2 : H b with
        | none => exact un.keep b o e q2 (by intro z; exact absurd (show b ∈ ([] : List Addr) from z) (by simp)) (by simp)
        | some u2 =>
          rcases hO b with z | ⟨ob, u3, z⟩
          · rw [q2] at z
            cases z
          · have z2 := un.frzs b ob _ z
            obtain ⟨e1, _⟩ := hok b _ z
            obtain ⟨e2, _⟩ := hok' b _ z2
            rw [e] at e1
            cases e1
            exact e2
      have KX' : K.In s'.heap := fun b o e => kept b o (KX b o e)
      obtain ⟨as, hrd⟩ := Dw.reads (R := R) (cl := cl) hok' KX' d0 v u q r'
      exact ⟨u, as, rfl, hrd, OldK.of_keep kept, os, bare⟩
theorem layable_weight {ds : List WData} (h : WData.layableAll ds = true) : ∀ d ∈ ds, d.weight ≤ 1048576 := fun d hd =>
  (PySem.W.layableW_iff.mp (List.all_eq_true.mp h d hd)).2.2
theorem encAll_len : ∀ (cs : List Codec) (a : Codec.denoteAll cs), (Codec.encAll cs a).length = cs.length
  | [], _ => rfl
  | c :: cs, a => by
    show (Codec.encAll cs a.2).length + 1 = cs.length + 1
    rw [encAll_len cs a.2]
/-- the goal that k_headS leaves (case hc), from the promise of the row's def: whatever the arguments that the codecs let and the row asks for, the def gives what stands for enc (f ..) -/
theorem walk_spec {r : OpenSpec} {k : Nat} {q : Program} {loose : List Str} {XP : (Str → Option Value) → Heap → Prop} {YP : World → Heap → Prop} {d : DefRec} {K : Params → PySem.W.Frag} {CX : World → CXT} {ps : List Str} {sp : World → Sp}
    (hwell : r.wellSaid = true) (hdf : d.params.defaults = []) (hlen : r.args.length = ps.length) (hr : Room k callerA)
    (hY : ∀ (w : World) (h : Heap), YP w h → (K w.params).In h)
    (F : ∀ (w : World) (mg : Str → Option Value) (fa : Addr) (h : Heap), YP w h → (K w.params).In h → h.Ns mainGlobals mg → mg d.name = some (.ref fa) →
      ∃ fd : FuncData, (∀ (s : Shared) (us : List Value), us.length = ps.length → BindsTo s fd ⟨us, []⟩ (ps.zip us)) ∧
        ∀ base : Heap, (K w.params).In base → base.Ns mainGlobals mg → FnOk r.prog w (K w.params) mg base (CX w) k fa fd ps (sp w))
    (hsp : ∀ (w : World) (H : Hp) (xs : List V) (a : Codec.denoteAll r.args), OnlyF H → Codec.withinAll r.args a = true → Codec.app r.args r.asked a = true → DwAll (K w.params) H xs (Codec.encAll r.args a) →
      sp w xs H (fun v H' => Dw (K w.params) H' v (r.ret.enc (Codec.app r.args r.f a))) fun _ _ _ => False)
    (hCX : ∀ (w : World) (H : Hp) (s : Shared) (e : Value) (s' : Shared), CX w [] H s (fun _ _ _ => False) e s' → False) :
    PySem.W.WalkOS q loose XP YP r d [] (fun f vs => PySem.call f vs) := by
  intro w s_0 s₁ mg mb G Y fa o pm cd doc dV kV ho hd hcd hD hmg hg args vals as hpre hlay hrd hwl hlo
  obtain ⟨a, e1, e2⟩ := PySem.W.os_pre_some hpre
  obtain ⟨e3, hwi⟩ := Codec.encAll_of_decAll r.args args a e1
  subst e3
  have KX := hY w _ Y
  obtain ⟨fd, hb, hF⟩ := F w mg fa _ Y KX G.T.g hmg
  refine PySem.W.enter_call (codeAny_mono (spec_call (R := []) (cl := classAt s_0.heap) (d0 := r.ret.enc (Codec.app r.args r.f a)) KX G.T.g G.T.b G.T.builtins G.T.nolimit hg hwl (pl_encAll _ _) (layable_weight hlay) hr hF hb (by rw [encAll_len]; exact hlen)
    (fun H xs hO hS => hsp w H xs a hO hwi e2 hS) fun H e s' => hCX w H s₁ e s') fun r' s' hq => ?_)
  obtain ⟨u, as', rfl, h1, h2, h3, h4⟩ := hq
  exact ⟨.inl ⟨u, _, as', rfl, fun _ => rfl, h1, (OpenSpec.post_iff hwell hwi _ _).mpr rfl, fun z => Bool.noConfusion (show false = true from z)⟩, h2, h3, h4⟩
/-- the same where the promise hangs on the written part alone -/
theorem walk_specK {r : OpenSpec} {k : Nat} {q : Program} {loose : List Str} {XP : (Str → Option Value) → Heap → Prop} {YP : World → Heap → Prop} {d : DefRec} {K : Params → PySem.W.Frag} {CX : CXT} {ps : List Str} {sp : PySem.W.Frag → Sp}
    (hwell : r.wellSaid = true) (hdf : d.params.defaults = []) (hlen : r.args.length = ps.length) (hr : Room k callerA)
    (hY : ∀ (w : World) (h : Heap), YP w h → (K w.params).In h)
    (F : ∀ (w : World) (mg : Str → Option Value) (fa : Addr) (h : Heap), YP w h → (K w.params).In h → h.Ns mainGlobals mg → mg d.name = some (.ref fa) →
      ∃ fd : FuncData, (∀ (s : Shared) (us : List Value), us.length = ps.length → BindsTo s fd ⟨us, []⟩ (ps.zip us)) ∧
        ∀ base : Heap, (K w.params).In base → base.Ns mainGlobals mg → FnOk r.prog w (K w.params) mg base CX k fa fd ps (sp (K w.params)))
    (hsp : ∀ (K : PySem.W.Frag) (H : Hp) (xs : List V) (a : Codec.denoteAll r.args), OnlyF H → Codec.withinAll r.args a = true → Codec.app r.args r.asked a = true → DwAll K H xs (Codec.encAll r.args a) →
      sp K xs H (fun v H' => Dw K H' v (r.ret.enc (Codec.app r.args r.f a))) fun _ _ _ => False)
    (hCX : ∀ (H : Hp) (s : Shared) (e : Value) (s' : Shared), CX [] H s (fun _ _ _ => False) e s' → False) :
    PySem.W.WalkOS q loose XP YP r d [] (fun f vs => PySem.call f vs) :=
  walk_spec (K := K) (CX := fun _ => CX) (sp := fun w => sp (K w.params)) hwell hdf hlen hr hY F (fun w H xs a h1 h2 h3 h4 => hsp (K w.params) H xs a h1 h2 h3 h4) fun _ H s e s' => hCX H s e s'
end L2
end
section
set_option Elab.async false
set_option linter.all false
set_option maxRecDepth 100000
set_option maxHeartbeats 2000000
namespace L2
open PySem PySem.Spec PyProof.Rows
theorem for_enum {K : PySem.W.Frag} {a : Addr} {xs : List V} {g : TG} {tb : TS} {D : Ends} {σ : St} {H : Hp} (Pv : Nat → St → Hp → Prop) (h0 : Pv 0 σ H) (hl : ∀ i σ H, i ≤ xs.length → Pv i σ H → SqL K H a xs)
    (hs : ∀ i x σ H T, xs[i]? = some x → Pv i σ H → H T = none → g (.ref T) σ (upd H T (.tup [.int (i : Nat), x])) fun σ2 H2 => tb { D with nx := Pv (i + 1), ct := Pv (i + 1), bk := D.nx } σ2 H2) (hd : ∀ σ H, Pv xs.length σ H → D.nx σ H) :
    ∃ W : Nat → Nat → St → Hp → Prop, (∃ m, W 0 m σ H) ∧ ∀ i m σ H, W i m σ H →
      ((Ite K a).stop i H ∧ D.nx σ H) ∨ ((Ite K a).go i H ∧ ∃ N : St → Hp → Prop, (∀ σ' H', N σ' H' → ∃ m', m' < m ∧ W (i + 1) m' σ' H') ∧ ∀ x H', (Ite K a).yld i H x H' → g x σ H' fun σ2 H2 => tb { D with nx := N, ct := N, bk := D.nx } σ2 H2) := by
  refine ⟨fun i m σ H => m = xs.length - i ∧ i ≤ xs.length ∧ Pv i σ H, ⟨xs.length, by simp, Nat.zero_le _, h0⟩, ?_⟩
  rintro i m σ H ⟨rfl, hi, p⟩
  have q := hl i σ H hi p
  by_cases hlt : i < xs.length
  · refine .inr ⟨⟨xs, xs[i], q, by simp [hlt]⟩, Pv (i + 1), fun σ' H' p' => ⟨xs.length - (i + 1), by omega, rfl, hlt, p'⟩, fun x H' y => ?_⟩
    obtain ⟨T, z, rfl, hT, rfl, y⟩ := y
    exact hs i z σ _ T (y xs q) p hT
  · have e : i = xs.length := by omega
    subst e
    exact .inl ⟨⟨xs, q, Nat.le_refl _⟩, hd σ H p⟩
theorem lc_str {x : Str} {g : TG} {tt : TT} {te : TE} {vs : List Nat} {σ : St} {H1 : Hp} {D : Addr} {Qd : Hp → Prop} (Pv : Nat → Hp → Prop) (h0 : Pv 0 (upd H1 D (.lst [])))
    (hs : ∀ i c H, x.cps[i]? = some c → Pv i H → g (.str ⟨#[c]⟩) (wipe σ vs) H fun σ2 H2 => wipe σ2 vs = wipe σ vs ∧ tt σ2 H2 fun b H3 =>
      if b = true then te σ2 H3 fun y H4 => ∃ acc, H4 D = some (.lst acc) ∧ acc.length < sizeLine ∧ Pv (i + 1) (upd H4 D (.lst (acc ++ [y]))) else Pv (i + 1) H3) (hd : ∀ H, Pv x.cps.size H → Qd H) :
    ∃ W : Nat → Nat → Hp → Prop, (∃ m, W 0 m (upd H1 D (.lst []))) ∧ ∀ i m H, W i m H →
      ((Its x).stop i H ∧ Qd H) ∨ ((Its x).go i H ∧ ∃ Nx : Hp → Prop, (∀ H', Nx H' → ∃ m', m' < m ∧ W (i + 1) m' H') ∧ ∀ v H', (Its x).yld i H v H' → g v (wipe σ vs) H' fun σ2 H2 => wipe σ2 vs = wipe σ vs ∧ tt σ2 H2 fun b H3 =>
        if b = true then te σ2 H3 fun y H4 => ∃ acc, H4 D = some (.lst acc) ∧ acc.length < sizeLine ∧ Nx (upd H4 D (.lst (acc ++ [y]))) else Nx H3) := by
  refine ⟨fun i m H => m = x.cps.size - i ∧ i ≤ x.cps.size ∧ Pv i H, ⟨x.cps.size, by simp, Nat.zero_le _, h0⟩, ?_⟩
  rintro i m H ⟨rfl, hi, p⟩
  by_cases hlt : i < x.cps.size
  · refine .inr ⟨hlt, Pv (i + 1), fun H' p' => ⟨x.cps.size - (i + 1), by omega, rfl, hlt, p'⟩, fun v H' y => ?_⟩
    obtain ⟨rfl, c, hc, rfl⟩ := y
    exact hs i c _ hc p
  · have e : i = x.cps.size := by omega
    subst e
    exact .inl ⟨Nat.le_refl _, hd H p⟩
/-- enumerate of a text: each sign in a new pair -/
def ItS (z : Str) : It :=
  ⟨fun i _ => i < z.cps.size, fun i H v H' => ∃ T c, v = .ref T ∧ H T = none ∧ H' = upd H T (.tup [.int (i : Nat), .str ⟨#[c]⟩]) ∧ z.cps[i]? = some c, fun i _ => i = z.cps.size⟩
theorem draws_str {prog : Program} {w : World} {A : Around} (hh : A.handled = none) (it : Addr) (x : Str) (t : Tok) :
    Draws prog w A it [it] x.cps.size (fun i v => ∃ c u, x.cps[i]? = some c ∧ v = .str ⟨#[c]⟩ u) (fun i h => h.IsStrIter it (strIterType x) x t i) := by
  unfold strIterType
  split
  · exact Draws.strAscii hh it x t
  · exact Draws.strWide hh it x t
theorem turn_enumS {P : Program} {w : World} {K : PySem.W.Frag} {elts : List Expr} {kk : Nat} {tpos : Pos} (z : Str) (tz : Tok) (e it : Addr) :
    Turn P w K (.Tuple elts kk tpos) (ItS z) [e, it] e (fun i h => (∃ old, IsEnum h e it ((i : Nat) : Int) old) ∧ h.IsStrIter it (strIterType z) z tz i ∧ e ≠ it) where
  mem := by simp
  obj := fun i h st b hb => by
    obtain ⟨⟨old, he⟩, ⟨o, ho, hc, hd⟩, _⟩ := st
    have e' : b = e ∨ b = it := by simpa using hb
    rcases e' with z | z
    · rw [z]; exact ⟨_, he, fun v q => nomatch q⟩
    · rw [z]; exact ⟨o, ho, fun v q => by rw [hd] at q; cases q⟩
  keep := fun i h h' st k => let ⟨⟨old, he⟩, ⟨o, ho, r⟩, hne⟩ := st; ⟨⟨old, k e (by simp) _ he⟩, ⟨o, k it (by simp) o ho, r⟩, hne⟩
  item := by
    intro X hP hw hK hc i pins s σ H E I hf st hg
    subst hP hw hK
    obtain ⟨⟨old, he⟩, hit, hne⟩ := st
    have hel : e < s.heap.objs.size := Heap.lt_size he
    have hil : it < s.heap.objs.size := by obtain ⟨_, q, _⟩ := hit; exact Heap.lt_size q
    refine wpAny_pyNext_enum_itemD (draws_str (A := X.A.in1) (I.ok.hd hc) it z tz) he hit hg hne (by simp [hne]) fun v h' tk hv ho hit' hT hsz hk => ?_
    obtain ⟨c, u, hcx, rfl⟩ := hv
    refine ⟨_, rfl, wpAny_letOwnedTupleGo_enum (s := { s with heap := h', toks := tk + 1 }) ho fun h'' he' sb => ?_⟩
    have hT2 : h''.get? s.heap.objs.size = some { cls := .type "tuple", data := .seq #[.int i tk, .str ⟨#[c]⟩ u] } := (sb.2 _ (Nat.ne_of_gt hel)).trans hT
    have new : ObjOk X.prog X.w (upd H s.heap.objs.size (.tup [.int (i : Nat), .str ⟨#[c]⟩])) h'' s.heap.objs.size (.tup [.int (i : Nat), .str ⟨#[c]⟩]) :=
      ⟨by show 2 ≤ sizeLine; decide, [.int i tk, .str ⟨#[c]⟩ u], .cons ⟨_, rfl⟩ (.cons ⟨_, rfl⟩ .nil), ⟨_, hT2, rfl, _, rfl⟩⟩
    have I1 : Inv X pins σ (upd H s.heap.objs.size (.tup [.int (i : Nat), .str ⟨#[c]⟩])) { s with heap := h'', toks := tk + 1 } :=
      I.turnedNew (ch := [e, it]) (fun b ob hb q => (sb.2 b (fun z => hb (by simp [z]))).trans (hk b ob (fun z => hb (by simp [z])) (fun z => hb (by simp [z])) q)) hf (Nat.le_refl _) new
    refine ⟨.ref s.heap.objs.size, _, I1, rfl, ⟨_, c, rfl, I.hok.fresh (Nat.le_refl _), rfl, hcx⟩, ⟨⟨.str ⟨#[c]⟩ u, ?_⟩, ?_, hne⟩, fun b hb => ?_⟩
    · have e1 : ((i + 1 : Nat) : Int) = (i : Int) + 1 := by omega
      rw [e1]; exact he'
    · obtain ⟨o, ho2, r⟩ := hit'
      exact ⟨o, (sb.2 it (Ne.symm hne)).trans ho2, r⟩
    · have hb' : b < s.heap.objs.size := by
        have e' : b = e ∨ b = it := by simpa using hb
        rcases e' with z | z
        · rw [z]; exact hel
        · rw [z]; exact hil
      rw [upd_ne (Nat.ne_of_lt hb')]
      exact (hf b hb).1
  done := by
    intro X hP hw hK hc i pins s σ H E I hf st hg
    subst hP hw hK
    obtain ⟨⟨old, he⟩, hit, hne⟩ := st
    have hg : i = z.cps.size := hg
    subst hg
    obtain ⟨f0, f1, f2, f3, f4, f5⟩ := hf it (by simp)
    exact wpAny_pyNext_enum_endD (draws_str (A := X.A.in1) (I.ok.hd hc) it z tz) he hit fun h' eb => ⟨rfl, I.turned (t' := s.toks) (fun b o hb q => eb b o hb q) f0 f1 f3 f4 f5⟩
  self := fun A i s Q E st h => let ⟨⟨_, he⟩, _⟩ := st; wpAny_pyIter_enum he h
def iEnumS (ta : TA) : TI := fun σ H R => ta σ H fun vs H1 => ∃ z, vs = [.str z] ∧ R (ItS z) H1
theorem pi_enumS {X : Cx} {e : Expr} {ta : TA} {p pos tpos : Pos} {elts : List Expr} {kk : Nat} (hg : Gl X "enumerate") (hm : X.mg "enumerate" = none) (ha : PA X [e] ta) (hs : starEach [e] X.env = [(false, eval e X.env)] := by rfl) :
    PI X (.Tuple elts kk tpos) (.Call (.Name "enumerate" p) [e] [] pos) (iEnumS ta) := by
  intro pins s σ H R I h
  refine Call_ (ld_blt I hg hm boot_enumerate (PyProof.Rows.callWith_type1 (thn (ha pos pins s σ H _ I h) fun us s1 ⟨vs, H1, I1, r1, q1⟩ => ?_) hs rfl))
  obtain ⟨z, ex, q⟩ := q1
  subst ex
  cases r1 with
  | cons r rr =>
    cases rr
    obtain ⟨tz, rfl⟩ := r
    refine call_enumerate_str fun h' he hit hsz hk => wpAny_pyIter_enum he ?_
    have I2 : Inv X pins σ H1 { s1 with heap := h' } := I1.kept (t' := s1.toks) hk
    refine ⟨s1.heap.objs.size + 1, [s1.heap.objs.size + 1, s1.heap.objs.size], _, _, H1, rfl, I2, turn_enumS z tz (s1.heap.objs.size + 1) s1.heap.objs.size, ⟨⟨.none, he⟩, hit, Nat.succ_ne_self _⟩, fun b hb => ?_, q⟩
    have e' : b = s1.heap.objs.size + 1 ∨ b = s1.heap.objs.size := by simpa using hb
    have hle : s1.heap.objs.size ≤ b := by
      rcases e' with z | z
      · rw [z]; exact Nat.le_add_right _ _
      · rw [z]; exact Nat.le_refl _
    exact I1.fpOk hle (I1.hok.fresh hle)
theorem for_enumS {z : Str} {g : TG} {tb : TS} {D : Ends} {σ : St} {H : Hp} (Pv : Nat → St → Hp → Prop) (h0 : Pv 0 σ H)
    (hs : ∀ i c σ H T, z.cps[i]? = some c → Pv i σ H → H T = none → g (.ref T) σ (upd H T (.tup [.int (i : Nat), .str ⟨#[c]⟩])) fun σ2 H2 => tb { D with nx := Pv (i + 1), ct := Pv (i + 1), bk := D.nx } σ2 H2) (hd : ∀ σ H, Pv z.cps.size σ H → D.nx σ H) :
    ∃ W : Nat → Nat → St → Hp → Prop, (∃ m, W 0 m σ H) ∧ ∀ i m σ H, W i m σ H →
      ((ItS z).stop i H ∧ D.nx σ H) ∨ ((ItS z).go i H ∧ ∃ N : St → Hp → Prop, (∀ σ' H', N σ' H' → ∃ m', m' < m ∧ W (i + 1) m' σ' H') ∧ ∀ x H', (ItS z).yld i H x H' → g x σ H' fun σ2 H2 => tb { D with nx := N, ct := N, bk := D.nx } σ2 H2) := by
  refine ⟨fun i m σ H => m = z.cps.size - i ∧ i ≤ z.cps.size ∧ Pv i σ H, ⟨z.cps.size, by simp, Nat.zero_le _, h0⟩, ?_⟩
  rintro i m σ H ⟨rfl, hi, p⟩
  by_cases hlt : i < z.cps.size
  · refine .inr ⟨hlt, Pv (i + 1), fun σ' H' p' => ⟨z.cps.size - (i + 1), by omega, rfl, hlt, p'⟩, fun x H' y => ?_⟩
    obtain ⟨T, c, rfl, hT, rfl, y⟩ := y
    exact hs i c σ _ T y p hT
  · have e : i = z.cps.size := by omega
    subst e
    exact .inl ⟨rfl, hd σ H p⟩
end L2
end
section
set_option Elab.async false
set_option linter.all false
set_option maxRecDepth 100000
set_option maxHeartbeats 4000000
namespace Zip3
open PySem
theorem typeCall_zip_3 (a b c : Value) : checkTypeCall "zip" ⟨[a, b, c], []⟩ = pure () := by kernel_rfl
theorem newCall_zip_3 (a b c : Value) : checkBuiltinCall "zip.__new__" ⟨[.type "zip", a, b, c], []⟩ = pure () := by kernel_rfl
theorem args_object_init_4 (a b c d : Value) : argsOk "object.__init__" ⟨[a, b, c, d], []⟩ := by
  unfold argsOk; rw [signature?_of (id := "object.__init__") (n := ['_', '_', 't', 'i', 'n', 'i', '_', '_']) (o := ['t', 'c', 'e', 'j', 'b', 'o']) (by kernel_rfl) F.owner_object]; kernel_rfl
abbrev IsTrip (h : Heap) (T : Addr) (a b c : Value) : Prop := h.get? T = some { cls := .type "tuple", data := .seq #[a, b, c] }
section
variable {prog : Program} {w : World} {A : Around} {E : Value → Shared → Prop} {s : Shared}
theorem updateSeq_trip {T : Addr} {a b c x : Value} {k : Nat} {Q : Unit → Shared → Prop} (hT : IsTrip s.heap T a b c)
    (h : ∀ h', h'.get? T = some { cls := .type "tuple", data := .seq ((#[a, b, c] : Array Value).setIfInBounds k x) } → Heap.SameBut T s.heap h' → Q () { s with heap := h' }) :
    wpAny (model prog w) A (updateSeq T (·.setIfInBounds k x)) Q E s := by
  refine wpAny_updateSeq hT rfl (h _ ?_ (Heap.SameBut.update ..))
  rw [Heap.get?_update_self _ hT rfl]
  simp [Obj.mapSeq]
/-- the places of a zip of three: all apart -/
structure Apart (n z TI TO i1 i2 i3 l1 l2 l3 : Addr) : Prop where
  e1 : i1 = n
  e2 : i2 = n + 1
  e3 : i3 = n + 2
  eI : TI = n + 3
  eO : TO = n + 4
  ez : z = n + 5
  l1 : l1 < n
  l2 : l2 < n
  l3 : l3 < n
theorem item3 {n z TI TO i1 i2 i3 l1 l2 l3 : Addr} {k : Nat} {xs ys zs : Array Value} {x y v a b c : Value} {Q : Value → Shared → Prop} (D : Apart n z TI TO i1 i2 i3 l1 l2 l3)
    (hz : IsZip s.heap z TI TO .none) (hTI : IsTrip s.heap TI (.ref i1) (.ref i2) (.ref i3)) (hTO : IsTrip s.heap TO a b c)
    (h1 : s.heap.IsListIter i1 l1 k) (h2 : s.heap.IsListIter i2 l2 k) (h3 : s.heap.IsListIter i3 l3 k) (hl1 : s.heap.IsList l1 xs) (hl2 : s.heap.IsList l2 ys) (hl3 : s.heap.IsList l3 zs) (hx : xs[k]? = some x) (hy : ys[k]? = some y) (hv : zs[k]? = some v)
    (hQ : ∀ h', IsZip h' z TI TO (rawInt s.heap.objs.size) → IsTrip h' TO x y v → h'.IsListIter i1 l1 (k + 1) → h'.IsListIter i2 l2 (k + 1) → h'.IsListIter i3 l3 (k + 1) → IsTrip h' s.heap.objs.size x y v → h'.objs.size = s.heap.objs.size + 1 →
      (∀ c o, c ≠ z → c ≠ TO → c ≠ i1 → c ≠ i2 → c ≠ i3 → s.heap.get? c = some o → h'.get? c = some o) → Q (.ref s.heap.objs.size) { s with heap := h' }) :
    wpAny (model prog w) A (Builtin.«zip.__next__» ⟨[.ref z], []⟩) (fun fin s' => ∃ v, fin = .done (.ret v) ∧ Q v s') E s := by
  obtain ⟨E1, E2, E3, EI, EO, EZ, L1, L2, L3⟩ := D
  have ne : ∀ {p q : Nat}, p ≠ q → (p : Addr) ≠ q := fun h => h
  show wpAny _ _ (field (.ref z) 2 >>= _) _ _ _
  refine wpAny_bind (wpAny_field hz rfl (x := .bool false) rfl ?_)
  show wpAny _ _ (field (.ref z) 3 >>= _) _ _ _
  refine wpAny_bind (wpAny_field hz rfl (x := .ref TI) rfl ?_)
  refine wpAny_bind (wpAny_seqItems hTI rfl ?_)
  show wpAny _ _ (Builtin.SmallTypes.ownedTupleIsFree (.ref z) >>= _) _ _ _
  refine wpAny_bind ?_
  unfold Builtin.SmallTypes.ownedTupleIsFree
  refine wpAny_bind (wpAny_field hz rfl (x := .none) rfl (wpAny_pure ?_))
  simp only [if_true]
  refine wpAny_bind (wpAny_rule ?_)
  refine wpAny_bind (wpAny_field hz rfl (x := .ref TO) rfl ?_)
  refine wpAny_bind (wpAny_setField_rec hz (by simp) fun hA hzA hsA => ?_)
  replace hzA : IsZip hA z TI TO .ellipsis := hzA
  refine wpAny_bind ?_
  simp only [List.zipIdx_cons, List.zipIdx_nil, List.forIn_cons, List.forIn_nil]
  have i1z : i1 ≠ z := by unfold Addr at *; omega
  have i2z : i2 ≠ z := by unfold Addr at *; omega
  have i3z : i3 ≠ z := by unfold Addr at *; omega
  have l1z : l1 ≠ z := by unfold Addr at *; omega
  have l2z : l2 ≠ z := by unfold Addr at *; omega
  have l3z : l3 ≠ z := by unfold Addr at *; omega
  have TOz : TO ≠ z := by unfold Addr at *; omega
  have TOi1 : TO ≠ i1 := by unfold Addr at *; omega
  have TOi2 : TO ≠ i2 := by unfold Addr at *; omega
  have TOi3 : TO ≠ i3 := by unfold Addr at *; omega
  have i12 : i1 ≠ i2 := by unfold Addr at *; omega
  have i13 : i1 ≠ i3 := by unfold Addr at *; omega
  have i23 : i2 ≠ i3 := by unfold Addr at *; omega
  have l2i1 : l2 ≠ i1 := by unfold Addr at *; omega
  have l3i1 : l3 ≠ i1 := by unfold Addr at *; omega
  have l3i2 : l3 ≠ i2 := by unfold Addr at *; omega
  have l2TO : l2 ≠ TO := by unfold Addr at *; omega
  have l3TO : l3 ≠ TO := by unfold Addr at *; omega
  -- 1
  refine wpAny_bind (wpAny_bind (wpAny_onRaise ?_))
  show wpAny _ _ (Builtin.SmallTypes.nextOf (.ref i1) >>= _) _ _ _
  refine wpAny_bind (wpAny_nextOf_list_item (h1.extBut hsA.extBut i1z) (hl1.extBut hsA.extBut l1z) hx fun hB h1B hsB => wpAny_pure ?_)
  have hTOB : IsTrip hB TO a b c := hsB.extBut _ _ TOi1 (hsA.extBut _ _ TOz hTO)
  refine wpAny_bind (wpAny_seqItems hTOB rfl ?_)
  refine wpAny_bind (updateSeq_trip hTOB fun hC hTOC hsC => ?_)
  replace hTOC : IsTrip hC TO x b c := hTOC
  refine wpAny_bind (wpAny_letGo (wpAny_pure ?_))
  -- 2
  refine wpAny_bind (wpAny_bind (wpAny_onRaise ?_))
  show wpAny _ _ (Builtin.SmallTypes.nextOf (.ref i2) >>= _) _ _ _
  refine wpAny_bind (wpAny_nextOf_list_item (((h2.extBut hsA.extBut i2z).extBut hsB.extBut i12.symm).extBut hsC.extBut TOi2.symm)
    (((hl2.extBut hsA.extBut l2z).extBut hsB.extBut l2i1).extBut hsC.extBut l2TO) hy fun hD h2D hsD => wpAny_pure ?_)
  have hTOD : IsTrip hD TO x b c := hsD.extBut _ _ TOi2 hTOC
  refine wpAny_bind (wpAny_seqItems hTOD rfl ?_)
  refine wpAny_bind (updateSeq_trip hTOD fun hE hTOE hsE => ?_)
  replace hTOE : IsTrip hE TO x y c := hTOE
  refine wpAny_bind (wpAny_letGo (wpAny_pure ?_))
  -- 3
  refine wpAny_bind (wpAny_bind (wpAny_onRaise ?_))
  show wpAny _ _ (Builtin.SmallTypes.nextOf (.ref i3) >>= _) _ _ _
  refine wpAny_bind (wpAny_nextOf_list_item (((((h3.extBut hsA.extBut i3z).extBut hsB.extBut i13.symm).extBut hsC.extBut TOi3.symm).extBut hsD.extBut i23.symm).extBut hsE.extBut TOi3.symm)
    (((((hl3.extBut hsA.extBut l3z).extBut hsB.extBut l3i1).extBut hsC.extBut l3TO).extBut hsD.extBut l3i2).extBut hsE.extBut l3TO) hv fun hF h3F hsF => wpAny_pure ?_)
  have hTOF : IsTrip hF TO x y c := hsF.extBut _ _ TOi3 hTOE
  refine wpAny_bind (wpAny_seqItems hTOF rfl ?_)
  refine wpAny_bind (updateSeq_trip hTOF fun hG hTOG hsG => ?_)
  replace hTOG : IsTrip hG TO x y v := hTOG
  refine wpAny_bind (wpAny_letGo (wpAny_pure (wpAny_pure ?_)))

  refine wpAny_bind (wpAny_seqItems hTOG rfl ?_)
  refine wpAny_bind (wpAny_newTuple ?_)
  have hsz : hG.objs.size = s.heap.objs.size := by rw [hsG.1, hsF.1, hsE.1, hsD.1, hsC.1, hsB.1, hsA.1]
  have hzG : IsZip hG z TI TO .ellipsis := hsG.extBut _ _ TOz.symm (hsF.extBut _ _ i3z.symm (hsE.extBut _ _ TOz.symm (hsD.extBut _ _ i2z.symm (hsC.extBut _ _ TOz.symm (hsB.extBut _ _ i1z.symm hzA)))))
  have hkG : ∀ c o, c ≠ z → c ≠ TO → c ≠ i1 → c ≠ i2 → c ≠ i3 → s.heap.get? c = some o → hG.get? c = some o := fun c o c1 c2 c3 c4 c5 e =>
    hsG.extBut _ _ c2 (hsF.extBut _ _ c5 (hsE.extBut _ _ c2 (hsD.extBut _ _ c4 (hsC.extBut _ _ c2 (hsB.extBut _ _ c3 (hsA.extBut _ _ c1 e))))))
  have h1G : hG.IsListIter i1 l1 (k + 1) := ((((h1B.extBut hsC.extBut TOi1.symm).extBut hsD.extBut i12).extBut hsE.extBut TOi1.symm).extBut hsF.extBut i13).extBut hsG.extBut TOi1.symm
  have h2G : hG.IsListIter i2 l2 (k + 1) := ((h2D.extBut hsE.extBut TOi2.symm).extBut hsF.extBut i23).extBut hsG.extBut TOi2.symm
  have h3G : hG.IsListIter i3 l3 (k + 1) := h3F.extBut hsG.extBut TOi3.symm
  have hzlt : z < hG.objs.size := Heap.lt_size hzG
  show wpAny _ _ (Builtin.SmallTypes.ownedTupleHandOut (.ref z) (.ref hG.objs.size) >>= _) _ _ _
  refine wpAny_bind ?_
  unfold Builtin.SmallTypes.ownedTupleHandOut
  have hz6 : IsZip (hG.push { cls := .type "tuple", data := .seq #[x, y, v] }) z TI TO .ellipsis := Heap.get?_push_of_some _ hzG
  refine wpAny_bind (wpAny_setField_rec hz6 (by simp) fun h7 hz7 hs7 => ?_)
  replace hz7 : IsZip h7 z TI TO (rawInt hG.objs.size) := hz7
  refine wpAny_setField_rec hz7 (by simp) fun h8 hz8 hs8 => ?_
  replace hz8 : IsZip h8 z TI TO (rawInt hG.objs.size) := hz8
  have up : ∀ c o, c ≠ z → hG.get? c = some o → h8.get? c = some o := fun c o c1 e => hs8.extBut _ _ c1 (hs7.extBut _ _ c1 (Heap.get?_push_of_some _ e))
  have hT8 : IsTrip h8 hG.objs.size x y v := hs8.extBut _ _ (Nat.ne_of_gt hzlt) (hs7.extBut _ _ (Nat.ne_of_gt hzlt) (Heap.get?_push_size _ rfl))
  have hzz : h8.objs.size = hG.objs.size + 1 := by rw [hs8.1, hs7.1, Heap.size_push]
  rw [hsz] at hz8 hT8 hzz
  refine wpAny_pure ⟨_, rfl, ?_⟩
  show Q (.ref hG.objs.size) _
  rw [hsz]
  exact hQ h8 hz8 (up _ _ TOz hTOG) (h1G.at fun o e => up _ o i1z e) (h2G.at fun o e => up _ o i2z e) (h3G.at fun o e => up _ o i3z e) hT8 hzz fun c o c1 c2 c3 c4 c5 e => up c o c1 (hkG c o c1 c2 c3 c4 c5 e)
/-- the first list's end -/
theorem end3 {n z TI TO i1 i2 i3 l1 l2 l3 : Addr} {k : Nat} {xs : Array Value} {a b c : Value} {Q : Fin → Shared → Prop} (hh : A.handled = none) (D : Apart n z TI TO i1 i2 i3 l1 l2 l3)
    (hz : IsZip s.heap z TI TO .none) (hTI : IsTrip s.heap TI (.ref i1) (.ref i2) (.ref i3)) (hTO : IsTrip s.heap TO a b c)
    (h1 : s.heap.IsListIter i1 l1 k) (hl1 : s.heap.IsList l1 xs) (hx : xs[k]? = none)
    (hE : ∀ h' e, (∀ c o, c ≠ z → c ≠ TO → c ≠ i1 → s.heap.get? c = some o → h'.get? c = some o) → (∃ o, h'.get? e = some o ∧ o.cls = .type "StopIteration") → E (.ref e) { s with heap := h' }) :
    wpAny (model prog w) A (Builtin.«zip.__next__» ⟨[.ref z], []⟩) Q E s := by
  obtain ⟨E1, E2, E3, EI, EO, EZ, L1, L2, L3⟩ := D
  have i1z : i1 ≠ z := by unfold Addr at *; omega
  have l1z : l1 ≠ z := by unfold Addr at *; omega
  show wpAny _ _ (field (.ref z) 2 >>= _) _ _ _
  refine wpAny_bind (wpAny_field hz rfl (x := .bool false) rfl ?_)
  show wpAny _ _ (field (.ref z) 3 >>= _) _ _ _
  refine wpAny_bind (wpAny_field hz rfl (x := .ref TI) rfl ?_)
  refine wpAny_bind (wpAny_seqItems hTI rfl ?_)
  show wpAny _ _ (Builtin.SmallTypes.ownedTupleIsFree (.ref z) >>= _) _ _ _
  refine wpAny_bind ?_
  unfold Builtin.SmallTypes.ownedTupleIsFree
  refine wpAny_bind (wpAny_field hz rfl (x := .none) rfl (wpAny_pure ?_))
  simp only [if_true]
  refine wpAny_bind (wpAny_rule ?_)
  refine wpAny_bind (wpAny_field hz rfl (x := .ref TO) rfl ?_)
  refine wpAny_bind (wpAny_setField_rec hz (by simp) fun hA hzA hsA => ?_)
  replace hzA : IsZip hA z TI TO .ellipsis := hzA
  refine wpAny_bind ?_
  simp only [List.zipIdx_cons, List.zipIdx_nil, List.forIn_cons, List.forIn_nil]
  refine wpAny_bind (wpAny_bind (wpAny_onRaise ?_))
  show wpAny _ _ (Builtin.SmallTypes.nextOf (.ref i1) >>= _) _ _ _
  refine wpAny_bind (wpAny_nextOf_list_end hh (h1.extBut hsA.extBut i1z) (hl1.extBut hsA.extBut l1z) hx fun h2 e hs2 he => ?_)
  obtain ⟨oe, hoe, hce⟩ := he
  have hz2 : IsZip h2 z TI TO .ellipsis := hs2 _ _ i1z.symm hzA
  have hez : e ≠ z := fun x => by subst x; rw [hz2] at hoe; cases hoe; simp at hce
  refine wpAny_setField_rec hz2 (by simp) fun h3 _ hs3 => hE h3 e (fun c o c1 _ c3 x => hs3.extBut _ _ c1 (hs2 _ _ c3 (hsA.extBut _ _ c1 x))) ⟨oe, hs3.extBut _ _ hez hoe, hce⟩
theorem pyNext_item3 {n z TI TO i1 i2 i3 l1 l2 l3 : Addr} {k : Nat} {xs ys zs : Array Value} {x y v a b c : Value} {Q : Option Value → Shared → Prop} (D : Apart n z TI TO i1 i2 i3 l1 l2 l3)
    (hz : IsZip s.heap z TI TO .none) (hTI : IsTrip s.heap TI (.ref i1) (.ref i2) (.ref i3)) (hTO : IsTrip s.heap TO a b c)
    (h1 : s.heap.IsListIter i1 l1 k) (h2 : s.heap.IsListIter i2 l2 k) (h3 : s.heap.IsListIter i3 l3 k) (hl1 : s.heap.IsList l1 xs) (hl2 : s.heap.IsList l2 ys) (hl3 : s.heap.IsList l3 zs) (hx : xs[k]? = some x) (hy : ys[k]? = some y) (hv : zs[k]? = some v)
    (hQ : ∀ h', IsZip h' z TI TO (rawInt s.heap.objs.size) → IsTrip h' TO x y v → h'.IsListIter i1 l1 (k + 1) → h'.IsListIter i2 l2 (k + 1) → h'.IsListIter i3 l3 (k + 1) → IsTrip h' s.heap.objs.size x y v → h'.objs.size = s.heap.objs.size + 1 →
      (∀ c o, c ≠ z → c ≠ TO → c ≠ i1 → c ≠ i2 → c ≠ i3 → s.heap.get? c = some o → h'.get? c = some o) → Q (some (.ref s.heap.objs.size)) { s with heap := h' }) :
    wpAny (model prog w) A (pyNext (.ref z)) Q E s := by
  have hT : s.TypeIs (.ref z) "zip" := ⟨_, hz, rfl⟩
  unfold pyNext
  exact wpAny_bind (wpAny_attempt (wpAny_callSpecial?_slot (name := Str.ofString "__next__") hT F.slot_zip_next
    (wpAny_call_entry F.slot_zip_next hT F.entry_zip_next
      (item3 D hz hTI hTO h1 h2 h3 hl1 hl2 hl3 hx hy hv fun h' a1 a2 a3 a4 a5 a6 a7 a8 => wpAny_pure (hQ h' a1 a2 a3 a4 a5 a6 a7 a8)) (F.args_zip_next_1 _))))
theorem pyNext_end3 {n z TI TO i1 i2 i3 l1 l2 l3 : Addr} {k : Nat} {xs : Array Value} {a b c : Value} {Q : Option Value → Shared → Prop} (hh : A.handled = none) (D : Apart n z TI TO i1 i2 i3 l1 l2 l3)
    (hz : IsZip s.heap z TI TO .none) (hTI : IsTrip s.heap TI (.ref i1) (.ref i2) (.ref i3)) (hTO : IsTrip s.heap TO a b c)
    (h1 : s.heap.IsListIter i1 l1 k) (hl1 : s.heap.IsList l1 xs) (hx : xs[k]? = none)
    (hQ : ∀ h', (∀ c o, c ≠ z → c ≠ TO → c ≠ i1 → s.heap.get? c = some o → h'.get? c = some o) → Q none { s with heap := h' }) : wpAny (model prog w) A (pyNext (.ref z)) Q E s := by
  have hT : s.TypeIs (.ref z) "zip" := ⟨_, hz, rfl⟩
  unfold pyNext
  refine wpAny_bind (wpAny_attempt (wpAny_callSpecial?_slot (name := Str.ofString "__next__") hT F.slot_zip_next
    (wpAny_call_entry F.slot_zip_next hT F.entry_zip_next (end3 hh D hz hTI hTO h1 hl1 hx fun h' e hk he => ?_) (F.args_zip_next_1 _))))
  obtain ⟨o, ho, hc⟩ := he
  refine wpAny_bind (wpAny_isInstance (T := "StopIteration") (b := true) ⟨o, ho, hc⟩ isSubtype_stop ?_)
  exact wpAny_pure (hQ _ hk)
end
abbrev zH1 (h : Heap) (l1 : Addr) : Heap := h.push { cls := .type "list_iterator", data := .fields #[.ref l1, .int 0 0] }
abbrev zH2 (h : Heap) (l1 l2 : Addr) : Heap := (zH1 h l1).push { cls := .type "list_iterator", data := .fields #[.ref l2, .int 0 0] }
abbrev zH3 (h : Heap) (l1 l2 l3 : Addr) : Heap := (zH2 h l1 l2).push { cls := .type "list_iterator", data := .fields #[.ref l3, .int 0 0] }
abbrev zH4 (h : Heap) (l1 l2 l3 : Addr) : Heap := (zH3 h l1 l2 l3).push { cls := .type "tuple", data := .seq #[.ref h.objs.size, .ref (zH1 h l1).objs.size, .ref (zH2 h l1 l2).objs.size] }
abbrev zH5 (h : Heap) (l1 l2 l3 : Addr) : Heap := (zH4 h l1 l2 l3).push { cls := .type "tuple", data := .seq #[.none, .none, .none] }
abbrev zH6 (h : Heap) (l1 l2 l3 : Addr) : Heap := (zH5 h l1 l2 l3).push { cls := .type "zip", data := .fields #[.none, .bool false, .bool false, .ref (zH3 h l1 l2 l3).objs.size, .ref (zH4 h l1 l2 l3).objs.size] }
theorem meets_new3 (l1 l2 l3 : Addr) (xs ys zs : Array Value) :
    Meets (Builtin.«zip.__new__» ⟨[.type "zip", .ref l1, .ref l2, .ref l3], []⟩) (fun _ R s => s.heap.IsList l1 xs ∧ s.heap.IsList l2 ys ∧ s.heap.IsList l3 zs ∧
      R (.ok (.ret (.ref (zH5 s.heap l1 l2 l3).objs.size))) { s with heap := zH6 s.heap l1 l2 l3 }) :=
  .of_wp fun prog w A R s h => by
    obtain ⟨hp, g, d, tk, os⟩ := s; obtain ⟨hl1, hl2, hl3, h⟩ := h
    have hsub := sub_zip
    have hL1 : Heap.IsList (Shared.heap ⟨hp, g, d, tk, os⟩) l1 xs := hl1
    have hL2 : Heap.IsList (Shared.heap ⟨hp.push { cls := .type "list_iterator", data := .fields #[.ref l1, .int 0 0] }, g, d, tk, os⟩) l2 ys := Heap.IsList.push hl2 _
    have hL3 : Heap.IsList (Shared.heap ⟨(hp.push { cls := .type "list_iterator", data := .fields #[.ref l1, .int 0 0] }).push { cls := .type "list_iterator", data := .fields #[.ref l2, .int 0 0] }, g, d, tk, os⟩) l3 zs := Heap.IsList.push (Heap.IsList.push hl3 _) _
    wp_walk using wpAny_pyIter_list hL1, wpAny_pyIter_list hL2, wpAny_pyIter_list hL3
    exact ⟨_, rfl, h⟩
section
variable {prog : Program} {w : World} {A : Around} {E : Value → Shared → Prop} {s : Shared}
theorem call_zip_3 {l1 l2 l3 : Addr} {xs ys zs : Array Value} {Q : Value → Shared → Prop} (hl1 : s.heap.IsList l1 xs) (hl2 : s.heap.IsList l2 ys) (hl3 : s.heap.IsList l3 zs)
    (h : ∀ h', IsZip h' (s.heap.objs.size + 5) (s.heap.objs.size + 3) (s.heap.objs.size + 4) .none → IsTrip h' (s.heap.objs.size + 3) (.ref s.heap.objs.size) (.ref (s.heap.objs.size + 1)) (.ref (s.heap.objs.size + 2)) →
      IsTrip h' (s.heap.objs.size + 4) .none .none .none → h'.IsListIter s.heap.objs.size l1 0 → h'.IsListIter (s.heap.objs.size + 1) l2 0 → h'.IsListIter (s.heap.objs.size + 2) l3 0 →
      (∀ c o, s.heap.get? c = some o → h'.get? c = some o) → Q (.ref (s.heap.objs.size + 5)) { s with heap := h' }) :
    wpAny (model prog w) A (call (.type "zip") [.ref l1, .ref l2, .ref l3]) Q E s := by
  refine callType_new F.called_zip (by decide) (typeCall_zip_3 _ _ _) (newCall_zip_3 _ _ _) (fun obj => args_object_init_4 obj _ _ _) F.entry_zip_new
    (meets_new3 l1 l2 l3 xs ys zs) ⟨hl1, hl2, hl3, ?_⟩
  have z1 : (zH1 s.heap l1).objs.size = s.heap.objs.size + 1 := Heap.size_push ..
  have z2 : (zH2 s.heap l1 l2).objs.size = s.heap.objs.size + 2 := by rw [Heap.size_push, z1]
  have z3 : (zH3 s.heap l1 l2 l3).objs.size = s.heap.objs.size + 3 := by rw [Heap.size_push, z2]
  have z4 : (zH4 s.heap l1 l2 l3).objs.size = s.heap.objs.size + 4 := by rw [Heap.size_push, z3]
  have z5 : (zH5 s.heap l1 l2 l3).objs.size = s.heap.objs.size + 5 := by rw [Heap.size_push, z4]
  have g6 : (zH6 s.heap l1 l2 l3).get? (zH5 s.heap l1 l2 l3).objs.size = some _ := Heap.get?_push_size _ rfl
  have g5 : (zH6 s.heap l1 l2 l3).get? (zH4 s.heap l1 l2 l3).objs.size = some _ := Heap.get?_push_of_some _ (Heap.get?_push_size _ rfl)
  have g4 : (zH6 s.heap l1 l2 l3).get? (zH3 s.heap l1 l2 l3).objs.size = some _ := Heap.get?_push_of_some _ (Heap.get?_push_of_some _ (Heap.get?_push_size _ rfl))
  have g3 : (zH6 s.heap l1 l2 l3).get? (zH2 s.heap l1 l2).objs.size = some _ := Heap.get?_push_of_some _ (Heap.get?_push_of_some _ (Heap.get?_push_of_some _ (Heap.get?_push_size _ rfl)))
  have g2 : (zH6 s.heap l1 l2 l3).get? (zH1 s.heap l1).objs.size = some _ := Heap.get?_push_of_some _ (Heap.get?_push_of_some _ (Heap.get?_push_of_some _ (Heap.get?_push_of_some _ (Heap.get?_push_size _ rfl))))
  have g1 : (zH6 s.heap l1 l2 l3).get? s.heap.objs.size = some _ := Heap.get?_push_of_some _ (Heap.get?_push_of_some _ (Heap.get?_push_of_some _ (Heap.get?_push_of_some _ (Heap.get?_push_of_some _ (Heap.get?_push_size _ rfl)))))
  show _ ∧ _
  rw [z3, z4, z5] at g6
  rw [z4] at g5
  rw [z1, z2, z3] at g4
  rw [z2] at g3
  rw [z1] at g2
  rw [z5]
  exact ⟨⟨_, g6, rfl⟩, h _ g6 g4 g5 ⟨_, g1, rfl, rfl⟩ ⟨_, g2, rfl, rfl⟩ ⟨_, g3, rfl, rfl⟩ fun c o x =>
    Heap.get?_push_of_some _ (Heap.get?_push_of_some _ (Heap.get?_push_of_some _ (Heap.get?_push_of_some _ (Heap.get?_push_of_some _ (Heap.get?_push_of_some _ x)))))⟩
end
end Zip3
end
section
set_option Elab.async false
set_option linter.all false
set_option maxRecDepth 100000
set_option maxHeartbeats 4000000
namespace L2
open PySem PySem.Spec PyProof.Rows Zip3
def Itz3 (K : PySem.W.Frag) (a b c : Addr) : It :=
  ⟨fun i H => ∃ (xs ys zs : List V) (x y z : V), SqL K H a xs ∧ SqL K H b ys ∧ SqL K H c zs ∧ xs[i]? = some x ∧ ys[i]? = some y ∧ zs[i]? = some z,
    fun i H v H' => ∃ T x y z, v = .ref T ∧ H T = none ∧ H' = upd H T (.tup [x, y, z]) ∧ (∀ xs, SqL K H a xs → xs[i]? = some x) ∧ (∀ ys, SqL K H b ys → ys[i]? = some y) ∧ ∀ zs, SqL K H c zs → zs[i]? = some z,
    fun i H => ∃ xs : List V, SqL K H a xs ∧ xs.length ≤ i⟩
theorem turn_zip3 {P : Program} {w : World} {K : PySem.W.Frag} {elts : List Expr} {kk : Nat} {tpos : Pos} {n a b c z TI TO i1 i2 i3 : Addr} (D : Apart n z TI TO i1 i2 i3 a b c) :
    Turn P w K (.Tuple elts kk tpos) (Itz3 K a b c) [z, TI, TO, i1, i2, i3] z (fun i h => IsZip h z TI TO .none ∧ IsTrip h TI (.ref i1) (.ref i2) (.ref i3) ∧ (∃ x y v, IsTrip h TO x y v) ∧ h.IsListIter i1 a i ∧ h.IsListIter i2 b i ∧ h.IsListIter i3 c i) where
  mem := by simp
  obj := fun i h st q hq => by
    obtain ⟨hz, hTI, ⟨x, y, v, hTO⟩, ⟨o1, e1, _, d1⟩, ⟨o2, e2, _, d2⟩, ⟨o3, e3, _, d3⟩⟩ := st
    have e' : q = z ∨ q = TI ∨ q = TO ∨ q = i1 ∨ q = i2 ∨ q = i3 := by simpa using hq
    rcases e' with q | q | q | q | q | q
    · rw [q]; exact ⟨_, hz, fun v q => nomatch q⟩
    · rw [q]; exact ⟨_, hTI, fun v q => nomatch q⟩
    · rw [q]; exact ⟨_, hTO, fun v q => nomatch q⟩
    · rw [q]; exact ⟨o1, e1, fun v q => by rw [d1] at q; cases q⟩
    · rw [q]; exact ⟨o2, e2, fun v q => by rw [d2] at q; cases q⟩
    · rw [q]; exact ⟨o3, e3, fun v q => by rw [d3] at q; cases q⟩
  keep := fun i h h' st k => by
    obtain ⟨hz, hTI, ⟨x, y, v, hTO⟩, h1, h2, h3⟩ := st
    exact ⟨k z (by simp) _ hz, k TI (by simp) _ hTI, ⟨x, y, v, k TO (by simp) _ hTO⟩, h1.at fun o q => k i1 (by simp) o q, h2.at fun o q => k i2 (by simp) o q, h3.at fun o q => k i3 (by simp) o q⟩
  item := by
    intro X hP hw hK hc i pins s σ H E I hf st hg
    subst hP hw hK
    obtain ⟨hz, hTI, ⟨x0, y0, v0, hTO⟩, h1, h2, h3⟩ := st
    obtain ⟨xs, ys, zs, x, y, v, hqx, hqy, hqz, hx, hy, hv⟩ := hg
    obtain ⟨its, rv, p, _⟩ := I.list hqx
    obtain ⟨its2, rv2, p2, _⟩ := I.list hqy
    obtain ⟨its3, rv3, p3, _⟩ := I.list hqz
    obtain ⟨u, hu, ru⟩ := rv.get hx
    obtain ⟨u2, hu2, ru2⟩ := rv2.get hy
    obtain ⟨u3, hu3, ru3⟩ := rv3.get hv
    have hzl : z < s.heap.objs.size := Heap.lt_size hz
    refine pyNext_item3 D hz hTI hTO h1 h2 h3 p.isList p2.isList p3.isList (x := u) (y := u2) (v := u3) (by simpa using hu) (by simpa using hu2) (by simpa using hu3) fun h' z' TO' h1' h2' h3' hT hsz hk => ?_
    refine ⟨_, rfl, wpAny_letOwnedTupleGo_zip (s := { s with heap := h' }) z' fun h'' z'' sb => ?_⟩
    have hT2 : h''.get? s.heap.objs.size = some { cls := .type "tuple", data := .seq #[u, u2, u3] } := (sb.2 _ (Nat.ne_of_gt hzl)).trans hT
    have new : ObjOk X.prog X.w (upd H s.heap.objs.size (.tup [x, y, v])) h'' s.heap.objs.size (.tup [x, y, v]) :=
      ⟨by show 3 ≤ sizeLine; decide, [u, u2, u3], .cons ru (.cons ru2 (.cons ru3 .nil)), ⟨_, hT2, rfl, _, rfl⟩⟩
    have I1 : Inv X pins σ (upd H s.heap.objs.size (.tup [x, y, v])) { s with heap := h'' } :=
      I.turnedNew (t' := s.toks) (ch := [z, TI, TO, i1, i2, i3]) (fun c o hb q => (sb.2 c (fun q' => hb (by simp [q']))).trans (hk c o (fun q' => hb (by simp [q'])) (fun q' => hb (by simp [q'])) (fun q' => hb (by simp [q'])) (fun q' => hb (by simp [q'])) (fun q' => hb (by simp [q'])) q)) hf (Nat.le_refl _) new
    obtain ⟨E1, E2, E3, EI, EO, EZ, L1, L2, L3⟩ := id D
    have TIz : TI ≠ z := by rw [EI, EZ]; intro h; have := @Nat.add_left_cancel n 3 5 h; omega
    have TOz : TO ≠ z := by rw [EO, EZ]; intro h; have := @Nat.add_left_cancel n 4 5 h; omega
    have i1z : i1 ≠ z := by rw [E1, EZ]; intro h; have := @Nat.add_left_cancel n 0 5 h; omega
    have i2z : i2 ≠ z := by rw [E2, EZ]; intro h; have := @Nat.add_left_cancel n 1 5 h; omega
    have i3z : i3 ≠ z := by rw [E3, EZ]; intro h; have := @Nat.add_left_cancel n 2 5 h; omega
    have TITO : TI ≠ TO := by rw [EI, EO]; intro h; have := @Nat.add_left_cancel n 3 4 h; omega
    have TIi1 : TI ≠ i1 := by rw [EI, E1]; intro h; have := @Nat.add_left_cancel n 3 0 h; omega
    have TIi2 : TI ≠ i2 := by rw [EI, E2]; intro h; have := @Nat.add_left_cancel n 3 1 h; omega
    have TIi3 : TI ≠ i3 := by rw [EI, E3]; intro h; have := @Nat.add_left_cancel n 3 2 h; omega
    refine ⟨.ref s.heap.objs.size, _, I1, rfl, ⟨_, x, y, v, rfl, I.hok.fresh (Nat.le_refl _), rfl, fun l hl => by rw [I.list_inj hl hqx]; exact hx, fun l hl => by rw [I.list_inj hl hqy]; exact hy, fun l hl => by rw [I.list_inj hl hqz]; exact hv⟩, ⟨z'', ?_, ⟨u, u2, u3, ?_⟩, ?_, ?_, ?_⟩, fun c hcm => ?_⟩
    · exact (sb.2 _ TIz).trans (hk _ _ TIz TITO TIi1 TIi2 TIi3 hTI)
    · exact (sb.2 _ TOz).trans TO'
    · exact h1'.at fun o q => (sb.2 _ i1z).trans q
    · exact h2'.at fun o q => (sb.2 _ i2z).trans q
    · exact h3'.at fun o q => (sb.2 _ i3z).trans q
    · have hlt : c < s.heap.objs.size := by
        have e' : c = z ∨ c = TI ∨ c = TO ∨ c = i1 ∨ c = i2 ∨ c = i3 := by simpa using hcm
        rcases e' with q | q | q | q | q | q
        · rw [q]; exact hzl
        · rw [q]; exact Heap.lt_size hTI
        · rw [q]; exact Heap.lt_size hTO
        · rw [q]; obtain ⟨_, e1, _⟩ := h1; exact Heap.lt_size e1
        · rw [q]; obtain ⟨_, e2, _⟩ := h2; exact Heap.lt_size e2
        · rw [q]; obtain ⟨_, e3, _⟩ := h3; exact Heap.lt_size e3
      rw [upd_ne (Nat.ne_of_lt hlt)]
      exact (hf c hcm).1
  done := by
    intro X hP hw hK hc i pins s σ H E I hf st hg
    subst hP hw hK
    obtain ⟨hz, hTI, ⟨x0, y0, v0, hTO⟩, h1, h2, h3⟩ := st
    obtain ⟨xs, hqx, hend⟩ := hg
    obtain ⟨its, rv, p, _⟩ := I.list hqx
    have l1 := rv.length
    have he : its.toArray[i]? = none := by simp; omega
    exact pyNext_end3 (I.ok.hd hc) D hz hTI hTO h1 p.isList he fun h' hk => ⟨rfl, I.turnedL (t' := s.toks) (ch := [z, TI, TO, i1, i2, i3]) (fun c o hb q =>
      hk c o (fun q' => hb (by simp [q'])) (fun q' => hb (by simp [q'])) (fun q' => hb (by simp [q'])) q) hf⟩
  self := fun A i s Q E st h => wpAny_pyIter_zip st.1 h
def iZip3 (K : PySem.W.Frag) (ta : TA) : TI := fun σ H R => ta σ H fun vs H1 => ∃ a b c xs ys zs, vs = [.ref a, .ref b, .ref c] ∧ SqL K H1 a xs ∧ SqL K H1 b ys ∧ SqL K H1 c zs ∧ R (Itz3 K a b c) H1
theorem pi_zip3 {X : Cx} {e e2 e3 : Expr} {ta : TA} {p pos tpos : Pos} {elts : List Expr} {kk : Nat} (hg : Gl X "zip") (hm : X.mg "zip" = none) (ha : PA X [e, e2, e3] ta)
    (hs : starEach [e, e2, e3] X.env = (false, eval e X.env) :: starEach [e2, e3] X.env := by rfl) (hpl : (backTo pos (starEach [e2, e3] X.env)).any (·.1) = false := by rfl) :
    PI X (.Tuple elts kk tpos) (.Call (.Name "zip" p) [e, e2, e3] [] pos) (iZip3 X.K ta) := by
  intro pins s σ H R I h
  refine Call_ (ld_blt I hg hm boot_zip5 (PyProof.Rows.callWith_type1 (thn (ha pos pins s σ H _ I h) fun us s1 ⟨vs, H1, I1, r1, q1⟩ => ?_) hs hpl))
  obtain ⟨a, b, c, xs, ys, zs, ex, hqx, hqy, hqz, q⟩ := q1
  subst ex
  cases r1 with
  | cons r rr =>
    cases rr with
    | cons r' rr =>
      cases rr with
      | cons r'' rr =>
        cases rr
        cases r
        cases r'
        cases r''
        obtain ⟨its, rv, p1, _⟩ := I1.list hqx
        obtain ⟨its2, rv2, p2, _⟩ := I1.list hqy
        obtain ⟨its3, rv3, p3, _⟩ := I1.list hqz
        have la : a < s1.heap.objs.size := p1.lt
        have lb : b < s1.heap.objs.size := p2.lt
        have lc : c < s1.heap.objs.size := p3.lt
        refine call_zip_3 p1.isList p2.isList p3.isList fun h' hz hTI hTO h1 h2 h3 hk => wpAny_pyIter_zip hz ?_
        have I2 : Inv X pins σ H1 { s1 with heap := h' } := I1.kept (t' := s1.toks) hk
        refine ⟨s1.heap.objs.size + 5, [s1.heap.objs.size + 5, s1.heap.objs.size + 3, s1.heap.objs.size + 4, s1.heap.objs.size, s1.heap.objs.size + 1, s1.heap.objs.size + 2], _, _, H1, rfl, I2, turn_zip3 (n := s1.heap.objs.size) ⟨rfl, rfl, rfl, rfl, rfl, rfl, la, lb, lc⟩, ⟨hz, hTI, ⟨_, _, _, hTO⟩, h1, h2, h3⟩, fun c hcm => ?_, q⟩
        have e' : c = s1.heap.objs.size + 5 ∨ c = s1.heap.objs.size + 3 ∨ c = s1.heap.objs.size + 4 ∨ c = s1.heap.objs.size ∨ c = s1.heap.objs.size + 1 ∨ c = s1.heap.objs.size + 2 := by simpa using hcm
        have hle : s1.heap.objs.size ≤ c := by
          rcases e' with z | z | z | z | z | z
          · rw [z]; exact Nat.le_add_right _ _
          · rw [z]; exact Nat.le_add_right _ _
          · rw [z]; exact Nat.le_add_right _ _
          · rw [z]; exact Nat.le_refl _
          · rw [z]; exact Nat.le_add_right _ _
          · rw [z]; exact Nat.le_add_right _ _
        exact I1.fpOk hle (I1.hok.fresh hle)
theorem for_zip3 {K : PySem.W.Frag} {a b c : Addr} {xs ys zs : List V} {g : TG} {tb : TS} {D : Ends} {σ : St} {H : Hp} (Pv : Nat → St → Hp → Prop) (e1 : xs.length = ys.length) (e2 : xs.length = zs.length) (h0 : Pv 0 σ H)
    (hl : ∀ i σ H, i ≤ xs.length → Pv i σ H → SqL K H a xs ∧ SqL K H b ys ∧ SqL K H c zs)
    (hs : ∀ i x y z σ H T, xs[i]? = some x → ys[i]? = some y → zs[i]? = some z → Pv i σ H → H T = none → g (.ref T) σ (upd H T (.tup [x, y, z])) fun σ2 H2 => tb { D with nx := Pv (i + 1), ct := Pv (i + 1), bk := D.nx } σ2 H2) (hd : ∀ σ H, Pv xs.length σ H → D.nx σ H) :
    ∃ W : Nat → Nat → St → Hp → Prop, (∃ m, W 0 m σ H) ∧ ∀ i m σ H, W i m σ H →
      ((Itz3 K a b c).stop i H ∧ D.nx σ H) ∨ ((Itz3 K a b c).go i H ∧ ∃ N : St → Hp → Prop, (∀ σ' H', N σ' H' → ∃ m', m' < m ∧ W (i + 1) m' σ' H') ∧ ∀ x H', (Itz3 K a b c).yld i H x H' → g x σ H' fun σ2 H2 => tb { D with nx := N, ct := N, bk := D.nx } σ2 H2) := by
  refine ⟨fun i m σ H => m = xs.length - i ∧ i ≤ xs.length ∧ Pv i σ H, ⟨xs.length, by simp, Nat.zero_le _, h0⟩, ?_⟩
  rintro i m σ H ⟨rfl, hi, p⟩
  obtain ⟨q1, q2, q3⟩ := hl i σ H hi p
  by_cases hlt : i < xs.length
  · refine .inr ⟨⟨xs, ys, zs, xs[i], ys[i], zs[i], q1, q2, q3, by simp [hlt], by simp [← e1, hlt], by simp [← e2, hlt]⟩, Pv (i + 1), fun σ' H' p' => ⟨xs.length - (i + 1), by omega, rfl, hlt, p'⟩, fun x H' y => ?_⟩
    obtain ⟨T, x, y, z, rfl, hT, rfl, y1, y2, y3⟩ := y
    exact hs i x y z σ _ T (y1 xs q1) (y2 ys q2) (y3 zs q3) p hT
  · have e : i = xs.length := by omega
    subst e
    exact .inl ⟨⟨xs, q1, Nat.le_refl _⟩, hd σ H p⟩
end L2
end
section
set_option Elab.async false
set_option linter.all false
set_option maxRecDepth 100000
set_option maxHeartbeats 4000000
namespace Zip2
open PySem
inductive SK
  | l
  | t
def IsIt : SK → Heap → Addr → Addr → Nat → Prop
  | .l => fun h i a n => h.IsListIter i a n
  | .t => fun h i a n => h.IsTupleIter i a n
def IsSq : SK → Heap → Addr → Array Value → Prop
  | .l => fun h a xs => h.IsList a xs
  | .t => fun h a xs => h.IsTuple a xs
theorem IsIt.extBut {k : SK} {h h' : Heap} {a b l : Addr} {i : Nat} (x : IsIt k h a l i) (hs : Heap.ExtBut b h h') (hab : a ≠ b) : IsIt k h' a l i := by
  cases k with
  | l => exact Heap.IsListIter.extBut x hs hab
  | t => exact Heap.IsTupleIter.extBut x hs hab
theorem IsIt.at {k : SK} {h h' : Heap} {a l : Addr} {i : Nat} (x : IsIt k h a l i) (e : ∀ o, h.get? a = some o → h'.get? a = some o) : IsIt k h' a l i := by
  cases k with
  | l => exact Heap.IsListIter.at x e
  | t => exact Heap.IsTupleIter.at x e
theorem IsIt.obj {k : SK} {h : Heap} {a l : Addr} {i : Nat} (x : IsIt k h a l i) : ∃ o, h.get? a = some o ∧ o.data = .fields #[.ref l, .int i 0] := by
  cases k with
  | l => obtain ⟨o, e, _, d⟩ := x; exact ⟨o, e, d⟩
  | t => obtain ⟨o, e, _, d⟩ := x; exact ⟨o, e, d⟩
theorem IsSq.extBut {k : SK} {h h' : Heap} {a b : Addr} {xs : Array Value} (x : IsSq k h a xs) (hs : Heap.ExtBut b h h') (hab : a ≠ b) : IsSq k h' a xs := by
  cases k with
  | l => exact Heap.IsList.extBut x hs hab
  | t => exact Heap.IsTuple.extBut x hs hab
theorem IsSq.push {k : SK} {h : Heap} {a : Addr} {xs : Array Value} (x : IsSq k h a xs) (o : Obj) : IsSq k (h.push o) a xs := by
  cases k with
  | l => exact Heap.IsList.push x o
  | t => exact Heap.IsTuple.push x o
theorem IsSq.lt {k : SK} {h : Heap} {a : Addr} {xs : Array Value} (x : IsSq k h a xs) : a < h.objs.size := by
  cases k with
  | l => obtain ⟨o, e, _⟩ := x; exact Heap.lt_size e
  | t => obtain ⟨o, e, _⟩ := x; exact Heap.lt_size e
section
variable {prog : Program} {w : World} {A : Around} {E : Value → Shared → Prop} {s : Shared}
theorem nextT_item {it t : Addr} {i : Nat} {items} {x : Value} {Q : Value → Shared → Prop} (hit : s.heap.IsTupleIter it t i) (ht : s.heap.IsTuple t items) (hx : items[i]? = some x)
    (hQ : ∀ h', h'.IsTupleIter it t (i + 1) → Heap.SameBut it s.heap h' → Q x { s with heap := h' }) : wpAny (model prog w) A (Builtin.SmallTypes.nextOf (.ref it)) Q E s := by
  obtain ⟨o, ho, hc, hd⟩ := id hit
  obtain ⟨ol, hol, _, nl, hdl⟩ := ht
  unfold Builtin.SmallTypes.nextOf
  refine wpAny_bind (wpAny_callSpecial?_slot (name := Str.ofString "__next__") hit.typeIs F.slot_tuple_iterator_next (wpAny_call_entry F.slot_tuple_iterator_next hit.typeIs F.entry_tuple_iterator_next ?_ (F.args_tuple_iterator_next_1 _)))
  show wpAny _ _ (field (.ref it) 0 >>= _) _ _ s
  refine wpAny_bind (wpAny_field ho hd (x := .ref t) rfl ?_)
  show wpAny _ _ (if (Value.ref t == Value.none) = true then _ else _) _ _ s
  rw [if_neg (show ¬ ((Value.ref t == Value.none) = true) from Bool.false_ne_true)]
  show wpAny _ _ (field (.ref it) 1 >>= _) _ _ s
  refine wpAny_bind (wpAny_field ho hd (x := .int i 0) rfl ?_)
  show wpAny _ _ (seqItems? (.ref t) >>= _) _ _ s
  refine wpAny_bind (wpAny_seqItems hol hdl ?_)
  simp only [Int.toNat_natCast, hx]
  refine wpAny_bind (wpAny_setField ho hd (by simp) (wpAny_pure ⟨x, rfl, wpAny_pure (hQ _ ?_ (Heap.SameBut.update ..))⟩))
  exact ⟨_, Heap.get?_update_self _ ho (Obj.isFreed_of_fields (Obj.data_mapFields hd _)), (Obj.cls_mapFields ..).trans hc, by rw [Obj.data_mapFields hd]; simp [rawInt]⟩
theorem nextT_end {it t : Addr} {i : Nat} {items} {Q : Value → Shared → Prop} (hh : A.handled = none) (hit : s.heap.IsTupleIter it t i) (ht : s.heap.IsTuple t items) (hx : items[i]? = none)
    (hE : ∀ h' e, Heap.ExtBut it s.heap h' → (∃ o, h'.get? e = some o ∧ o.cls = .type "StopIteration") → E (.ref e) { s with heap := h' }) : wpAny (model prog w) A (Builtin.SmallTypes.nextOf (.ref it)) Q E s := by
  obtain ⟨o, ho, hc, hd⟩ := id hit
  obtain ⟨ol, hol, _, nl, hdl⟩ := ht
  unfold Builtin.SmallTypes.nextOf
  refine wpAny_bind (wpAny_callSpecial?_slot (name := Str.ofString "__next__") hit.typeIs F.slot_tuple_iterator_next (wpAny_call_entry F.slot_tuple_iterator_next hit.typeIs F.entry_tuple_iterator_next ?_ (F.args_tuple_iterator_next_1 _)))
  show wpAny _ _ (field (.ref it) 0 >>= _) _ _ s
  refine wpAny_bind (wpAny_field ho hd (x := .ref t) rfl ?_)
  show wpAny _ _ (if (Value.ref t == Value.none) = true then _ else _) _ _ s
  rw [if_neg (show ¬ ((Value.ref t == Value.none) = true) from Bool.false_ne_true)]
  show wpAny _ _ (field (.ref it) 1 >>= _) _ _ s
  refine wpAny_bind (wpAny_field ho hd (x := .int i 0) rfl ?_)
  show wpAny _ _ (seqItems? (.ref t) >>= _) _ _ s
  refine wpAny_bind (wpAny_seqItems hol hdl ?_)
  simp only [Int.toNat_natCast, hx]
  refine wpAny_bind (wpAny_rule (wpAny_bind (wpAny_setField ho hd (by simp) ?_)))
  show wpAny _ _ (newExc (.type "StopIteration") [] >>= _) _ _ _
  refine wpAny_bind ?_
  simp only [newExc, newTuple]
  refine wpAny_bind (wpAny_newObj_type ?_ (by size_fits))
  refine wpAny_bind (m := firstArgMember _ _) (wpAny_of_eq (a := Value.none) (by first | rfl | (simp only [firstArgMember]; rfl)) ?_)
  refine wpAny_newObj_type ?_ (by size_fits)
  simp only [raiseNew]
  refine wpAny_bind (wpAny_handled ?_)
  first | rw [show A.in1.handled = none from hh] | rw [hh]
  refine wpAny_bind (wpAny_pure (wpAny_throw ?_))
  exact hE _ _ (((Heap.SameBut.update ..).extBut.push _).push _) ⟨_, Heap.get?_push_size _ rfl, rfl⟩
theorem next_item {k : SK} {it t : Addr} {i : Nat} {items} {x : Value} {Q : Value → Shared → Prop} (hit : IsIt k s.heap it t i) (ht : IsSq k s.heap t items) (hx : items[i]? = some x)
    (hQ : ∀ h', IsIt k h' it t (i + 1) → Heap.SameBut it s.heap h' → Q x { s with heap := h' }) : wpAny (model prog w) A (Builtin.SmallTypes.nextOf (.ref it)) Q E s := by
  cases k with
  | l => exact wpAny_nextOf_list_item hit ht hx hQ
  | t => exact nextT_item hit ht hx hQ
theorem next_end {k : SK} {it t : Addr} {i : Nat} {items} {Q : Value → Shared → Prop} (hh : A.handled = none) (hit : IsIt k s.heap it t i) (ht : IsSq k s.heap t items) (hx : items[i]? = none)
    (hE : ∀ h' e, Heap.ExtBut it s.heap h' → (∃ o, h'.get? e = some o ∧ o.cls = .type "StopIteration") → E (.ref e) { s with heap := h' }) : wpAny (model prog w) A (Builtin.SmallTypes.nextOf (.ref it)) Q E s := by
  cases k with
  | l => exact wpAny_nextOf_list_end hh hit ht hx hE
  | t => exact nextT_end hh hit ht hx hE
variable {k k2 : SK}
theorem item2 {z TI TO i1 i2 l1 l2 : Addr} {n : Nat} {xs ys : Array Value} {x y a b : Value} {Q : Value → Shared → Prop} (D : ZipApart z TI TO i1 i2 l1 l2)
    (hz : IsZip s.heap z TI TO .none) (hTI : IsPair s.heap TI (.ref i1) (.ref i2)) (hTO : IsPair s.heap TO a b)
    (h1 : IsIt k s.heap i1 l1 n) (h2 : IsIt k2 s.heap i2 l2 n) (hl1 : IsSq k s.heap l1 xs) (hl2 : IsSq k2 s.heap l2 ys) (hx : xs[n]? = some x) (hy : ys[n]? = some y)
    (hQ : ∀ h', IsZip h' z TI TO (rawInt s.heap.objs.size) → IsPair h' TO x y → IsIt k h' i1 l1 (n + 1) → IsIt k2 h' i2 l2 (n + 1) → IsPair h' s.heap.objs.size x y → h'.objs.size = s.heap.objs.size + 1 →
      (∀ c o, c ≠ z → c ≠ TO → c ≠ i1 → c ≠ i2 → s.heap.get? c = some o → h'.get? c = some o) → Q (.ref s.heap.objs.size) { s with heap := h' }) :
    wpAny (model prog w) A (Builtin.«zip.__next__» ⟨[.ref z], []⟩) (fun fin s' => ∃ v, fin = .done (.ret v) ∧ Q v s') E s := by
  show wpAny _ _ (field (.ref z) 2 >>= _) _ _ _
  refine wpAny_bind (wpAny_field hz rfl (x := .bool false) rfl ?_)
  show wpAny _ _ (field (.ref z) 3 >>= _) _ _ _
  refine wpAny_bind (wpAny_field hz rfl (x := .ref TI) rfl ?_)
  refine wpAny_bind (wpAny_seqItems hTI rfl ?_)
  show wpAny _ _ (Builtin.SmallTypes.ownedTupleIsFree (.ref z) >>= _) _ _ _
  refine wpAny_bind ?_
  unfold Builtin.SmallTypes.ownedTupleIsFree
  refine wpAny_bind (wpAny_field hz rfl (x := .none) rfl (wpAny_pure ?_))
  simp only [if_true]
  refine wpAny_bind (wpAny_rule ?_)
  refine wpAny_bind (wpAny_field hz rfl (x := .ref TO) rfl ?_)
  refine wpAny_bind (wpAny_setField_rec hz (by simp) fun hA hzA hsA => ?_)
  replace hzA : IsZip hA z TI TO .ellipsis := hzA
  refine wpAny_bind ?_
  simp only [List.zipIdx_cons, List.zipIdx_nil, List.forIn_cons, List.forIn_nil]
  refine wpAny_bind (wpAny_bind (wpAny_onRaise ?_))
  show wpAny _ _ (Builtin.SmallTypes.nextOf (.ref i1) >>= _) _ _ _
  refine wpAny_bind (next_item (h1.extBut hsA.extBut D.i1z) (hl1.extBut hsA.extBut D.l1z) hx fun hB h1B hsB => wpAny_pure ?_)
  have hTOB : IsPair hB TO a b := hsB.extBut _ _ D.TOi1 (hsA.extBut _ _ D.TOz hTO)
  refine wpAny_bind (wpAny_seqItems hTOB rfl ?_)
  refine wpAny_bind (wpAny_updateSeq_pair hTOB fun hC hTOC hsC => ?_)
  replace hTOC : IsPair hC TO x b := hTOC
  refine wpAny_bind (wpAny_letGo (wpAny_pure ?_))
  refine wpAny_bind (wpAny_bind (wpAny_onRaise ?_))
  show wpAny _ _ (Builtin.SmallTypes.nextOf (.ref i2) >>= _) _ _ _
  refine wpAny_bind (next_item (((h2.extBut hsA.extBut D.i2z).extBut hsB.extBut D.i12.symm).extBut hsC.extBut D.TOi2.symm) (((hl2.extBut hsA.extBut D.l2z).extBut hsB.extBut D.l2i1).extBut hsC.extBut D.l2TO) hy fun hD h2D hsD => wpAny_pure ?_)
  have hTOD : IsPair hD TO x b := hsD.extBut _ _ D.TOi2 hTOC
  refine wpAny_bind (wpAny_seqItems hTOD rfl ?_)
  refine wpAny_bind (wpAny_updateSeq_pair hTOD fun hG hTOG hsG => ?_)
  replace hTOG : IsPair hG TO x y := hTOG
  refine wpAny_bind (wpAny_letGo (wpAny_pure (wpAny_pure ?_)))
  refine wpAny_bind (wpAny_seqItems hTOG rfl ?_)
  refine wpAny_bind (wpAny_newTuple ?_)
  have hsz : hG.objs.size = s.heap.objs.size := by rw [hsG.1, hsD.1, hsC.1, hsB.1, hsA.1]
  have hzG : IsZip hG z TI TO .ellipsis := hsG.extBut _ _ D.TOz.symm (hsD.extBut _ _ D.i2z.symm (hsC.extBut _ _ D.TOz.symm (hsB.extBut _ _ D.i1z.symm hzA)))
  have hkG : ∀ c o, c ≠ z → c ≠ TO → c ≠ i1 → c ≠ i2 → s.heap.get? c = some o → hG.get? c = some o := fun c o c1 c2 c3 c4 e => hsG.extBut _ _ c2 (hsD.extBut _ _ c4 (hsC.extBut _ _ c2 (hsB.extBut _ _ c3 (hsA.extBut _ _ c1 e))))
  have h1G : IsIt k hG i1 l1 (n + 1) := ((h1B.extBut hsC.extBut D.TOi1.symm).extBut hsD.extBut D.i12).extBut hsG.extBut D.TOi1.symm
  have h2G : IsIt k2 hG i2 l2 (n + 1) := h2D.extBut hsG.extBut D.TOi2.symm
  have hzlt : z < hG.objs.size := Heap.lt_size hzG
  show wpAny _ _ (Builtin.SmallTypes.ownedTupleHandOut (.ref z) (.ref hG.objs.size) >>= _) _ _ _
  refine wpAny_bind ?_
  unfold Builtin.SmallTypes.ownedTupleHandOut
  have hz6 : IsZip (hG.push { cls := .type "tuple", data := .seq #[x, y] }) z TI TO .ellipsis := Heap.get?_push_of_some _ hzG
  refine wpAny_bind (wpAny_setField_rec hz6 (by simp) fun h7 hz7 hs7 => ?_)
  replace hz7 : IsZip h7 z TI TO (rawInt hG.objs.size) := hz7
  refine wpAny_setField_rec hz7 (by simp) fun h8 hz8 hs8 => ?_
  replace hz8 : IsZip h8 z TI TO (rawInt hG.objs.size) := hz8
  have up : ∀ c o, c ≠ z → hG.get? c = some o → h8.get? c = some o := fun c o c1 e => hs8.extBut _ _ c1 (hs7.extBut _ _ c1 (Heap.get?_push_of_some _ e))
  have hT8 : IsPair h8 hG.objs.size x y := hs8.extBut _ _ (Nat.ne_of_gt hzlt) (hs7.extBut _ _ (Nat.ne_of_gt hzlt) (Heap.get?_push_size _ rfl))
  have hzz : h8.objs.size = hG.objs.size + 1 := by rw [hs8.1, hs7.1, Heap.size_push]
  rw [hsz] at hz8 hT8 hzz
  refine wpAny_pure ⟨_, rfl, ?_⟩
  show Q (.ref hG.objs.size) _
  rw [hsz]
  exact hQ h8 hz8 (up _ _ D.TOz hTOG) (h1G.at fun o e => up _ o D.i1z e) (h2G.at fun o e => up _ o D.i2z e) hT8 hzz fun c o c1 c2 c3 c4 e => up c o c1 (hkG c o c1 c2 c3 c4 e)
/-- the first one's end -/
theorem end2 {z TI TO i1 i2 l1 l2 : Addr} {n : Nat} {xs : Array Value} {a b : Value} {Q : Fin → Shared → Prop} (hh : A.handled = none) (D : ZipApart z TI TO i1 i2 l1 l2)
    (hz : IsZip s.heap z TI TO .none) (hTI : IsPair s.heap TI (.ref i1) (.ref i2)) (hTO : IsPair s.heap TO a b) (h1 : IsIt k s.heap i1 l1 n) (hl1 : IsSq k s.heap l1 xs) (hx : xs[n]? = none)
    (hE : ∀ h' e, (∀ c o, c ≠ z → c ≠ TO → c ≠ i1 → s.heap.get? c = some o → h'.get? c = some o) → (∃ o, h'.get? e = some o ∧ o.cls = .type "StopIteration") → E (.ref e) { s with heap := h' }) :
    wpAny (model prog w) A (Builtin.«zip.__next__» ⟨[.ref z], []⟩) Q E s := by
  show wpAny _ _ (field (.ref z) 2 >>= _) _ _ _
  refine wpAny_bind (wpAny_field hz rfl (x := .bool false) rfl ?_)
  show wpAny _ _ (field (.ref z) 3 >>= _) _ _ _
  refine wpAny_bind (wpAny_field hz rfl (x := .ref TI) rfl ?_)
  refine wpAny_bind (wpAny_seqItems hTI rfl ?_)
  show wpAny _ _ (Builtin.SmallTypes.ownedTupleIsFree (.ref z) >>= _) _ _ _
  refine wpAny_bind ?_
  unfold Builtin.SmallTypes.ownedTupleIsFree
  refine wpAny_bind (wpAny_field hz rfl (x := .none) rfl (wpAny_pure ?_))
  simp only [if_true]
  refine wpAny_bind (wpAny_rule ?_)
  refine wpAny_bind (wpAny_field hz rfl (x := .ref TO) rfl ?_)
  refine wpAny_bind (wpAny_setField_rec hz (by simp) fun hA hzA hsA => ?_)
  replace hzA : IsZip hA z TI TO .ellipsis := hzA
  refine wpAny_bind ?_
  simp only [List.zipIdx_cons, List.zipIdx_nil, List.forIn_cons, List.forIn_nil]
  refine wpAny_bind (wpAny_bind (wpAny_onRaise ?_))
  show wpAny _ _ (Builtin.SmallTypes.nextOf (.ref i1) >>= _) _ _ _
  refine wpAny_bind (next_end hh (h1.extBut hsA.extBut D.i1z) (hl1.extBut hsA.extBut D.l1z) hx fun h2 e hs2 he => ?_)
  obtain ⟨oe, hoe, hce⟩ := he
  have hz2 : IsZip h2 z TI TO .ellipsis := hs2 _ _ D.i1z.symm hzA
  have hez : e ≠ z := fun x => by subst x; rw [hz2] at hoe; cases hoe; simp at hce
  refine wpAny_setField_rec hz2 (by simp) fun h3 _ hs3 => hE h3 e (fun c o c1 _ c3 x => hs3.extBut _ _ c1 (hs2 _ _ c3 (hsA.extBut _ _ c1 x))) ⟨oe, hs3.extBut _ _ hez hoe, hce⟩
theorem pyNext_item2 {z TI TO i1 i2 l1 l2 : Addr} {n : Nat} {xs ys : Array Value} {x y a b : Value} {Q : Option Value → Shared → Prop} (D : ZipApart z TI TO i1 i2 l1 l2)
    (hz : IsZip s.heap z TI TO .none) (hTI : IsPair s.heap TI (.ref i1) (.ref i2)) (hTO : IsPair s.heap TO a b)
    (h1 : IsIt k s.heap i1 l1 n) (h2 : IsIt k2 s.heap i2 l2 n) (hl1 : IsSq k s.heap l1 xs) (hl2 : IsSq k2 s.heap l2 ys) (hx : xs[n]? = some x) (hy : ys[n]? = some y)
    (hQ : ∀ h', IsZip h' z TI TO (rawInt s.heap.objs.size) → IsPair h' TO x y → IsIt k h' i1 l1 (n + 1) → IsIt k2 h' i2 l2 (n + 1) → IsPair h' s.heap.objs.size x y → h'.objs.size = s.heap.objs.size + 1 →
      (∀ c o, c ≠ z → c ≠ TO → c ≠ i1 → c ≠ i2 → s.heap.get? c = some o → h'.get? c = some o) → Q (some (.ref s.heap.objs.size)) { s with heap := h' }) :
    wpAny (model prog w) A (pyNext (.ref z)) Q E s := by
  have hT : s.TypeIs (.ref z) "zip" := ⟨_, hz, rfl⟩
  unfold pyNext
  exact wpAny_bind (wpAny_attempt (wpAny_callSpecial?_slot (name := Str.ofString "__next__") hT F.slot_zip_next (wpAny_call_entry F.slot_zip_next hT F.entry_zip_next
    (item2 D hz hTI hTO h1 h2 hl1 hl2 hx hy fun h' a1 a2 a3 a4 a5 a6 a7 => wpAny_pure (hQ h' a1 a2 a3 a4 a5 a6 a7)) (F.args_zip_next_1 _))))
theorem pyNext_end2 {z TI TO i1 i2 l1 l2 : Addr} {n : Nat} {xs : Array Value} {a b : Value} {Q : Option Value → Shared → Prop} (hh : A.handled = none) (D : ZipApart z TI TO i1 i2 l1 l2)
    (hz : IsZip s.heap z TI TO .none) (hTI : IsPair s.heap TI (.ref i1) (.ref i2)) (hTO : IsPair s.heap TO a b) (h1 : IsIt k s.heap i1 l1 n) (hl1 : IsSq k s.heap l1 xs) (hx : xs[n]? = none)
    (hQ : ∀ h', (∀ c o, c ≠ z → c ≠ TO → c ≠ i1 → s.heap.get? c = some o → h'.get? c = some o) → Q none { s with heap := h' }) : wpAny (model prog w) A (pyNext (.ref z)) Q E s := by
  have hT : s.TypeIs (.ref z) "zip" := ⟨_, hz, rfl⟩
  unfold pyNext
  refine wpAny_bind (wpAny_attempt (wpAny_callSpecial?_slot (name := Str.ofString "__next__") hT F.slot_zip_next
    (wpAny_call_entry F.slot_zip_next hT F.entry_zip_next (end2 hh D hz hTI hTO h1 hl1 hx fun h' e hk he => ?_) (F.args_zip_next_1 _))))
  obtain ⟨o, ho, hc⟩ := he
  refine wpAny_bind (wpAny_isInstance (T := "StopIteration") (b := true) ⟨o, ho, hc⟩ isSubtype_stop ?_)
  exact wpAny_pure (hQ _ hk)
end
def itObj : SK → Addr → Obj
  | .l => fun l => { cls := .type "list_iterator", data := .fields #[.ref l, .int 0 0] }
  | .t => fun l => { cls := .type "tuple_iterator", data := .fields #[.ref l, .int 0 0] }
theorem iter_of {prog : Program} {w : World} {A : Around} {E : Value → Shared → Prop} {s : Shared} {k : SK} {t : Addr} {items} {Q : Value → Shared → Prop} (ht : IsSq k s.heap t items)
    (hQ : Q (.ref s.heap.objs.size) { s with heap := s.heap.push (itObj k t) }) : wpAny (model prog w) A (pyIter (.ref t)) Q E s := by
  cases k with
  | l => exact wpAny_pyIter_list ht hQ
  | t => exact wpAny_pyIter_tuple ht hQ
theorem itObj_at {k : SK} {h : Heap} {a l : Addr} (e : h.get? a = some (itObj k l)) : IsIt k h a l 0 := by
  cases k with
  | l => exact ⟨_, e, rfl, rfl⟩
  | t => exact ⟨_, e, rfl, rfl⟩
theorem itObj_free (k : SK) (l : Addr) : (itObj k l).isFreed = false := by
  cases k <;> rfl
abbrev zP1 (k : SK) (h : Heap) (l1 : Addr) : Heap := h.push (itObj k l1)
abbrev zP2 (k k2 : SK) (h : Heap) (l1 l2 : Addr) : Heap := (zP1 k h l1).push (itObj k2 l2)
abbrev zP3 (k k2 : SK) (h : Heap) (l1 l2 : Addr) : Heap := (zP2 k k2 h l1 l2).push { cls := .type "tuple", data := .seq #[.ref h.objs.size, .ref (zP1 k h l1).objs.size] }
abbrev zP4 (k k2 : SK) (h : Heap) (l1 l2 : Addr) : Heap := (zP3 k k2 h l1 l2).push { cls := .type "tuple", data := .seq #[.none, .none] }
abbrev zP5 (k k2 : SK) (h : Heap) (l1 l2 : Addr) : Heap := (zP4 k k2 h l1 l2).push { cls := .type "zip", data := .fields #[.none, .bool false, .bool false, .ref (zP2 k k2 h l1 l2).objs.size, .ref (zP3 k k2 h l1 l2).objs.size] }
theorem meets_new2 (k k2 : SK) (l1 l2 : Addr) (xs ys : Array Value) :
    Meets (Builtin.«zip.__new__» ⟨[.type "zip", .ref l1, .ref l2], []⟩) (fun _ R s => IsSq k s.heap l1 xs ∧ IsSq k2 s.heap l2 ys ∧
      R (.ok (.ret (.ref (zP4 k k2 s.heap l1 l2).objs.size))) { s with heap := zP5 k k2 s.heap l1 l2 }) :=
  .of_wp fun prog w A R s h => by
    obtain ⟨hp, g, d, tk, os⟩ := s; obtain ⟨hl1, hl2, h⟩ := h
    have hsub := sub_zip
    have hL1 : IsSq k (Shared.heap ⟨hp, g, d, tk, os⟩) l1 xs := hl1
    have hL2 : IsSq k2 (Shared.heap ⟨hp.push (itObj k l1), g, d, tk, os⟩) l2 ys := IsSq.push hl2 _
    wp_walk using iter_of hL1, iter_of hL2
    exact ⟨_, rfl, h⟩
theorem call_two {prog : Program} {w : World} {A : Around} {E : Value → Shared → Prop} {s : Shared} {k k2 : SK} {l1 l2 : Addr} {xs ys : Array Value} {Q : Value → Shared → Prop} (hl1 : IsSq k s.heap l1 xs) (hl2 : IsSq k2 s.heap l2 ys)
    (h : ∀ h', IsZip h' (s.heap.objs.size + 4) (s.heap.objs.size + 2) (s.heap.objs.size + 3) .none → IsPair h' (s.heap.objs.size + 2) (.ref s.heap.objs.size) (.ref (s.heap.objs.size + 1)) →
      IsPair h' (s.heap.objs.size + 3) .none .none → IsIt k h' s.heap.objs.size l1 0 → IsIt k2 h' (s.heap.objs.size + 1) l2 0 → (∀ c o, s.heap.get? c = some o → h'.get? c = some o) → Q (.ref (s.heap.objs.size + 4)) { s with heap := h' }) :
    wpAny (model prog w) A (call (.type "zip") [.ref l1, .ref l2]) Q E s := by
  refine callType_new F.called_zip (by decide) (F.typeCall_zip_2 _ _) (F.newCall_zip_2 _ _) (fun obj => F.args_object_init_3 obj _ _) F.entry_zip_new (meets_new2 k k2 l1 l2 xs ys) ⟨hl1, hl2, ?_⟩
  have z1 : (zP1 k s.heap l1).objs.size = s.heap.objs.size + 1 := Heap.size_push ..
  have z2 : (zP2 k k2 s.heap l1 l2).objs.size = s.heap.objs.size + 2 := by rw [Heap.size_push, z1]
  have z3 : (zP3 k k2 s.heap l1 l2).objs.size = s.heap.objs.size + 3 := by rw [Heap.size_push, z2]
  have z4 : (zP4 k k2 s.heap l1 l2).objs.size = s.heap.objs.size + 4 := by rw [Heap.size_push, z3]
  have g5 : (zP5 k k2 s.heap l1 l2).get? (zP4 k k2 s.heap l1 l2).objs.size = some _ := Heap.get?_push_size _ rfl
  have g4 : (zP5 k k2 s.heap l1 l2).get? (zP3 k k2 s.heap l1 l2).objs.size = some _ := Heap.get?_push_of_some _ (Heap.get?_push_size _ rfl)
  have g3 : (zP5 k k2 s.heap l1 l2).get? (zP2 k k2 s.heap l1 l2).objs.size = some _ := Heap.get?_push_of_some _ (Heap.get?_push_of_some _ (Heap.get?_push_size _ rfl))
  have g2 : (zP5 k k2 s.heap l1 l2).get? (zP1 k s.heap l1).objs.size = some (itObj k2 l2) := Heap.get?_push_of_some _ (Heap.get?_push_of_some _ (Heap.get?_push_of_some _ (Heap.get?_push_size _ (itObj_free _ _))))
  have g1 : (zP5 k k2 s.heap l1 l2).get? s.heap.objs.size = some (itObj k l1) := Heap.get?_push_of_some _ (Heap.get?_push_of_some _ (Heap.get?_push_of_some _ (Heap.get?_push_of_some _ (Heap.get?_push_size _ (itObj_free _ _)))))
  show _ ∧ _
  rw [z2, z3, z4] at g5
  rw [z1, z2] at g3
  rw [z3] at g4
  rw [z1] at g2
  rw [z4]
  exact ⟨⟨_, g5, rfl⟩, h _ g5 g3 g4 (itObj_at g1) (itObj_at g2) fun c o x => Heap.get?_push_of_some _ (Heap.get?_push_of_some _ (Heap.get?_push_of_some _ (Heap.get?_push_of_some _ (Heap.get?_push_of_some _ x))))⟩
end Zip2
end
section
set_option Elab.async false
set_option linter.all false
set_option maxRecDepth 100000
set_option maxHeartbeats 4000000
namespace L2
open PySem PySem.Spec PyProof.Rows Zip2
def Sq : SK → PySem.W.Frag → Hp → Addr → List V → Prop
  | .l => SqL
  | .t => SqT
theorem Inv.sq {X : Cx} {pins : List (Addr × Obj)} {σ : St} {H : Hp} {s : Shared} {a : Addr} {xs : List V} {k : SK} (I : Inv X pins σ H s) (h : Sq k X.K H a xs) : ∃ its : List Value, Vals xs its ∧ IsSq k s.heap a its.toArray := by
  cases k with
  | l => obtain ⟨its, r, p, _⟩ := I.list h; exact ⟨its, r, p.isList⟩
  | t => obtain ⟨its, r, p, _⟩ := I.tuple h; exact ⟨its, r, p⟩
theorem Inv.sq_inj {X : Cx} {pins : List (Addr × Obj)} {σ : St} {H : Hp} {s : Shared} {a : Addr} {xs ys : List V} {k : SK} (I : Inv X pins σ H s) (h : Sq k X.K H a xs) (h' : Sq k X.K H a ys) : xs = ys := by
  cases k with
  | l => exact I.list_inj h h'
  | t => exact I.tuple_inj h h'
def Itz2 (k k2 : SK) (K : PySem.W.Frag) (a b : Addr) : It :=
  ⟨fun i H => ∃ (xs ys : List V) (x y : V), Sq k K H a xs ∧ Sq k2 K H b ys ∧ xs[i]? = some x ∧ ys[i]? = some y,
    fun i H v H' => ∃ T x y, v = .ref T ∧ H T = none ∧ H' = upd H T (.tup [x, y]) ∧ (∀ xs, Sq k K H a xs → xs[i]? = some x) ∧ ∀ ys, Sq k2 K H b ys → ys[i]? = some y,
    fun i H => ∃ xs : List V, Sq k K H a xs ∧ xs.length ≤ i⟩
theorem turn_zip2 {P : Program} {w : World} {K : PySem.W.Frag} {k k2 : SK} {elts : List Expr} {kk : Nat} {tpos : Pos} {a b z TI TO i1 i2 : Addr} (D : ZipApart z TI TO i1 i2 a b) :
    Turn P w K (.Tuple elts kk tpos) (Itz2 k k2 K a b) [z, TI, TO, i1, i2] z (fun i h => IsZip h z TI TO .none ∧ IsPair h TI (.ref i1) (.ref i2) ∧ (∃ x y, IsPair h TO x y) ∧ IsIt k h i1 a i ∧ IsIt k2 h i2 b i) where
  mem := by simp
  obj := fun i h st c hc => by
    obtain ⟨hz, hTI, ⟨x, y, hTO⟩, h1, h2⟩ := st
    obtain ⟨o1, e1, d1⟩ := h1.obj
    obtain ⟨o2, e2, d2⟩ := h2.obj
    have e' : c = z ∨ c = TI ∨ c = TO ∨ c = i1 ∨ c = i2 := by simpa using hc
    rcases e' with q | q | q | q | q
    · rw [q]; exact ⟨_, hz, fun v q => nomatch q⟩
    · rw [q]; exact ⟨_, hTI, fun v q => nomatch q⟩
    · rw [q]; exact ⟨_, hTO, fun v q => nomatch q⟩
    · rw [q]; exact ⟨o1, e1, fun v q => by rw [d1] at q; cases q⟩
    · rw [q]; exact ⟨o2, e2, fun v q => by rw [d2] at q; cases q⟩
  keep := fun i h h' st k => by
    obtain ⟨hz, hTI, ⟨x, y, hTO⟩, h1, h2⟩ := st
    exact ⟨k z (by simp) _ hz, k TI (by simp) _ hTI, ⟨x, y, k TO (by simp) _ hTO⟩, h1.at fun o q => k i1 (by simp) o q, h2.at fun o q => k i2 (by simp) o q⟩
  item := by
    intro X hP hw hK hc i pins s σ H E I hf st hg
    subst hP hw hK
    obtain ⟨hz, hTI, ⟨x0, y0, hTO⟩, h1, h2⟩ := st
    obtain ⟨xs, ys, x, y, hqx, hqy, hx, hy⟩ := hg
    obtain ⟨its, rv, p⟩ := I.sq hqx
    obtain ⟨its2, rv2, p2⟩ := I.sq hqy
    obtain ⟨u, hu, ru⟩ := rv.get hx
    obtain ⟨u2, hu2, ru2⟩ := rv2.get hy
    have hzl : z < s.heap.objs.size := Heap.lt_size hz
    refine pyNext_item2 D hz hTI hTO h1 h2 p p2 (x := u) (y := u2) (by simpa using hu) (by simpa using hu2) fun h' z' TO' h1' h2' hT hsz hk => ?_
    refine ⟨_, rfl, wpAny_letOwnedTupleGo_zip (s := { s with heap := h' }) z' fun h'' z'' sb => ?_⟩
    have hT2 : h''.get? s.heap.objs.size = some { cls := .type "tuple", data := .seq #[u, u2] } := (sb.2 _ (Nat.ne_of_gt hzl)).trans hT
    have new : ObjOk X.prog X.w (upd H s.heap.objs.size (.tup [x, y])) h'' s.heap.objs.size (.tup [x, y]) :=
      ⟨by show 2 ≤ sizeLine; decide, [u, u2], .cons ru (.cons ru2 .nil), ⟨_, hT2, rfl, _, rfl⟩⟩
    have I1 : Inv X pins σ (upd H s.heap.objs.size (.tup [x, y])) { s with heap := h'' } :=
      I.turnedNew (t' := s.toks) (ch := [z, TI, TO, i1, i2]) (fun c o hb q => (sb.2 c (fun q' => hb (by simp [q']))).trans (hk c o (fun q' => hb (by simp [q'])) (fun q' => hb (by simp [q'])) (fun q' => hb (by simp [q'])) (fun q' => hb (by simp [q'])) q)) hf (Nat.le_refl _) new
    obtain ⟨o1, e1, _⟩ := h1.obj
    obtain ⟨o2, e2, _⟩ := h2.obj
    refine ⟨.ref s.heap.objs.size, _, I1, rfl, ⟨_, x, y, rfl, I.hok.fresh (Nat.le_refl _), rfl, fun l hl => by rw [I.sq_inj hl hqx]; exact hx, fun l hl => by rw [I.sq_inj hl hqy]; exact hy⟩, ⟨z'', ?_, ⟨u, u2, ?_⟩, ?_, ?_⟩, fun c hcm => ?_⟩
    · exact (sb.2 _ D.TIz).trans (hk _ _ D.TIz D.TITO D.TIi1 D.TIi2 hTI)
    · exact (sb.2 _ D.TOz).trans TO'
    · exact h1'.at fun o q => (sb.2 _ D.i1z).trans q
    · exact h2'.at fun o q => (sb.2 _ D.i2z).trans q
    · have hlt : c < s.heap.objs.size := by
        have e' : c = z ∨ c = TI ∨ c = TO ∨ c = i1 ∨ c = i2 := by simpa using hcm
        rcases e' with q | q | q | q | q
        · rw [q]; exact hzl
        · rw [q]; exact Heap.lt_size hTI
        · rw [q]; exact Heap.lt_size hTO
        · rw [q]; exact Heap.lt_size e1
        · rw [q]; exact Heap.lt_size e2
      rw [upd_ne (Nat.ne_of_lt hlt)]
      exact (hf c hcm).1
  done := by
    intro X hP hw hK hc i pins s σ H E I hf st hg
    subst hP hw hK
    obtain ⟨hz, hTI, ⟨x0, y0, hTO⟩, h1, h2⟩ := st
    obtain ⟨xs, hqx, hend⟩ := hg
    obtain ⟨its, rv, p⟩ := I.sq hqx
    have l1 := rv.length
    have he : its.toArray[i]? = none := by simp; omega
    exact pyNext_end2 (I.ok.hd hc) D hz hTI hTO h1 p he fun h' hk => ⟨rfl, I.turnedL (t' := s.toks) (ch := [z, TI, TO, i1, i2]) (fun c o hb q =>
      hk c o (fun q' => hb (by simp [q'])) (fun q' => hb (by simp [q'])) (fun q' => hb (by simp [q'])) q) hf⟩
  self := fun A i s Q E st h => wpAny_pyIter_zip st.1 h
def iZip2 (k k2 : SK) (K : PySem.W.Frag) (ta : TA) : TI := fun σ H R => ta σ H fun vs H1 => ∃ a b xs ys, vs = [.ref a, .ref b] ∧ Sq k K H1 a xs ∧ Sq k2 K H1 b ys ∧ R (Itz2 k k2 K a b) H1
theorem pi_zip2 {X : Cx} (k k2 : SK) {e e2 : Expr} {ta : TA} {p pos tpos : Pos} {elts : List Expr} {kk : Nat} (hg : Gl X "zip") (hm : X.mg "zip" = none) (ha : PA X [e, e2] ta)
    (hs : starEach [e, e2] X.env = (false, eval e X.env) :: starEach [e2] X.env := by rfl) (hpl : (backTo pos (starEach [e2] X.env)).any (·.1) = false := by rfl) :
    PI X (.Tuple elts kk tpos) (.Call (.Name "zip" p) [e, e2] [] pos) (iZip2 k k2 X.K ta) := by
  intro pins s σ H R I h
  refine Call_ (ld_blt I hg hm boot_zip5 (PyProof.Rows.callWith_type1 (thn (ha pos pins s σ H _ I h) fun us s1 ⟨vs, H1, I1, r1, q1⟩ => ?_) hs hpl))
  obtain ⟨a, b, xs, ys, ex, hqx, hqy, q⟩ := q1
  subst ex
  cases r1 with
  | cons r rr =>
    cases rr with
    | cons r' rr =>
      cases rr
      cases r
      cases r'
      obtain ⟨its, rv, p1⟩ := I1.sq hqx
      obtain ⟨its2, rv2, p2⟩ := I1.sq hqy
      have la : a < s1.heap.objs.size := p1.lt
      have lb : b < s1.heap.objs.size := p2.lt
      refine call_two p1 p2 fun h' hz hTI hTO h1 h2 hk => wpAny_pyIter_zip hz ?_
      have I2 : Inv X pins σ H1 { s1 with heap := h' } := I1.kept (t' := s1.toks) hk
      refine ⟨s1.heap.objs.size + 4, [s1.heap.objs.size + 4, s1.heap.objs.size + 2, s1.heap.objs.size + 3, s1.heap.objs.size, s1.heap.objs.size + 1], _, _, H1, rfl, I2, turn_zip2 (PySem.W.ktu_apart s1.heap.objs.size a b la lb), ⟨hz, hTI, ⟨_, _, hTO⟩, h1, h2⟩, fun c hcm => ?_, q⟩
      have e' : c = s1.heap.objs.size + 4 ∨ c = s1.heap.objs.size + 2 ∨ c = s1.heap.objs.size + 3 ∨ c = s1.heap.objs.size ∨ c = s1.heap.objs.size + 1 := by simpa using hcm
      have hle : s1.heap.objs.size ≤ c := by
        rcases e' with z | z | z | z | z
        · rw [z]; exact Nat.le_add_right _ _
        · rw [z]; exact Nat.le_add_right _ _
        · rw [z]; exact Nat.le_add_right _ _
        · rw [z]; exact Nat.le_refl _
        · rw [z]; exact Nat.le_add_right _ _
      exact I1.fpOk hle (I1.hok.fresh hle)
/-- a comprehension over zip of two of one length -/
theorem lc_zip2 {K : PySem.W.Frag} {k k2 : SK} {a b : Addr} {xs ys : List V} {g : TG} {tt : TT} {te : TE} {vs : List Nat} {σ : St} {H1 : Hp} {D : Addr} {Qd : Hp → Prop} (Pv : Nat → Hp → Prop) (hlen : xs.length = ys.length) (h0 : Pv 0 (upd H1 D (.lst [])))
    (hl : ∀ i H, i ≤ xs.length → Pv i H → Sq k K H a xs ∧ Sq k2 K H b ys)
    (hs : ∀ i x y H T, xs[i]? = some x → ys[i]? = some y → Pv i H → H T = none → g (.ref T) (wipe σ vs) (upd H T (.tup [x, y])) fun σ2 H2 => wipe σ2 vs = wipe σ vs ∧ tt σ2 H2 fun b H3 =>
      if b = true then te σ2 H3 fun y H4 => ∃ acc, H4 D = some (.lst acc) ∧ acc.length < sizeLine ∧ Pv (i + 1) (upd H4 D (.lst (acc ++ [y]))) else Pv (i + 1) H3) (hd : ∀ H, Pv xs.length H → Qd H) :
    ∃ W : Nat → Nat → Hp → Prop, (∃ m, W 0 m (upd H1 D (.lst []))) ∧ ∀ i m H, W i m H →
      ((Itz2 k k2 K a b).stop i H ∧ Qd H) ∨ ((Itz2 k k2 K a b).go i H ∧ ∃ Nx : Hp → Prop, (∀ H', Nx H' → ∃ m', m' < m ∧ W (i + 1) m' H') ∧ ∀ x H', (Itz2 k k2 K a b).yld i H x H' → g x (wipe σ vs) H' fun σ2 H2 => wipe σ2 vs = wipe σ vs ∧ tt σ2 H2 fun b H3 =>
        if b = true then te σ2 H3 fun y H4 => ∃ acc, H4 D = some (.lst acc) ∧ acc.length < sizeLine ∧ Nx (upd H4 D (.lst (acc ++ [y]))) else Nx H3) := by
  refine ⟨fun i m H => m = xs.length - i ∧ i ≤ xs.length ∧ Pv i H, ⟨xs.length, by simp, Nat.zero_le _, h0⟩, ?_⟩
  rintro i m H ⟨rfl, hi, p⟩
  obtain ⟨q1, q2⟩ := hl i H hi p
  by_cases hlt : i < xs.length
  · refine .inr ⟨⟨xs, ys, xs[i], ys[i], q1, q2, by simp [hlt], by simp [← hlen, hlt]⟩, Pv (i + 1), fun H' p' => ⟨xs.length - (i + 1), by omega, rfl, hlt, p'⟩, fun x H' y => ?_⟩
    obtain ⟨T, x, y, rfl, hT, rfl, y1, y2⟩ := y
    exact hs i x y _ T (y1 xs q1) (y2 ys q2) p hT
  · have e : i = xs.length := by omega
    subst e
    exact .inl ⟨⟨xs, q1, Nat.le_refl _⟩, hd H p⟩
/-- a tuple of names within a comprehension's block -/
theorem pg_tupB {X : Cx} {K : PySem.W.Frag} {n : Nat} {es : List Expr} {k : Nat} {t : TGs} {pos : Pos} (hK : X.K = K) (hc : X.calm = true) (h : PGs X es t)
    (hn : (assignEach es X.env).length = n := by rfl) (hst : (assignEach es X.env).findIdx? (·.1) = none := by rfl) : PG X (.Tuple es k pos) (gTup K n t) := by
  subst hK
  exact pg_tup hc h hn hst
end L2
end
section
set_option Elab.async false
set_option linter.all false
set_option maxRecDepth 100000
set_option maxHeartbeats 4000000
namespace L2
open PySem PySem.Spec PyProof.Rows
/-- o.f within a comprehension's block -/
theorem pe_fldB {X : Cx} {K : PySem.W.Frag} {e : Expr} {f : Str} {ta : TE} {pos : Pos} (hK : X.K = K) (he : PE X e ta) (hb : attributeBase e f X.env (eval e X.env) = eval e X.env) : PE X (.Attribute e f pos) (tFld K ta f) := by
  subst hK
  exact pe_fld he hb
end L2
end
section
set_option Elab.async false
set_option linter.all false
set_option maxRecDepth 100000
set_option maxHeartbeats 4000000
namespace Zip2
open PySem PySem.AutoSeq1
end Zip2
namespace L2
open PySem PySem.Spec PyProof.Rows
variable {X : Cx}
end L2
end
section
set_option Elab.async false
set_option linter.all false
set_option maxRecDepth 100000
set_option maxHeartbeats 2000000
namespace L2
open PySem PySem.Spec PyProof.Rows
theorem PE.imp {X : Cx} {e : Expr} {t t' : TE} (h : PE X e t) (i : ∀ σ H Q, t' σ H Q → t σ H Q) : PE X e t' := fun pins s σ H Q I q => h pins s σ H Q I (i σ H Q q)
/-- a def of the module that may be called -/
structure Callee (P : Program) (w : World) (K : PySem.W.Frag) (mg : Str → Option Value) (base : Heap) (k : Nat) (x : Str) (ps : List Str) (sp : Sp) : Prop where
  ex : ∃ (f : Addr) (fd : FuncData), mg x = some (.ref f) ∧ PySem.W.keepIn K (.ref f) = true ∧ Binds K fd ps [] ∧ FnOk P w K mg base CX0 k f fd ps sp
theorem Callee.mk' {P : Program} {w : World} {K : PySem.W.Frag} {mg : Str → Option Value} {base : Heap} {k : Nat} {x : Str} {ps : List Str} {sp : Sp} {f : Addr} {fd : FuncData} (h1 : mg x = some (.ref f)) (h2 : PySem.W.keepIn K (.ref f) = true) (h3 : Binds K fd ps []) (h4 : FnOk P w K mg base CX0 k f fd ps sp) :
    Callee P w K mg base k x ps sp := ⟨⟨f, fd, h1, h2, h3, h4⟩⟩
structure Maker (P : Program) (w : World) (K : PySem.W.Frag) (mg : Str → Option Value) (base : Heap) (k : Nat) (x : Str) (C : Addr) (ps : List Str) (sp : Sp) : Prop where
  ex : ∃ (f : Addr) (fd : FuncData), Mk K C f ∧ mg x = some (.ref C) ∧ Binds K fd ps [] ∧ FnOk P w K mg base CX0 k f fd ps sp
section
variable {X : Cx} {k : Nat} {x : Str} {ps : List Str} {sp : Sp} {C : Addr} {e : Expr} {es : List Expr} {t : TA} {p pos : Pos}
theorem pe_fn (F : Callee X.prog X.w X.K X.mg X.base k x ps sp) (hr : Room k X.A) (ha : PA X (e :: es) t) (hg : Gl X x := by rfl)
    (hdb : (x == ("__debug__" : Str)) = false := by decide) (he : starEach (e :: es) X.env = (false, eval e X.env) :: starEach es X.env := by rfl) (hpl : (backTo pos (starEach es X.env)).any (·.1) = false := by rfl) :
    PE X (.Call (.Name x p) (e :: es) [] pos) (tCall sp [] E0 t) := by
  obtain ⟨f, fd, h1, h2, h3, h4⟩ := F.ex
  exact pe_call h4 hr hg h1 h2 h3 .nil pass0 ha hdb he hpl
theorem pe_new (F : Maker X.prog X.w X.K X.mg X.base k x C ps sp) (hr : Room (k + 1) X.A) (ha : PA X (e :: es) t) (hg : Gl X x := by rfl)
    (hdb : (x == ("__debug__" : Str)) = false := by decide) (he : starEach (e :: es) X.env = (false, eval e X.env) :: starEach es X.env := by rfl) (hpl : (backTo pos (starEach es X.env)).any (·.1) = false := by rfl) :
    PE X (.Call (.Name x p) (e :: es) [] pos) (tMake C sp [] E0 t) := by
  obtain ⟨f, fd, h1, h2, h3, h4⟩ := F.ex
  exact pe_make h1 h4 hr hg h2 h3 .nil pass0 ha hdb he hpl
theorem pe_new0 (F : Maker X.prog X.w X.K X.mg X.base k x C ps sp) (hr : Room (k + 1) X.A) (hg : Gl X x := by rfl) (hdb : (x == ("__debug__" : Str)) = false := by decide) :
    PE X (.Call (.Name x p) [] [] pos) (tMake C sp [] E0 tNil) := by
  obtain ⟨f, fd, h1, h2, h3, h4⟩ := F.ex
  exact pe_make0 h1 h4 hr hg h2 h3 .nil pass0 hdb
/-- a constant of the module -/
theorem pe_const {i : Int} (h : ∃ u, X.mg x = some (.int i u)) (hg : Gl X x := by rfl) (hd : (x == ("__debug__" : Str)) = false := by decide) : PE X (.Name x pos) (tC (.int i)) := by
  obtain ⟨u, h⟩ := h
  exact pe_glob hg h ⟨u, rfl⟩ hd
/-- ord('a') -/
theorem pe_ordC {z : Str} {n : Nat} {j : Nat} {pos' : Pos} (hm : X.mg "ord" = none) (h1 : z.length = 1) (h2 : z.cps.getD 0 0 = n) (hg : Gl X "ord" := by rfl)
    (he : starEach [.Constant (.str z) j pos'] X.env = (false, eval (.Constant (.str z) j pos') X.env) :: starEach [] X.env := by rfl) (hpl : (backTo pos (starEach [] X.env)).any (·.1) = false := by rfl) :
    PE X (.Call (.Name "ord" p) [.Constant (.str z) j pos'] [] pos) (tC (.int n)) := by
  refine PE.imp (pe_callB call_ord hg hm boot_ord (pa_cons pe_str pa_nil he) (by decide) (by decide) he hpl) fun σ H Q q => ?_
  refine ⟨z, rfl, h1, ?_⟩
  rw [h2]
  exact q
end
theorem iteB {c : Bool} {A B : Prop} (h1 : c = true → A) (h2 : c = false → B) : if c = true then A else B := by
  cases c with
  | true => exact iteT (h1 rfl)
  | false => exact iteF (h2 rfl)
theorem Same.upd {H : Hp} {a : Addr} {o : HO} (h : H a = Option.none) : Same H (upd H a o) := fun b u e => by
  rw [upd_ne (ne_of_none e h)]
  exact e
theorem Same.upd2 {H H' : Hp} {a : Addr} {o : HO} (s : Same H H') (h : H a = Option.none) : Same H (L2.upd H' a o) := fun b u e => by
  rw [upd_ne (ne_of_none e h)]
  exact s b u e
theorem map_int {ns : List Int} {i : Nat} {y : V} (h : (ns.map V.int)[i]? = some y) : ∃ z, ns[i]? = some z ∧ y = V.int z := by
  rw [List.getElem?_map] at h
  cases e : ns[i]? with
  | none => rw [e] at h; cases h
  | some z => rw [e] at h; exact ⟨z, rfl, (Option.some.inj h).symm⟩
theorem map_ref {ns : List Addr} {i : Nat} {y : V} (h : (ns.map V.ref)[i]? = some y) : ∃ z, ns[i]? = some z ∧ y = V.ref z := by
  rw [List.getElem?_map] at h
  cases e : ns[i]? with
  | none => rw [e] at h; cases h
  | some z => rw [e] at h; exact ⟨z, rfl, (Option.some.inj h).symm⟩
theorem take_snoc {α : Type} : ∀ {l : List α} {i : Nat} {x : α}, l[i]? = some x → l.take (i + 1) = l.take i ++ [x]
  | [], i, x, h => by simp at h
  | a :: l, 0, x, h => by
    have e : a = x := Option.some.inj h
    subst e
    rfl
  | a :: l, i + 1, x, h => by
    have ih := take_snoc (l := l) (i := i) (x := x) h
    show a :: l.take (i + 1) = a :: l.take i ++ [x]
    rw [ih]
    rfl
end L2
end
section
set_option Elab.async false
set_option linter.all false
set_option maxRecDepth 100000
set_option maxHeartbeats 2000000
namespace L2
open PySem PySem.Spec PyProof.Rows
theorem dp_ints {K : PySem.W.Frag} {H : Hp} : ∀ ns : List Int, DpAll K H (ns.map V.int) (ns.map PyData.int)
  | [] => .nil
  | n :: r => .cons (.int n) (dp_ints r)
/-- == of two lists of ints -/
def rEqL (K : PySem.W.Frag) : R2 := fun x y H Q => ∃ (a b : Addr) (ns ms : List Int), x = .ref a ∧ y = .ref b ∧ SqL K H a (ns.map V.int) ∧ SqL K H b (ms.map V.int) ∧ Q (.bl (decide (ns = ms))) H
theorem op_eqL {X : Cx} (hu : X.A.units + 64 < cLine) : OpR X (compareOp .Eq) (rEqL X.K) := by
  intro pins s σ H x y v u Q I rx ry h
  obtain ⟨a, b, ns, ms, rfl, rfl, h1, h2, q⟩ := h
  refine op_eqD hu pins s σ H _ _ v u Q I rx ry ⟨_, _, .lst h1 (dp_ints ns), .lst h2 (dp_ints ms), PySem.W.shaped_ints ns, PySem.W.shaped_ints ms, ?_⟩
  have e : PyData.eqv (.list (ns.map PyData.int)) (.list (ms.map PyData.int)) = decide (ns = ms) := by
    simp only [PyData.eqv]
    exact PySem.W.ked_eqvAll ns ms
  rw [e]
  exact q
end L2
namespace Cut
def isDig (c : Int) : Bool := decide (48 ≤ c) && decide (c ≤ 57)
def isLet (c : Int) : Bool := decide (97 ≤ c) && decide (c ≤ 122)
def isNam (f : List Int) : Bool := decide (1 ≤ f.length) && (decide (f.length ≤ 12) && f.all fun c => isDig c || isLet c)
def digStep (n : Nat) (c : Int) : Nat := min (n * 10 + (c - 48).toNat) 17
def numF (f : List Int) : Option Nat :=
  if f = [] then none else if f.all isDig = false then none
  else if f.headD 0 = 48 ∧ 1 < f.length then none
  else some (f.foldl digStep 0)
def okSize : Option Nat → Bool
  | none => false
  | some n => decide (1 ≤ n) && decide (n ≤ 16)
def sizF (fs : List (List Int)) : Option (List Nat) := if (fs.map numF).all okSize = true then some ((fs.map numF).map fun o => o.getD 0) else none
def grainF (f : List Int) : Option Nat := if f = [120] then some 0 else if f = [121] then some 1 else if f = [122] then some 2 else none
/-- what stands between marks -/
def part (m : Int) : List Int → List (List Int)
  | [] => [[]]
  | x :: r => if x = m then [] :: part m r else match part m r with
    | [] => [[x]]
    | w :: l => (x :: w) :: l
theorem part_ne (m : Int) : ∀ l, part m l ≠ []
  | [] => by simp [part]
  | x :: r => by
    unfold part
    split
    · simp
    · split <;> simp
/-- the last stretch grown -/
def growLast (c : Int) : List (List Int) → List (List Int)
  | [] => []
  | [w] => [w ++ [c]]
  | w :: l => w :: growLast c l
theorem growLast_snoc (c : Int) (w : List Int) : ∀ l, growLast c (l ++ [w]) = l ++ [w ++ [c]]
  | [] => rfl
  | a :: [] => rfl
  | a :: b :: l => by
    show a :: growLast c ((b :: l) ++ [w]) = a :: ((b :: l) ++ [w ++ [c]])
    rw [growLast_snoc c w (b :: l)]
theorem part_snoc (m c : Int) : ∀ l, part m (l ++ [c]) = if c = m then part m l ++ [[]] else growLast c (part m l)
  | [] => by
    show part m [c] = _
    by_cases h : c = m
    · subst h; simp [part]
    · simp [part, h, growLast]
  | x :: r => by
    have ih := part_snoc m c r
    show part m (x :: (r ++ [c])) = _
    by_cases hx : x = m
    · rw [part, if_pos hx, ih]
      rw [show part m (x :: r) = [] :: part m r by rw [part, if_pos hx]]
      by_cases h : c = m
      · simp [h]
      · rw [if_neg h, if_neg h]
        have hn := part_ne m r
        cases e : part m r with
        | nil => exact absurd e hn
        | cons w l => rfl
    · rw [part, if_neg hx, ih]
      have hn := part_ne m r
      cases e : part m r with
      | nil => exact absurd e hn
      | cons w l =>
        rw [show part m (x :: r) = (x :: w) :: l by rw [part, if_neg hx, e]]
        by_cases h : c = m
        · simp [h]
        · rw [if_neg h, if_neg h]
          cases l with
          | nil => simp [growLast]
          | cons b l => simp [growLast]
end Cut
end
section
set_option Elab.async false
set_option linter.all false
set_option maxRecDepth 100000
set_option maxHeartbeats 2000000
namespace Cut
open PySem PySem.Spec PyProof.Rows L2
theorem lk_hit {f : Str} {v : V} {r : List (Str × V)} : ((f, v) :: r).lookup f = some v := by simp [List.lookup]
theorem lk_miss {f g : Str} {v : V} {r : List (Str × V)} (h : ¬ f = g) : ((g, v) :: r).lookup f = r.lookup f := by
  have e : (f == g) = false := by simpa using h
  simp [List.lookup, e]
theorem pf_nil {f : Str} {v : V} : putF f v [] = [(f, v)] := rfl
theorem pf_hit {f : Str} {v u : V} {r : List (Str × V)} : putF f v ((f, u) :: r) = (f, v) :: r := by unfold putF; rw [if_pos rfl]
theorem pf_miss {f g : Str} {v u : V} {r : List (Str × V)} (h : ¬ g = f) : putF f v ((g, u) :: r) = (g, u) :: putF f v r := by rw [putF, if_neg h]
def fB (q p : Addr) (g : Nat) : List (Str × V) := [("name", .ref q), ("size", .ref p), ("grain", .int (g : Nat))]
def fC (p q : Addr) : List (Str × V) := [("corner", .ref p), ("size", .ref q)]
def fR (tl : Bool) (fa bl : V) (cu : Addr) : List (Str × V) := [("too_long", .bl tl), ("fault", fa), ("block", bl), ("cuts", .ref cu)]
theorem fB_size {q p : Addr} {g : Nat} : (fB q p g).lookup ("size" : Str) = some (.ref p) := by unfold fB; rw [lk_miss (by decide +kernel), lk_hit]
theorem fC_corner {p q : Addr} : (fC p q).lookup ("corner" : Str) = some (.ref p) := lk_hit
theorem fC_size {p q : Addr} : (fC p q).lookup ("size" : Str) = some (.ref q) := by unfold fC; rw [lk_miss (by decide +kernel), lk_hit]
section
variable {tl : Bool} {fa bl : V} {cu : Addr}
theorem fR_tl : (fR tl fa bl cu).lookup ("too_long" : Str) = some (.bl tl) := lk_hit
theorem fR_fault : (fR tl fa bl cu).lookup ("fault" : Str) = some fa := by unfold fR; rw [lk_miss (by decide +kernel), lk_hit]
theorem fR_block : (fR tl fa bl cu).lookup ("block" : Str) = some bl := by unfold fR; rw [lk_miss (by decide +kernel), lk_miss (by decide +kernel), lk_hit]
theorem fR_cuts : (fR tl fa bl cu).lookup ("cuts" : Str) = some (.ref cu) := by unfold fR; rw [lk_miss (by decide +kernel), lk_miss (by decide +kernel), lk_miss (by decide +kernel), lk_hit]
theorem fR_put_tl {b : Bool} : putF "too_long" (.bl b) (fR tl fa bl cu) = fR b fa bl cu := by unfold fR; rw [pf_hit]
theorem fR_put_fault {v : V} : putF "fault" v (fR tl fa bl cu) = fR tl v bl cu := by unfold fR; rw [pf_miss (by decide +kernel), pf_hit]
theorem fR_put_block {v : V} : putF "block" v (fR tl fa bl cu) = fR tl fa v cu := by unfold fR; rw [pf_miss (by decide +kernel), pf_miss (by decide +kernel), pf_hit]
end
structure CTxt (K : PySem.W.Frag) (CB CC CR : Addr) : Prop where
  cB : Cls K CB
  cC : Cls K CC
  cR : Cls K CR
  bName : NoAttr K CB "name"
  bSize : NoAttr K CB "size"
  bGrain : NoAttr K CB "grain"
  cCorner : NoAttr K CC "corner"
  cSize : NoAttr K CC "size"
  rTl : NoAttr K CR "too_long"
  rFault : NoAttr K CR "fault"
  rBlock : NoAttr K CR "block"
  rCuts : NoAttr K CR "cuts"
def vN (ns : List Nat) : List V := ns.map fun (n : Nat) => V.int (n : Int)
def BlkAt (CB : Addr) (H : Hp) (b : Addr) (n : List Int) (s : List Nat) (g : Nat) : Prop := ∃ dx q p, H b = some (.ins CB dx (fB q p g)) ∧ H q = some (.lst (n.map V.int)) ∧ H p = some (.lst (vN s))
def CutAt (CC : Addr) (H : Hp) (c : Addr) (x s : List Nat) : Prop := ∃ dx p q, H c = some (.ins CC dx (fC p q)) ∧ H p = some (.lst (vN x)) ∧ H q = some (.lst (vN s))
theorem CutAt.same {CC : Addr} {H H' : Hp} {b : Addr} {x s : List Nat} (h : CutAt CC H b x s) (e : Same H H') : CutAt CC H' b x s := let ⟨dx, p, q, h1, h2, h3⟩ := h; ⟨dx, p, q, e _ _ h1, e _ _ h2, e _ _ h3⟩
def spBlockI (CB : Addr) : Sp := fun vs H Q _ => ∃ (b dx q p : Addr) (g : Nat), vs = [.ref b, .ref q, .ref p, .int (g : Nat)] ∧ H b = some (.ins CB dx []) ∧ ∀ H' : Hp, H' b = some (.ins CB dx (fB q p g)) → (∀ x o, H x = some o → x ≠ b → H' x = some o) → Q .non H'
def spCutI (CC : Addr) : Sp := fun vs H Q _ => ∃ (c dx p q : Addr), vs = [.ref c, .ref p, .ref q] ∧ H c = some (.ins CC dx []) ∧ ∀ H' : Hp, H' c = some (.ins CC dx (fC p q)) → (∀ x o, H x = some o → x ≠ c → H' x = some o) → Q .non H'
def spReadI (CR : Addr) : Sp := fun vs H Q _ => ∃ (r dx : Addr), vs = [.ref r] ∧ H r = some (.ins CR dx []) ∧ ∀ (H' : Hp) (l : Addr), H l = none → H' r = some (.ins CR dx (fR false .non .non l)) → H' l = some (.lst []) → (∀ x o, H x = some o → x ≠ r → H' x = some o) → Q .non H'
def corF (fs : List (List Int)) : Option (List Nat) := if (fs.map numF).all (·.isSome) = true then some ((fs.map numF).map fun o => o.getD 0) else none
def blkF : List (List Int) → Option (List Int × List Nat × Nat)
  | [f0, f1, f2, f3, f4, f5] => if f0 = [112, 97, 114, 116] then if isNam f1 = true then match sizF [f2, f3, f4], grainF f5 with
      | some s, some g => some (f1, s, g)
      | _, _ => none
    else none else none
  | _ => none
def cutF : List (List Int) → Option (List Nat × List Nat)
  | [f0, f1, f2, f3, f4, f5, f6] => if f0 = [99, 117, 116] then match corF [f1, f2, f3], sizF [f4, f5, f6] with
      | some c, some s => some (c, s)
      | _, _ => none
    else none
  | _ => none
theorem blkF_six {f0 f1 f2 f3 f4 f5 : List Int} : blkF [f0, f1, f2, f3, f4, f5] = if f0 = [112, 97, 114, 116] then if isNam f1 = true then match sizF [f2, f3, f4], grainF f5 with
      | some s, some g => some (f1, s, g)
      | _, _ => none
    else none else none := rfl
theorem cutF_seven {f0 f1 f2 f3 f4 f5 f6 : List Int} : cutF [f0, f1, f2, f3, f4, f5, f6] = if f0 = [99, 117, 116] then match corF [f1, f2, f3], sizF [f4, f5, f6] with
      | some c, some s => some (c, s)
      | _, _ => none
    else none := rfl
theorem blkF_len {fs : List (List Int)} (h : ¬ fs.length = 6) : blkF fs = none := by
  unfold blkF
  split
  · exact absurd rfl h
  · rfl
theorem cutF_len {fs : List (List Int)} (h : ¬ fs.length = 7) : cutF fs = none := by
  unfold cutF
  split
  · exact absurd rfl h
  · rfl
end Cut
end
section
set_option Elab.async false
set_option linter.all false
set_option maxRecDepth 100000
set_option maxHeartbeats 2000000
namespace Cut
open PySem PySem.Spec PyProof.Rows L2
structure RS where
  blk : Option (List Int × List Nat × Nat)
  cuts : List (List Nat × List Nat)
def inF (x s t : List Nat) : Bool := (List.range 3).all fun j => decide (x.getD j 0 + s.getD j 0 ≤ t.getD j 0)
def takeBlkF (st : RS) (b : List Int × List Nat × Nat) : Nat × RS := match st.blk with
  | none => (0, { st with blk := some b })
  | some _ => (3, st)
def takeCutF (st : RS) (c : List Nat × List Nat) : Nat × RS := match st.blk with
  | none => (3, st)
  | some (_, t, _) => if inF c.1 c.2 t = false then (4, st) else if st.cuts.length = 64 then (2, st) else (0, { st with cuts := st.cuts ++ [c] })
def takeF (st : RS) (line : List Int) : Nat × RS := match blkF (part 32 line) with
  | some b => takeBlkF st b
  | none => match cutF (part 32 line) with
    | some c => takeCutF st c
    | none => (1, st)
/-- lines from the k-th on: the fault, the state -/
def linesF : Nat → RS → List (List Int) → Option (Nat × Nat) × RS
  | _, st, [] => (none, st)
  | k, st, l :: r => if (takeF st l).1 = 0 then linesF (k + 1) (takeF st l).2 r else (some (k, (takeF st l).1), (takeF st l).2)
/-- all stretches, the last one without its mark -/
def endF (fs : List (List Int)) : Option (Nat × Nat) × RS := match linesF 0 ⟨none, []⟩ fs.dropLast with
  | (some f, st) => (some f, st)
  | (none, st) => if fs.getLastD [] = [] then (if fs.dropLast = [] then (some (0, 3), st) else (none, st)) else (some (fs.dropLast.length, 1), st)
def readF (ns : List Int) : Option (Nat × Nat) × RS := if 16384 < ns.length then (none, ⟨none, []⟩) else endF (part 10 ns)
def blkV (CB : Addr) (H : Hp) (v : V) : Option (List Int × List Nat × Nat) → Prop
  | none => v = .non
  | some (n, s, g) => ∃ b, v = .ref b ∧ BlkAt CB H b n s g ∧ s.length = 3 ∧ n ≠ []
abbrev CutsAt (CC : Addr) (H : Hp) (cs : List Addr) (cuts : List (List Nat × List Nat)) : Prop := Paired (fun c (x : List Nat × List Nat) => CutAt CC H c x.1 x.2 ∧ x.1.length = 3 ∧ x.2.length = 3) cs cuts
structure ReadAt (CB CC CR : Addr) (H : Hp) (r l : Addr) (tl : Bool) (fa : V) (st : RS) (dx : Addr) (bv : V) (cs : List Addr) : Prop where
  at_ : H r = some (.ins CR dx (fR tl fa bv l))
  lst : H l = some (.lst (cs.map V.ref))
  blk : blkV CB H bv st.blk
  cuts : CutsAt CC H cs st.cuts
def fauV (H : Hp) (v : V) : Option (Nat × Nat) → Prop
  | none => v = .non
  | some (k, y) => ∃ t, v = .ref t ∧ H t = some (.tup [.int (k : Nat), .int (y : Nat)])
/-- kept but at r and l -/
def Kp (r l : Addr) (H H' : Hp) : Prop := ∀ x o, H x = some o → x ≠ r → x ≠ l → H' x = some o
theorem Same.kp {r l : Addr} {H H' : Hp} (s : Same H H') : Kp r l H H' := fun x o h _ _ => s x o h
theorem Kp.trans {r l : Addr} {H H1 H2 : Hp} (a : Kp r l H H1) (b : Kp r l H1 H2) : Kp r l H H2 := fun x o h h1 h2 => b x o (a x o h h1 h2) h1 h2
theorem vN_ref {s : List Nat} {cs : List Addr} (h : s.length = 3) : HO.lst (vN s) ≠ HO.lst (cs.map V.ref) := fun z => by
  injection z with z
  match s, cs, h, z with
  | a :: s, [], _, z => cases z
  | a :: s, c :: cs, _, z => cases z
theorem vI_ref {n : List Int} {cs : List Addr} (h : n ≠ []) : HO.lst (n.map V.int) ≠ HO.lst (cs.map V.ref) := fun z => by
  injection z with z
  match n, cs, h, z with
  | [], _, h, _ => exact h rfl
  | a :: s, [], _, z => cases z
  | a :: s, c :: cs, _, z => cases z
theorem fB_fR {q p : Addr} {g : Nat} {tl : Bool} {fa bv : V} {l CB CR d1 d2 : Addr} : HO.ins CB d1 (fB q p g) ≠ HO.ins CR d2 (fR tl fa bv l) := fun z => by
  injection z with _ _ z
  exact absurd (show (3 : Nat) = 4 from congrArg List.length z) (by decide)
theorem fC_fR {p q : Addr} {tl : Bool} {fa bv : V} {l CB CR d1 d2 : Addr} : HO.ins CB d1 (fC p q) ≠ HO.ins CR d2 (fR tl fa bv l) := fun z => by
  injection z with _ _ z
  exact absurd (show (2 : Nat) = 4 from congrArg List.length z) (by decide)
section
variable {CB CC CR : Addr} {H H' : Hp} {r l dx : Addr} {tl : Bool} {fa bv : V} {cs : List Addr} {st : RS}
theorem BlkAt.kp {b : Addr} {n : List Int} {s : List Nat} {g : Nat} (h : BlkAt CB H b n s g) (hs : s.length = 3) (hn : n ≠ []) (hr : H r = some (.ins CR dx (fR tl fa bv l))) (hl : H l = some (.lst (cs.map V.ref))) (k : Kp r l H H') : BlkAt CB H' b n s g := by
  obtain ⟨dx, q, p, h1, h2, h3⟩ := h
  exact ⟨dx, q, p, k _ _ h1 (ne_of h1 hr fB_fR) (ne_of h1 hl (by intro z; cases z)), k _ _ h2 (ne_of h2 hr (by intro z; cases z)) (ne_of h2 hl (vI_ref hn)), k _ _ h3 (ne_of h3 hr (by intro z; cases z)) (ne_of h3 hl (vN_ref hs))⟩
theorem CutAt.kp {c : Addr} {x s : List Nat} (h : CutAt CC H c x s) (hx : x.length = 3) (hs : s.length = 3) (hr : H r = some (.ins CR dx (fR tl fa bv l))) (hl : H l = some (.lst (cs.map V.ref))) (k : Kp r l H H') : CutAt CC H' c x s := by
  obtain ⟨dx, p, q, h1, h2, h3⟩ := h
  exact ⟨dx, p, q, k _ _ h1 (ne_of h1 hr fC_fR) (ne_of h1 hl (by intro z; cases z)), k _ _ h2 (ne_of h2 hr (by intro z; cases z)) (ne_of h2 hl (vN_ref hx)), k _ _ h3 (ne_of h3 hr (by intro z; cases z)) (ne_of h3 hl (vN_ref hs))⟩
theorem blkV.kp {v : V} {o : Option (List Int × List Nat × Nat)} (h : blkV CB H v o) (hr : H r = some (.ins CR dx (fR tl fa bv l))) (hl : H l = some (.lst (cs.map V.ref))) (k : Kp r l H H') : blkV CB H' v o := by
  cases o with
  | none => exact h
  | some p =>
    obtain ⟨b, e, h1, h2, h3⟩ := h
    exact ⟨b, e, h1.kp h2 h3 hr hl k, h2, h3⟩
theorem CutsAt.kp {cs' : List Addr} {cuts : List (List Nat × List Nat)} (h : CutsAt CC H cs' cuts) (hr : H r = some (.ins CR dx (fR tl fa bv l))) (hl : H l = some (.lst (cs.map V.ref))) (k : Kp r l H H') : CutsAt CC H' cs' cuts :=
  Paired.imp' (fun c x ⟨h1, h2, h3⟩ => ⟨h1.kp h2 h3 hr hl k, h2, h3⟩) h
theorem ReadAt.same (R : ReadAt CB CC CR H r l tl fa st dx bv cs) (s : Same H H') : ReadAt CB CC CR H' r l tl fa st dx bv cs :=
  ⟨s _ _ R.at_, s _ _ R.lst, R.blk.kp R.at_ R.lst (Same.kp s), R.cuts.kp R.at_ R.lst (Same.kp s)⟩
theorem ReadAt.ne (R : ReadAt CB CC CR H r l tl fa st dx bv cs) : r ≠ l := ne_of R.at_ R.lst (by intro z; cases z)
end
theorem getD3 {x : List Nat} {j : Nat} {n : Nat} (h : x[j]? = some n) : x.getD j 0 = n := by
  rw [List.getD_eq_getElem?_getD, h]
  rfl
theorem sizF_len {fs : List (List Int)} {ns : List Nat} (h : sizF fs = some ns) : ns.length = fs.length := by
  unfold sizF at h
  split at h
  · cases h
    simp
  · cases h
theorem corF_len {fs : List (List Int)} {ns : List Nat} (h : corF fs = some ns) : ns.length = fs.length := by
  unfold corF at h
  split at h
  · cases h
    simp
  · cases h
theorem blkF_three {fs : List (List Int)} {n : List Int} {s : List Nat} {g : Nat} (h : blkF fs = some (n, s, g)) : s.length = 3 ∧ n ≠ [] := by
  unfold blkF at h
  split at h
  · split at h
    · split at h
      · rename_i hn
        split at h
        · cases h
          rename_i e _
          refine ⟨sizF_len e, fun z => ?_⟩
          subst z
          exact absurd hn (by decide)
        · cases h
      · cases h
    · cases h
  · cases h
theorem cutF_three {fs : List (List Int)} {x s : List Nat} (h : cutF fs = some (x, s)) : x.length = 3 ∧ s.length = 3 := by
  unfold cutF at h
  split at h
  · split at h
    · split at h
      · cases h
        rename_i e1 e2
        exact ⟨corF_len e1, sizF_len e2⟩
      · cases h
    · cases h
  · cases h
end Cut
end
section
set_option Elab.async false
set_option linter.all false
set_option maxRecDepth 100000
set_option maxHeartbeats 2000000
namespace Cut
open Jo
def b2i (c : UInt8) : Int := (c.toNat : Int)
def ib (t : Bytes) : List Int := t.map b2i
theorem b2i_inj {a b : UInt8} (h : b2i a = b2i b) : a = b := by
  unfold b2i at h
  exact UInt8.toNat_inj.mp (by omega)
theorem ib_inj : ∀ {a b : Bytes}, ib a = ib b → a = b
  | [], [], _ => rfl
  | [], _ :: _, h => by cases h
  | _ :: _, [], h => by cases h
  | x :: a, y :: b, h => by
    have h1 : b2i x = b2i y := (List.cons.inj h).1
    have h2 : ib a = ib b := (List.cons.inj h).2
    rw [b2i_inj h1, ib_inj h2]
theorem part_cutAt (c : UInt8) : ∀ t : Bytes, part (b2i c) (ib t) = (cutAt c t).map ib
  | [] => rfl
  | x :: r => by
    have ih := part_cutAt c r
    show part (b2i c) (b2i x :: ib r) = _
    by_cases h : x = c
    · subst h
      rw [part, if_pos rfl, cutAt, if_pos rfl, ih]
      rfl
    · rw [part, if_neg (fun z => h (b2i_inj z)), cutAt, if_neg h, ih]
      cases e : cutAt c r with
      | nil => rfl
      | cons w l => rfl
theorem cutAt_ne (c : UInt8) (t : Bytes) : cutAt c t ≠ [] := fun h => by
  have := part_ne (b2i c) (ib t)
  rw [part_cutAt, h] at this
  exact this rfl
theorem cutAt_word (c : UInt8) : ∀ w : Bytes, c ∉ w → cutAt c w = [w]
  | [], _ => rfl
  | x :: w, h => by
    have h1 : ¬ x = c := fun z => h (by simp [z])
    have h2 : c ∉ w := fun z => h (by simp [z])
    rw [cutAt, if_neg h1, cutAt_word c w h2]
theorem cutAt_cons (c : UInt8) (r : Bytes) : ∀ w : Bytes, c ∉ w → cutAt c (w ++ c :: r) = w :: cutAt c r
  | [], _ => by
    show cutAt c (c :: r) = _
    rw [cutAt, if_pos rfl]
  | x :: w, h => by
    have h1 : ¬ x = c := fun z => h (by simp [z])
    have h2 : c ∉ w := fun z => h (by simp [z])
    show cutAt c (x :: (w ++ c :: r)) = _
    rw [cutAt, if_neg h1, cutAt_cons c r w h2]
theorem cutAt_spaced : ∀ ws : List Bytes, ws ≠ [] → (∀ w ∈ ws, (32 : UInt8) ∉ w) → cutAt 32 (spaced ws) = ws
  | [], h, _ => absurd rfl h
  | [w], _, h => cutAt_word 32 w (h w (by simp))
  | w :: v :: r, _, h => by
    show cutAt 32 (w ++ (32 :: spaced (v :: r))) = _
    rw [cutAt_cons 32 _ w (h w (by simp)), cutAt_spaced (v :: r) (by simp) fun x hx => h x (by simp at hx ⊢; exact .inr hx)]
theorem spaced_cutAt : ∀ b : Bytes, spaced (cutAt 32 b) = b
  | [] => rfl
  | x :: r => by
    have ih := spaced_cutAt r
    by_cases h : x = 32
    · rw [cutAt, if_pos h]
      cases e : cutAt 32 r with
      | nil => exact absurd e (cutAt_ne 32 r)
      | cons w l =>
        rw [e] at ih
        show [] ++ (32 :: spaced (w :: l)) = _
        rw [ih, h]
        rfl
    · rw [cutAt, if_neg h]
      cases e : cutAt 32 r with
      | nil => exact absurd e (cutAt_ne 32 r)
      | cons w l =>
        rw [e] at ih
        cases l with
        | nil =>
          show x :: w = x :: r
          rw [show w = r from ih]
        | cons v l =>
          show (x :: w) ++ (32 :: spaced (v :: l)) = x :: r
          rw [← ih]
          rfl
def digit (c : UInt8) : Bool := decide (48 ≤ c.toNat) && decide (c.toNat ≤ 57)
theorem isDig_b2i (c : UInt8) : isDig (b2i c) = digit c := by
  unfold isDig digit b2i
  congr 1 <;> (apply decide_eq_decide.mpr; omega)
theorem all_dig : ∀ f : Bytes, (ib f).all isDig = f.all digit
  | [] => rfl
  | c :: f => by
    show (isDig (b2i c) && (ib f).all isDig) = _
    rw [isDig_b2i, all_dig f]
    rfl
def natStep (n : Nat) (c : UInt8) : Nat := 10 * n + (c.toNat - 48)
theorem natIn_eq (f : Bytes) : natIn f = f.foldl natStep 0 := rfl
theorem natIn_snoc (f : Bytes) (c : UInt8) : natIn (f ++ [c]) = 10 * natIn f + (c.toNat - 48) := by
  rw [natIn_eq, List.foldl_append]
  rfl
theorem fold_cap : ∀ (f : Bytes) (n : Nat), (ib f).foldl digStep (min n 17) = min (f.foldl natStep n) 17
  | [], n => rfl
  | c :: f, n => by
    show (ib f).foldl digStep (digStep (min n 17) (b2i c)) = min (f.foldl natStep (natStep n c)) 17
    rw [← fold_cap f]
    congr 1
    unfold digStep natStep b2i
    omega
theorem numF_ib (f : Bytes) : numF (ib f) = if f = [] then none else if f.all digit = false then none else if f.headD 0 = 48 ∧ 1 < f.length then none else some (min (natIn f) 17) := by
  unfold numF
  have e1 : (ib f = []) ↔ (f = []) := by
    cases f with
    | nil => simp [ib]
    | cons c f => simp [ib]
  have e2 : ((ib f).headD 0 = 48 ∧ 1 < (ib f).length) ↔ (f.headD 0 = 48 ∧ 1 < f.length) := by
    cases f with
    | nil => simp [ib]
    | cons c f =>
      show (b2i c = 48 ∧ 1 < (ib (c :: f)).length) ↔ (c = 48 ∧ _)
      rw [show (ib (c :: f)).length = (c :: f).length from List.length_map _]
      constructor
      · rintro ⟨h1, h2⟩
        exact ⟨b2i_inj (b := 48) h1, h2⟩
      · rintro ⟨h1, h2⟩
        exact ⟨by rw [h1]; rfl, h2⟩
  rw [all_dig]
  by_cases h1 : f = []
  · rw [if_pos (e1.mpr h1), if_pos h1]
  · rw [if_neg (fun z => h1 (e1.mp z)), if_neg h1]
    split
    · rfl
    · by_cases h2 : f.headD 0 = 48 ∧ 1 < f.length
      · rw [if_pos (e2.mpr h2), if_pos h2]
      · rw [if_neg (fun z => h2 (e2.mp z)), if_neg h2]
        have := fold_cap f 0
        rw [show min 0 17 = 0 from rfl] at this
        rw [this]
        rfl
/-- a number told in its one way -/
def canon (f : Bytes) : Prop := f ≠ [] ∧ f.all digit = true ∧ ¬ (f.headD 0 = 48 ∧ 1 < f.length)
theorem numF_some {f : Bytes} {m : Nat} (h : numF (ib f) = some m) : canon f ∧ m = min (natIn f) 17 := by
  rw [numF_ib] at h
  split at h
  · cases h
  · rename_i h1
    split at h
    · cases h
    · rename_i h2
      split at h
      · cases h
      · rename_i h3
        exact ⟨⟨h1, by simpa using h2, h3⟩, (Option.some.inj h).symm⟩
theorem numF_canon {f : Bytes} (h : canon f) : numF (ib f) = some (min (natIn f) 17) := by
  rw [numF_ib, if_neg h.1, if_neg (by rw [h.2.1]; simp), if_neg h.2.2]
theorem dec_digit : ∀ d : Nat, d < 10 → decimal d = [UInt8.ofNat (d + 48)]
  | 0, _ => by decide
  | 1, _ => by decide
  | 2, _ => by decide
  | 3, _ => by decide
  | 4, _ => by decide
  | 5, _ => by decide
  | 6, _ => by decide
  | 7, _ => by decide
  | 8, _ => by decide
  | 9, _ => by decide
  | n + 10, h => by omega
theorem dec_append {n d : Nat} (hn : 0 < n) (hd : d < 10) : decimal (10 * n + d) = decimal n ++ [UInt8.ofNat (d + 48)] := by
  rw [← dec_digit d hd]
  unfold decimal
  rw [← Nat.toDigits_append_toDigits (by decide) hn hd, List.map_append]
theorem head_append {f : Bytes} {c : UInt8} (h : f ≠ []) : (f ++ [c]).headD 0 = f.headD 0 := by
  cases f with
  | nil => exact absurd rfl h
  | cons a f => rfl
theorem dig_one (d : Nat) (h : d < 10) : digit (UInt8.ofNat (d + 48)) = true ∧ (UInt8.ofNat (d + 48)).toNat = d + 48 := by
  have e : (UInt8.ofNat (d + 48)).toNat = d + 48 := by
    rw [UInt8.toNat_ofNat']
    omega
  refine ⟨?_, e⟩
  unfold digit
  rw [e]
  simp
  omega
theorem dec_canon (n : Nat) : canon (decimal n) ∧ natIn (decimal n) = n ∧ (0 < n → (decimal n).headD 0 ≠ 48) := by
  induction n using Nat.strongRecOn with
  | _ n ih =>
    by_cases h : n < 10
    · obtain ⟨h1, h2⟩ := dig_one n h
      rw [dec_digit n h]
      refine ⟨⟨by simp, by rw [List.all_cons, h1]; rfl, by simp⟩, ?_, fun h0 z => ?_⟩
      · show 10 * 0 + ((UInt8.ofNat (n + 48)).toNat - 48) = n
        rw [h2]
        omega
      · have e : UInt8.ofNat (n + 48) = 48 := z
        rw [e] at h2
        have : (48 : UInt8).toNat = 48 := rfl
        omega
    · have hn : 0 < n / 10 := by omega
      have hd : n % 10 < 10 := by omega
      obtain ⟨⟨c1, c2, c3⟩, i2, i3⟩ := ih (n / 10) (by omega)
      obtain ⟨d1, d2⟩ := dig_one (n % 10) hd
      have e : n = 10 * (n / 10) + n % 10 := by omega
      have e2 := dec_append hn hd
      rw [← e] at e2
      rw [e2]
      refine ⟨⟨by simp, by simp only [List.all_append, c2, List.all_cons, d1, List.all_nil, Bool.and_self], ?_⟩, ?_, fun _ => ?_⟩
      · rw [head_append c1]
        rintro ⟨z, _⟩
        exact i3 hn z
      · rw [natIn_snoc, i2, d2]
        omega
      · rw [head_append c1]
        exact i3 hn
theorem snoc_ind {α : Type} {p : List α → Prop} (h0 : p []) (h1 : ∀ l a, p l → p (l ++ [a])) (l : List α) : p l := by
  have : ∀ n, ∀ l : List α, l.length = n → p l := by
    intro n
    induction n with
    | zero => intro l h; rw [List.length_eq_zero_iff.mp h]; exact h0
    | succ n ih =>
      intro l h
      have hne : l ≠ [] := fun z => by rw [z] at h; simp at h
      rw [← List.dropLast_concat_getLast hne]
      exact h1 _ _ (ih _ (by simp [h]))
  exact this _ l rfl
theorem canon_dec : ∀ f : Bytes, canon f → decimal (natIn f) = f := by
  refine snoc_ind (fun h => absurd rfl h.1) fun f c ih h => ?_
  obtain ⟨_, h2, h3⟩ := h
  rw [List.all_append, Bool.and_eq_true] at h2
  have hc : digit c = true := by simpa using h2.2
  unfold digit at hc
  rw [Bool.and_eq_true] at hc
  have hc1 : 48 ≤ c.toNat := of_decide_eq_true hc.1
  have hc2 : c.toNat ≤ 57 := of_decide_eq_true hc.2
  have ec : UInt8.ofNat (c.toNat - 48 + 48) = c := by rw [show c.toNat - 48 + 48 = c.toNat by omega]; exact UInt8.ofNat_toNat
  rw [natIn_snoc]
  by_cases hf : f = []
  · subst hf
    rw [show 10 * natIn [] + (c.toNat - 48) = c.toNat - 48 from by show 10 * 0 + _ = _; omega, dec_digit _ (by omega), ec]
    rfl
  · have hh : ¬ f.headD 0 = 48 := fun z => h3 ⟨by rw [head_append hf]; exact z, by
      cases f with
      | nil => exact absurd rfl hf
      | cons a f => simp⟩
    have hcf : canon f := ⟨hf, h2.1, fun z => hh z.1⟩
    have i := ih hcf
    have hp : 0 < natIn f := by
      apply Nat.pos_of_ne_zero
      intro z
      rw [z] at i
      rw [← i] at hh
      exact hh rfl
    rw [dec_append hp (by omega), i, ec]
theorem no_blank {f : Bytes} (h : f.all digit = true) : (32 : UInt8) ∉ f := fun z => by
  have := List.all_eq_true.mp h 32 z
  exact absurd this (by decide)
end Cut
end
section
set_option Elab.async false
set_option linter.all false
set_option maxRecDepth 100000
set_option maxHeartbeats 2000000
namespace Cut
open Jo
def inB (n : Nat) : Prop := 1 ≤ n ∧ n ≤ 16
theorem within_iff {n : Nat} : within 1 SIDE n = true ↔ inB n := by
  unfold within SIDE inB
  rw [Bool.and_eq_true]
  constructor
  · rintro ⟨h1, h2⟩
    exact ⟨of_decide_eq_true h1, of_decide_eq_true h2⟩
  · rintro ⟨h1, h2⟩
    exact ⟨decide_eq_true h1, decide_eq_true h2⟩
theorem grains3 : ∀ g : Nat, g ≤ 2 → (GRAINS.findIdx? fun (y : Bytes) => y == GRAINS.getD g []) = some g ∧ (32 : UInt8) ∉ GRAINS.getD g [] ∧ grainF (ib (GRAINS.getD g [])) = some g
  | 0, _ => by decide
  | 1, _ => by decide
  | 2, _ => by decide
  | n + 3, h => by omega
theorem lineIn_part {b n : Bytes} {w d h g : Nat} (e : cutAt 32 b = [ascii "part", n, decimal w, decimal d, decimal h, GRAINS.getD g []]) (hn : nameOk n = true) (hw : inB w) (hd : inB d) (hh : inB h) (hg : g ≤ 2) : lineIn b = some (.part n w d h g) := by
  have em : lineMaybe b = some (.part n w d h g) := by
    unfold lineMaybe
    rw [e]
    show (if ascii "part" = ascii "part" then _ else _) = _
    rw [if_pos rfl]
    show Option.map (fun (g' : Nat) => Line.part n (natIn (decimal w)) (natIn (decimal d)) (natIn (decimal h)) g') (GRAINS.findIdx? fun (y : Bytes) => y == GRAINS.getD g []) = _
    rw [(grains3 g hg).1, (dec_canon w).2.1, (dec_canon d).2.1, (dec_canon h).2.1]
    rfl
  have eo : (Line.part n w d h g).ok = true := by
    show (nameOk n && (within 1 SIDE w && (within 1 SIDE d && (within 1 SIDE h && decide (g ≤ 2))))) = true
    rw [hn, within_iff.mpr hw, within_iff.mpr hd, within_iff.mpr hh, decide_eq_true hg]
    rfl
  have et : (Line.part n w d h g).text = b := by
    show spaced [ascii "part", n, decimal w, decimal d, decimal h, GRAINS.getD g []] = b
    rw [← e, spaced_cutAt]
  unfold lineIn
  rw [em]
  show (if (Line.part n w d h g).ok = true ∧ (Line.part n w d h g).text = b then some (Line.part n w d h g) else none) = _
  rw [if_pos ⟨eo, et⟩]
theorem lineIn_cut {b : Bytes} {x : Box} (e : cutAt 32 b = ascii "cut" :: [x.x, x.y, x.z, x.w, x.d, x.h].map decimal) (hw : inB x.w) (hd : inB x.d) (hh : inB x.h) : lineIn b = some (.cut x) := by
  have em : lineMaybe b = some (.cut x) := by
    unfold lineMaybe
    rw [e]
    show (if ascii "cut" = ascii "part" then _ else if ascii "cut" = ascii "cut" then _ else _) = _
    rw [if_neg (by decide), if_pos rfl]
    show some (Line.cut ⟨natIn (decimal x.x), natIn (decimal x.y), natIn (decimal x.z), natIn (decimal x.w), natIn (decimal x.d), natIn (decimal x.h)⟩) = _
    rw [(dec_canon _).2.1, (dec_canon _).2.1, (dec_canon _).2.1, (dec_canon _).2.1, (dec_canon _).2.1, (dec_canon _).2.1]
  have eo : (Line.cut x).ok = true := by
    show (within 1 SIDE x.w && (within 1 SIDE x.d && within 1 SIDE x.h)) = true
    rw [within_iff.mpr hw, within_iff.mpr hd, within_iff.mpr hh]
    rfl
  have et : (Line.cut x).text = b := by
    show spaced (ascii "cut" :: [x.x, x.y, x.z, x.w, x.d, x.h].map decimal) = b
    rw [← e, spaced_cutAt]
  unfold lineIn
  rw [em]
  show (if (Line.cut x).ok = true ∧ (Line.cut x).text = b then some (Line.cut x) else none) = _
  rw [if_pos ⟨eo, et⟩]
theorem isNam_ib (n : Bytes) : isNam (ib n) = nameOk n := by
  unfold isNam nameOk
  rw [show (ib n).length = n.length from List.length_map _]
  congr 2
  induction n with
  | nil => rfl
  | cons c n ih =>
    show ((isDig (b2i c) || isLet (b2i c)) && (ib n).all fun c => isDig c || isLet c) = _
    rw [ih, List.all_cons]
    congr 1
    rw [Bool.or_comm]
    have h1 : ∀ k : UInt8, ((b2i k ≤ b2i c) ↔ k ≤ c) ∧ ((b2i c ≤ b2i k) ↔ c ≤ k) := fun k => by
      rw [UInt8.le_iff_toNat_le, UInt8.le_iff_toNat_le]
      unfold b2i
      constructor <;> omega
    unfold isLet isDig
    congr 1 <;> congr 1 <;> apply decide_eq_decide.mpr
    · exact (h1 97).1
    · exact (h1 122).2
    · exact (h1 48).1
    · exact (h1 57).2
theorem name_blank {n : Bytes} (h : nameOk n = true) : (32 : UInt8) ∉ n := fun z => by
  unfold nameOk at h
  rw [Bool.and_eq_true, Bool.and_eq_true] at h
  exact absurd (List.all_eq_true.mp h.2.2 32 z) (by decide)
theorem size_one {f : Bytes} (h : okSize (numF (ib f)) = true) : ∃ w, numF (ib f) = some w ∧ inB w ∧ f = decimal w := by
  cases e : numF (ib f) with
  | none => rw [e] at h; cases h
  | some w =>
    rw [e] at h
    unfold okSize at h
    rw [Bool.and_eq_true] at h
    have h1 : 1 ≤ w := of_decide_eq_true h.1
    have h2 : w ≤ 16 := of_decide_eq_true h.2
    obtain ⟨c, em⟩ := numF_some e
    have : natIn f = w := by omega
    exact ⟨w, rfl, ⟨h1, h2⟩, by rw [← this, canon_dec f c]⟩
theorem size_dec {w : Nat} (h : inB w) : numF (ib (decimal w)) = some w := by
  obtain ⟨h1, h2⟩ := h
  rw [numF_canon (dec_canon w).1, (dec_canon w).2.1]
  congr 1
  omega
theorem ok_of {w : Nat} (h : inB w) : okSize (some w) = true := by
  show (decide (1 ≤ w) && decide (w ≤ 16)) = true
  rw [decide_eq_true h.1, decide_eq_true h.2]
  rfl
theorem sizF_ib {f1 f2 f3 : Bytes} {s : List Nat} (h : sizF [ib f1, ib f2, ib f3] = some s) : ∃ w d k, s = [w, d, k] ∧ inB w ∧ inB d ∧ inB k ∧ f1 = decimal w ∧ f2 = decimal d ∧ f3 = decimal k := by
  unfold sizF at h
  split at h
  · rename_i ha
    have ha : (okSize (numF (ib f1)) && (okSize (numF (ib f2)) && (okSize (numF (ib f3)) && true))) = true := ha
    rw [Bool.and_eq_true, Bool.and_eq_true, Bool.and_eq_true] at ha
    obtain ⟨h1, h2, h3, _⟩ := ha
    obtain ⟨w, e1, b1, g1⟩ := size_one h1
    obtain ⟨d, e2, b2, g2⟩ := size_one h2
    obtain ⟨k, e3, b3, g3⟩ := size_one h3
    have h : some [(numF (ib f1)).getD 0, (numF (ib f2)).getD 0, (numF (ib f3)).getD 0] = some s := h
    rw [e1, e2, e3] at h
    exact ⟨w, d, k, (Option.some.inj h).symm, b1, b2, b3, g1, g2, g3⟩
  · cases h
theorem sizF_dec {w d k : Nat} (h1 : inB w) (h2 : inB d) (h3 : inB k) : sizF [ib (decimal w), ib (decimal d), ib (decimal k)] = some [w, d, k] := by
  unfold sizF
  show (if (okSize (numF (ib (decimal w))) && (okSize (numF (ib (decimal d))) && (okSize (numF (ib (decimal k))) && true))) = true then some [(numF (ib (decimal w))).getD 0, (numF (ib (decimal d))).getD 0, (numF (ib (decimal k))).getD 0] else none) = _
  rw [size_dec h1, size_dec h2, size_dec h3, ok_of h1, ok_of h2, ok_of h3]
  rfl
theorem corF_ib {f1 f2 f3 : Bytes} {s : List Nat} (h : corF [ib f1, ib f2, ib f3] = some s) : ∃ x y z, s = [min x 17, min y 17, min z 17] ∧ f1 = decimal x ∧ f2 = decimal y ∧ f3 = decimal z := by
  unfold corF at h
  split at h
  · rename_i ha
    have ha : ((numF (ib f1)).isSome && ((numF (ib f2)).isSome && ((numF (ib f3)).isSome && true))) = true := ha
    rw [Bool.and_eq_true, Bool.and_eq_true, Bool.and_eq_true] at ha
    obtain ⟨h1, h2, h3, _⟩ := ha
    obtain ⟨m1, e1⟩ := Option.isSome_iff_exists.mp h1
    obtain ⟨m2, e2⟩ := Option.isSome_iff_exists.mp h2
    obtain ⟨m3, e3⟩ := Option.isSome_iff_exists.mp h3
    have h : some [(numF (ib f1)).getD 0, (numF (ib f2)).getD 0, (numF (ib f3)).getD 0] = some s := h
    rw [e1, e2, e3] at h
    obtain ⟨c1, q1⟩ := numF_some e1
    obtain ⟨c2, q2⟩ := numF_some e2
    obtain ⟨c3, q3⟩ := numF_some e3
    have h : [m1, m2, m3] = s := Option.some.inj h
    rw [q1, q2, q3] at h
    exact ⟨natIn f1, natIn f2, natIn f3, h.symm, (canon_dec f1 c1).symm, (canon_dec f2 c2).symm, (canon_dec f3 c3).symm⟩
  · cases h
theorem corF_dec (x y z : Nat) : corF [ib (decimal x), ib (decimal y), ib (decimal z)] = some [min x 17, min y 17, min z 17] := by
  unfold corF
  show (if ((numF (ib (decimal x))).isSome && ((numF (ib (decimal y))).isSome && ((numF (ib (decimal z))).isSome && true))) = true then some [(numF (ib (decimal x))).getD 0, (numF (ib (decimal y))).getD 0, (numF (ib (decimal z))).getD 0] else none) = _
  rw [numF_canon (dec_canon x).1, numF_canon (dec_canon y).1, numF_canon (dec_canon z).1, (dec_canon x).2.1, (dec_canon y).2.1, (dec_canon z).2.1]
  rfl
theorem grainF_ib {f : Bytes} {g : Nat} (h : grainF (ib f) = some g) : g ≤ 2 ∧ f = GRAINS.getD g [] := by
  unfold grainF at h
  split at h
  · rename_i e
    cases h
    exact ⟨by omega, ib_inj (b := [120]) e⟩
  · split at h
    · rename_i e
      cases h
      exact ⟨by omega, ib_inj (b := [121]) e⟩
    · split at h
      · rename_i e
        cases h
        exact ⟨by omega, ib_inj (b := [122]) e⟩
      · cases h
/-- a line of the block -/
theorem line_part {b : Bytes} {m : List Int} {s : List Nat} {g : Nat} (h : blkF ((cutAt 32 b).map ib) = some (m, s, g)) : ∃ n w d k, m = ib n ∧ s = [w, d, k] ∧ lineIn b = some (.part n w d k g) ∧ nameOk n = true ∧ inB w ∧ inB d ∧ inB k ∧ g ≤ 2 := by
  generalize hr : cutAt 32 b = r at h
  match r, h with
  | [r0, r1, r2, r3, r4, r5], h =>
    have h : blkF [ib r0, ib r1, ib r2, ib r3, ib r4, ib r5] = some (m, s, g) := h
    rw [blkF_six] at h
    split at h
    · rename_i e0
      split at h
      · rename_i e1
        cases es : sizF [ib r2, ib r3, ib r4] with
        | none => rw [es] at h; cases h
        | some s' =>
          cases eg : grainF (ib r5) with
          | none => rw [es, eg] at h; cases h
          | some g' =>
            rw [es, eg] at h
            cases h
            obtain ⟨w, d, k, e, b1, b2, b3, q1, q2, q3⟩ := sizF_ib es
            obtain ⟨hg, q5⟩ := grainF_ib eg
            rw [isNam_ib] at e1
            have q0 : r0 = ascii "part" := ib_inj (by rw [e0]; decide)
            exact ⟨r1, w, d, k, rfl, e, lineIn_part (by rw [hr, q0, q1, q2, q3, q5]) e1 b1 b2 b3 hg, e1, b1, b2, b3, hg⟩
      · cases h
    · cases h
  | [], h => cases h
  | [_], h => cases h
  | [_, _], h => cases h
  | [_, _, _], h => cases h
  | [_, _, _, _], h => cases h
  | [_, _, _, _, _], h => cases h
  | _ :: _ :: _ :: _ :: _ :: _ :: _ :: _, h => rw [blkF_len (by simp)] at h; cases h
/-- a line of a cut -/
theorem line_cut {b : Bytes} {x s : List Nat} (h : cutF ((cutAt 32 b).map ib) = some (x, s)) : ∃ y : Box, x = [min y.x 17, min y.y 17, min y.z 17] ∧ s = [y.w, y.d, y.h] ∧ lineIn b = some (.cut y) ∧ inB y.w ∧ inB y.d ∧ inB y.h := by
  generalize hr : cutAt 32 b = r at h
  match r, h with
  | [r0, r1, r2, r3, r4, r5, r6], h =>
    have h : cutF [ib r0, ib r1, ib r2, ib r3, ib r4, ib r5, ib r6] = some (x, s) := h
    rw [cutF_seven] at h
    split at h
    · rename_i e0
      cases ec : corF [ib r1, ib r2, ib r3] with
      | none => rw [ec] at h; cases h
      | some x' =>
        cases es : sizF [ib r4, ib r5, ib r6] with
        | none => rw [ec, es] at h; cases h
        | some s' =>
          rw [ec, es] at h
          cases h
          obtain ⟨w, d, k, e, b1, b2, b3, q4, q5, q6⟩ := sizF_ib es
          obtain ⟨x1, y1, z1, e', q1, q2, q3⟩ := corF_ib ec
          have q0 : r0 = ascii "cut" := ib_inj (by rw [e0]; decide)
          exact ⟨⟨x1, y1, z1, w, d, k⟩, e', e, lineIn_cut (x := ⟨x1, y1, z1, w, d, k⟩) (by rw [hr, q0, q1, q2, q3, q4, q5, q6]; rfl) b1 b2 b3, b1, b2, b3⟩
    · cases h
  | [], h => cases h
  | [_], h => cases h
  | [_, _], h => cases h
  | [_, _, _], h => cases h
  | [_, _, _, _], h => cases h
  | [_, _, _, _, _], h => cases h
  | [_, _, _, _, _, _], h => cases h
  | _ :: _ :: _ :: _ :: _ :: _ :: _ :: _ :: _, h => rw [cutF_len (by simp)] at h; cases h
theorem lineIn_some {b : Bytes} {x : Line} (h : lineIn b = some x) : x.ok = true ∧ x.text = b := by
  unfold lineIn at h
  cases e : lineMaybe b with
  | none => rw [e] at h; cases h
  | some y =>
    rw [e] at h
    have h : (if y.ok = true ∧ y.text = b then some y else none) = some x := h
    split at h
    · rename_i hy
      cases h
      exact hy
    · cases h
/-- any other line -/
theorem line_none {b : Bytes} (h1 : blkF ((cutAt 32 b).map ib) = none) (h2 : cutF ((cutAt 32 b).map ib) = none) : lineIn b = none := by
  cases e : lineIn b with
  | none => rfl
  | some x =>
    exfalso
    obtain ⟨ho, ht⟩ := lineIn_some e
    cases x with
    | part n w d k g =>
      have ho : (nameOk n && (within 1 SIDE w && (within 1 SIDE d && (within 1 SIDE k && decide (g ≤ 2))))) = true := ho
      rw [Bool.and_eq_true, Bool.and_eq_true, Bool.and_eq_true, Bool.and_eq_true] at ho
      obtain ⟨hn, hw, hd, hk, hg⟩ := ho
      have hw := within_iff.mp hw
      have hd := within_iff.mp hd
      have hk := within_iff.mp hk
      have hg : g ≤ 2 := of_decide_eq_true hg
      have ht : spaced [ascii "part", n, decimal w, decimal d, decimal k, GRAINS.getD g []] = b := ht
      have ec : cutAt 32 b = [ascii "part", n, decimal w, decimal d, decimal k, GRAINS.getD g []] := by
        rw [← ht]
        refine cutAt_spaced _ (by simp) fun v hv => ?_
        simp only [List.mem_cons, List.not_mem_nil, or_false] at hv
        rcases hv with z | z | z | z | z | z
        · rw [z]; decide
        · rw [z]; exact name_blank hn
        · rw [z]; exact no_blank (dec_canon _).1.2.1
        · rw [z]; exact no_blank (dec_canon _).1.2.1
        · rw [z]; exact no_blank (dec_canon _).1.2.1
        · rw [z]; exact (grains3 g hg).2.1
      rw [ec] at h1
      have h1 : blkF [ib (ascii "part"), ib n, ib (decimal w), ib (decimal d), ib (decimal k), ib (GRAINS.getD g [])] = none := h1
      rw [blkF_six, if_pos (by decide), if_pos (by rw [isNam_ib]; exact hn), sizF_dec hw hd hk, (grains3 g hg).2.2] at h1
      cases h1
    | cut y =>
      have ho : (within 1 SIDE y.w && (within 1 SIDE y.d && within 1 SIDE y.h)) = true := ho
      rw [Bool.and_eq_true, Bool.and_eq_true] at ho
      obtain ⟨hw, hd, hk⟩ := ho
      have hw := within_iff.mp hw
      have hd := within_iff.mp hd
      have hk := within_iff.mp hk
      have ht : spaced (ascii "cut" :: [y.x, y.y, y.z, y.w, y.d, y.h].map decimal) = b := ht
      have ec : cutAt 32 b = [ascii "cut", decimal y.x, decimal y.y, decimal y.z, decimal y.w, decimal y.d, decimal y.h] := by
        rw [← ht]
        refine cutAt_spaced _ (by simp) fun v hv => ?_
        simp only [List.map_cons, List.map_nil, List.mem_cons, List.not_mem_nil, or_false] at hv
        rcases hv with z | z | z | z | z | z | z
        · rw [z]; decide
        all_goals (rw [z]; exact no_blank (dec_canon _).1.2.1)
      rw [ec] at h2
      have h2 : cutF [ib (ascii "cut"), ib (decimal y.x), ib (decimal y.y), ib (decimal y.z), ib (decimal y.w), ib (decimal y.d), ib (decimal y.h)] = none := h2
      rw [cutF_seven, if_pos (by decide), corF_dec, sizF_dec hw hd hk] at h2
      cases h2
end Cut
end
section
set_option Elab.async false
set_option linter.all false
set_option maxRecDepth 100000
set_option maxHeartbeats 2000000
namespace Cut
open Jo
def box2 (y : Box) : List Nat × List Nat := ([y.x, y.y, y.z], [y.w, y.d, y.h])
/-- a cut that is right in its block -/
structure BoxIn (w d h : Nat) (y : Box) : Prop where
  w1 : 1 ≤ y.w
  d1 : 1 ≤ y.d
  h1 : 1 ≤ y.h
  xw : y.x + y.w ≤ w
  yd : y.y + y.d ≤ d
  zh : y.z + y.h ≤ h
inductive Rel : List Line → RS → Prop
  | nil : Rel [] ⟨none, []⟩
  | part {n : Bytes} {w d h g : Nat} {bs : List Box} : nameOk n = true → inB w → inB d → inB h → g ≤ 2 → bs.length ≤ 64 → (∀ y ∈ bs, BoxIn w d h y) → Rel (.part n w d h g :: bs.map Line.cut) ⟨some (ib n, [w, d, h], g), bs.map box2⟩
theorem min17 {x w W : Nat} (hW : W ≤ 16) (hw : 1 ≤ w) : min x 17 + w ≤ W ↔ x + w ≤ W := by omega
/-- one line -/
theorem take_sim {l : List Line} {st : RS} (R : Rel l st) (b : Bytes) : match lineIn b with
    | none => (takeF st (ib b)).1 = 1
    | some x => (takeF st (ib b)).1 = wrongOf l x ∧ (wrongOf l x = 0 → Rel (l ++ [x]) (takeF st (ib b)).2) := by
  have e32 : part 32 (ib b) = (cutAt 32 b).map ib := part_cutAt 32 b
  unfold takeF
  rw [e32]
  cases eb : blkF ((cutAt 32 b).map ib) with
  | some sg =>
    obtain ⟨m, s, g⟩ := sg
    obtain ⟨n, w, d, k, em, es, el, hn, hw, hd, hk, hg⟩ := line_part eb
    subst em es
    rw [el]
    show (takeBlkF st (ib n, [w, d, k], g)).1 = (if l = [] then 0 else 3) ∧ ((if l = [] then 0 else 3) = 0 → Rel (l ++ [.part n w d k g]) (takeBlkF st (ib n, [w, d, k], g)).2)
    cases R with
    | nil => exact ⟨rfl, fun _ => Rel.part (bs := []) hn hw hd hk hg (by simp) (by simp)⟩
    | part => exact ⟨rfl, fun z => absurd z (by rw [if_neg (by simp)]; decide)⟩
  | none =>
    cases ec : cutF ((cutAt 32 b).map ib) with
    | none =>
      rw [line_none eb ec]
    | some xs =>
      obtain ⟨x, s⟩ := xs
      obtain ⟨y, ex, es, el, hw, hd, hk⟩ := line_cut ec
      subst ex es
      rw [el]
      show (takeCutF st ([min y.x 17, min y.y 17, min y.z 17], [y.w, y.d, y.h])).1 = wrongOf l (.cut y) ∧ (wrongOf l (.cut y) = 0 → Rel (l ++ [.cut y]) (takeCutF st ([min y.x 17, min y.y 17, min y.z 17], [y.w, y.d, y.h])).2)
      cases R with
      | nil => exact ⟨rfl, fun z => absurd (show (3 : Nat) = 0 from z) (by decide)⟩
      | @part n w d h g bs hn bw bd bh hg h64 hin =>
        have ei : inF [min y.x 17, min y.y 17, min y.z 17] [y.w, y.d, y.h] [w, d, h] = (decide (y.x + y.w ≤ w) && (decide (y.y + y.d ≤ d) && (decide (y.z + y.h ≤ h) && true))) := by
          show (decide (min y.x 17 + y.w ≤ w) && (decide (min y.y 17 + y.d ≤ d) && (decide (min y.z 17 + y.h ≤ h) && true))) = _
          rw [decide_eq_decide.mpr (min17 bw.2 hw.1), decide_eq_decide.mpr (min17 bd.2 hd.1), decide_eq_decide.mpr (min17 bh.2 hk.1)]
        have ew : wrongOf (.part n w d h g :: bs.map Line.cut) (.cut y) = if w < y.x + y.w ∨ d < y.y + y.d ∨ h < y.z + y.h then 4 else if 64 ≤ bs.length then 2 else 0 := by
          show (if w < y.x + y.w ∨ d < y.y + y.d ∨ h < y.z + y.h then 4 else if CUTS ≤ (bs.map Line.cut).length then 2 else 0) = _
          rw [List.length_map]
          rfl
        rw [ew]
        by_cases ho : w < y.x + y.w ∨ d < y.y + y.d ∨ h < y.z + y.h
        · have e1 : inF [min y.x 17, min y.y 17, min y.z 17] [y.w, y.d, y.h] [w, d, h] = false := by
            rw [ei]
            simp
            omega
          rw [if_pos ho]
          have et : takeCutF ⟨some (ib n, [w, d, h], g), bs.map box2⟩ ([min y.x 17, min y.y 17, min y.z 17], [y.w, y.d, y.h]) = (4, ⟨some (ib n, [w, d, h], g), bs.map box2⟩) := by
            show (if inF [min y.x 17, min y.y 17, min y.z 17] [y.w, y.d, y.h] [w, d, h] = false then _ else _) = _
            rw [if_pos e1]
          rw [et]
          exact ⟨rfl, fun z => absurd z (by decide)⟩
        · have hx : y.x + y.w ≤ w := by omega
          have hy : y.y + y.d ≤ d := by omega
          have hz : y.z + y.h ≤ h := by omega
          have e1 : inF [min y.x 17, min y.y 17, min y.z 17] [y.w, y.d, y.h] [w, d, h] = true := by
            rw [ei, decide_eq_true hx, decide_eq_true hy, decide_eq_true hz]
            rfl
          rw [if_neg ho]
          by_cases h6 : 64 ≤ bs.length
          · have et : takeCutF ⟨some (ib n, [w, d, h], g), bs.map box2⟩ ([min y.x 17, min y.y 17, min y.z 17], [y.w, y.d, y.h]) = (2, ⟨some (ib n, [w, d, h], g), bs.map box2⟩) := by
              show (if inF [min y.x 17, min y.y 17, min y.z 17] [y.w, y.d, y.h] [w, d, h] = false then _ else if (bs.map box2).length = 64 then _ else _) = _
              rw [if_neg (by rw [e1]; simp), if_pos (by rw [List.length_map]; omega)]
            rw [et, if_pos h6]
            exact ⟨rfl, fun z => absurd z (by decide)⟩
          · have et : takeCutF ⟨some (ib n, [w, d, h], g), bs.map box2⟩ ([min y.x 17, min y.y 17, min y.z 17], [y.w, y.d, y.h]) = (0, ⟨some (ib n, [w, d, h], g), bs.map box2 ++ [([min y.x 17, min y.y 17, min y.z 17], [y.w, y.d, y.h])]⟩) := by
              show (if inF [min y.x 17, min y.y 17, min y.z 17] [y.w, y.d, y.h] [w, d, h] = false then _ else if (bs.map box2).length = 64 then _ else _) = _
              rw [if_neg (by rw [e1]; simp), if_neg (by rw [List.length_map]; omega)]
            rw [et, if_neg h6]
            refine ⟨rfl, fun _ => ?_⟩
            have hw16 := bw.2
            have hd16 := bd.2
            have hh16 := bh.2
            have m1 : min y.x 17 = y.x := by omega
            have m2 : min y.y 17 = y.y := by omega
            have m3 : min y.z 17 = y.z := by omega
            have q := Rel.part (n := n) (g := g) (bs := bs ++ [y]) hn bw bd bh hg (by rw [List.length_append]; simp; omega) (fun v hv => by
              rcases List.mem_append.mp hv with z | z
              · exact hin v z
              · rw [List.mem_singleton.mp z]
                exact ⟨hw.1, hd.1, hk.1, hx, hy, hz⟩)
            rw [List.map_append, List.map_append] at q
            rw [m1, m2, m3]
            exact q
/-- lines with their line feeds -/
theorem lines_sim : ∀ (ls : List Bytes) (k : Nat) {l : List Line} {st : RS}, Rel l st → match linesF k st (ls.map ib) with
    | (some e, _) => linesFrom false k l ls = .error e
    | (none, st') => ∃ l', linesFrom false k l ls = .ok l' ∧ Rel l' st' ∧ (l' = [] → l = [] ∧ ls = [])
  | [], k, l, st, R => ⟨l, rfl, R, fun h => ⟨h, rfl⟩⟩
  | b :: ls, k, l, st, R => by
    have ts := take_sim R b
    show match (if (takeF st (ib b)).1 = 0 then linesF (k + 1) (takeF st (ib b)).2 (ls.map ib) else (some (k, (takeF st (ib b)).1), (takeF st (ib b)).2)) with
      | (some e, _) => linesFrom false k l (b :: ls) = .error e
      | (none, st') => ∃ l', linesFrom false k l (b :: ls) = .ok l' ∧ Rel l' st' ∧ (l' = [] → l = [] ∧ b :: ls = [])
    have el : linesFrom false k l (b :: ls) = match lineIn b with
      | none => .error (k, 1)
      | some x => if wrongOf l x = 0 then linesFrom false (k + 1) (l ++ [x]) ls else .error (k, wrongOf l x) := rfl
    cases e : lineIn b with
    | none =>
      rw [e] at ts el
      have ts : (takeF st (ib b)).1 = 1 := ts
      rw [if_neg (by rw [ts]; decide), ts]
      exact el
    | some x =>
      rw [e] at ts el
      obtain ⟨t1, t2⟩ := ts
      by_cases h0 : wrongOf l x = 0
      · rw [if_pos (by rw [t1]; exact h0)]
        have el : linesFrom false k l (b :: ls) = linesFrom false (k + 1) (l ++ [x]) ls := by
          rw [el]
          show (if wrongOf l x = 0 then _ else _) = _
          rw [if_pos h0]
        have ih := lines_sim ls (k + 1) (t2 h0)
        rw [el]
        generalize hq : linesF (k + 1) (takeF st (ib b)).2 (ls.map ib) = q at ih
        obtain ⟨o, st'⟩ := q
        cases o with
        | some e => exact ih
        | none =>
          obtain ⟨l', h1, h2, h3⟩ := ih
          exact ⟨l', h1, h2, fun z => absurd (h3 z).1 (by simp)⟩
      · rw [if_neg (by rw [t1]; exact h0), t1]
        rw [el]
        show (if wrongOf l x = 0 then _ else _) = _
        rw [if_neg h0]
theorem lines_bare : ∀ (ls : List Bytes) (u : Bytes) (k : Nat) (l : List Line), linesFrom true k l (ls ++ [u]) = match linesFrom false k l ls with
    | .error e => .error e
    | .ok _ => .error (k + ls.length, 1)
  | [], u, k, l => rfl
  | b :: ls, u, k, l => by
    have e1 : linesFrom true k l (b :: (ls ++ [u])) = match lineIn b with
      | none => .error (k, 1)
      | some x => if wrongOf l x = 0 then linesFrom true (k + 1) (l ++ [x]) (ls ++ [u]) else .error (k, wrongOf l x) := by
      have h : (ls ++ [u]).isEmpty = false := by cases ls <;> rfl
      rw [linesFrom, h]
      rfl
    have e2 : linesFrom false k l (b :: ls) = match lineIn b with
      | none => .error (k, 1)
      | some x => if wrongOf l x = 0 then linesFrom false (k + 1) (l ++ [x]) ls else .error (k, wrongOf l x) := rfl
    show linesFrom true k l (b :: (ls ++ [u])) = _
    rw [e1, e2]
    cases lineIn b with
    | none => rfl
    | some x =>
      show (if wrongOf l x = 0 then _ else _) = match (if wrongOf l x = 0 then linesFrom false (k + 1) (l ++ [x]) ls else Except.error (k, wrongOf l x) : Except (Nat × Nat) (List Line)) with
        | Except.error e => Except.error e
        | Except.ok _ => Except.error (k + (b :: ls).length, 1)
      by_cases h : wrongOf l x = 0
      · rw [if_pos h, if_pos h, lines_bare ls u (k + 1) (l ++ [x])]
        rw [show k + (b :: ls).length = k + 1 + ls.length by rw [List.length_cons]; omega]
      · rw [if_neg h, if_neg h]
def bare (t : Bytes) : Bool := !t.isEmpty && t.getLast? != some 10
theorem bare_cons (c d : UInt8) (r : Bytes) : bare (c :: d :: r) = bare (d :: r) := by
  unfold bare
  rw [List.getLast?_cons_cons]
  rfl
theorem split_cut : ∀ t : Bytes, (bare t = false → cutAt 10 t = splitLines t ++ [[]]) ∧ (bare t = true → ∃ ls u, splitLines t = ls ++ [u] ∧ u ≠ [] ∧ cutAt 10 t = ls ++ [u])
  | [] => ⟨fun _ => rfl, fun h => absurd h (by decide)⟩
  | [c] => by
    by_cases h : c = 10
    · subst h
      exact ⟨fun _ => rfl, fun h => absurd h (by decide)⟩
    · have e1 : splitLines [c] = [[c]] := by
        show (if c = 10 then _ else _) = _
        rw [if_neg h]
        rfl
      have e2 : cutAt 10 [c] = [[c]] := by
        show (if c = 10 then _ else _) = _
        rw [if_neg h]
        rfl
      refine ⟨fun hb => ?_, fun _ => ⟨[], [c], e1, by simp, e2⟩⟩
      unfold bare at hb
      simp at hb
      exact absurd hb h
  | c :: d :: r => by
    obtain ⟨i1, i2⟩ := split_cut (d :: r)
    rw [bare_cons]
    have es : splitLines (c :: d :: r) = if c = 10 then [] :: splitLines (d :: r) else match splitLines (d :: r) with
      | [] => [[c]]
      | l :: m => (c :: l) :: m := rfl
    have ec : cutAt 10 (c :: d :: r) = if c = 10 then [] :: cutAt 10 (d :: r) else match cutAt 10 (d :: r) with
      | [] => [[c]]
      | w :: l => (c :: w) :: l := rfl
    have hne : splitLines (d :: r) ≠ [] := by
      show (if d = 10 then _ else _) ≠ _
      split
      · simp
      · split <;> simp
    rw [es, ec]
    by_cases h : c = 10
    · rw [if_pos h, if_pos h]
      refine ⟨fun hb => by rw [i1 hb]; rfl, fun hb => ?_⟩
      obtain ⟨ls, u, h1, h2, h3⟩ := i2 hb
      exact ⟨[] :: ls, u, by rw [h1]; rfl, h2, by rw [h3]; rfl⟩
    · rw [if_neg h, if_neg h]
      refine ⟨fun hb => ?_, fun hb => ?_⟩
      · have q := i1 hb
        cases e : splitLines (d :: r) with
        | nil => exact absurd e hne
        | cons w l => rw [e] at q; rw [q]; rfl
      · obtain ⟨ls, u, h1, h2, h3⟩ := i2 hb
        cases ls with
        | nil =>
          rw [h1, h3]
          exact ⟨[], c :: u, rfl, by simp, rfl⟩
        | cons v ls =>
          rw [h1, h3]
          exact ⟨(c :: v) :: ls, u, rfl, h2, rfl⟩
/-- what a part is read as -/
structure PRel (p : Part) (st : RS) : Prop where
  blk : st.blk = some (ib p.name, [p.w, p.d, p.h], p.grain)
  cuts : st.cuts = p.cuts.map box2
  name : nameOk p.name = true
  w : inB p.w
  d : inB p.d
  h : inB p.h
  g : p.grain ≤ 2
  few : p.cuts.length ≤ 64
  ins : ∀ y ∈ p.cuts, BoxIn p.w p.d p.h y
theorem filter_cuts : ∀ bs : List Box, (bs.map Line.cut).filterMap (fun (x : Line) => match x with
    | .cut b => some b
    | _ => none) = bs
  | [] => rfl
  | b :: bs => by
    show b :: (bs.map Line.cut).filterMap _ = _
    rw [filter_cuts bs]
/-- the whole text -/
theorem end_sim (t : Bytes) : match endF (part 10 (ib t)) with
    | (some e, _) => readPart t = .error e
    | (none, st) => ∃ p, readPart t = .ok p ∧ PRel p st := by
  have e10 : part 10 (ib t) = (cutAt 10 t).map ib := part_cutAt 10 t
  rw [e10]
  obtain ⟨h1, h2⟩ := split_cut t
  have er : readPart t = match linesFrom (bare t) 0 [] (splitLines t) with
    | .error e => .error e
    | .ok l => match partOf l with
      | some p => .ok p
      | none => .error (0, 3) := rfl
  rw [er]
  cases hb : bare t with
  | false =>
    rw [h1 hb, List.map_append]
    have ed : ((splitLines t).map ib ++ [[]].map ib).dropLast = (splitLines t).map ib := by simp
    have eg : ((splitLines t).map ib ++ [[]].map ib).getLastD [] = [] := by
      rw [List.getLastD_eq_getLast?, List.getLast?_append]
      rfl
    unfold endF
    rw [ed, eg]
    have ls := lines_sim (splitLines t) 0 Rel.nil
    generalize hq : linesF 0 ⟨none, []⟩ ((splitLines t).map ib) = q at ls
    obtain ⟨o, st⟩ := q
    cases o with
    | some e =>
      have ls : linesFrom false 0 [] (splitLines t) = .error e := ls
      show (match linesFrom false 0 [] (splitLines t) with
        | .error e => Except.error e
        | .ok l => match partOf l with
          | some p => .ok p
          | none => .error (0, 3)) = _
      rw [ls]
    | none =>
      obtain ⟨l', g1, g2, g3⟩ := ls
      rw [g1]
      show match (if ([] : List Int) = [] then (if (splitLines t).map ib = [] then (some (0, 3), st) else (none, st)) else _ : Option (Nat × Nat) × RS) with
        | (some e, _) => _
        | (none, st) => _
      rw [if_pos rfl]
      cases g2 with
      | nil =>
        obtain ⟨_, g4⟩ := g3 rfl
        rw [g4, List.map_nil, if_pos rfl]
        rfl
      | @part n w d h g bs hn bw bd bh hg h64 hin =>
        have hne : ¬ (splitLines t).map ib = [] := fun z => by
          have z' : splitLines t = [] := by simpa using z
          rw [z'] at g1
          have g1 : Except.ok [] = Except.ok (Line.part n w d h g :: bs.map Line.cut) := g1
          cases g1
        rw [if_neg hne]
        refine ⟨⟨n, w, d, h, g, bs⟩, ?_, ⟨rfl, rfl, hn, bw, bd, bh, hg, h64, hin⟩⟩
        show (match (some ⟨n, w, d, h, g, (bs.map Line.cut).filterMap fun (x : Line) => match x with
            | .cut b => some b
            | _ => none⟩ : Option Part) with
          | some p => Except.ok p
          | none => .error (0, 3)) = _
        rw [filter_cuts]
  | true =>
    obtain ⟨ls, u, s1, s2, s3⟩ := h2 hb
    rw [s3, s1, lines_bare, List.map_append]
    have ed : (ls.map ib ++ [u].map ib).dropLast = ls.map ib := by simp
    have eg : (ls.map ib ++ [u].map ib).getLastD [] = ib u := by
      rw [List.getLastD_eq_getLast?, List.getLast?_append]
      rfl
    unfold endF
    rw [ed, eg]
    have lsim := lines_sim ls 0 Rel.nil
    generalize hq : linesF 0 ⟨none, []⟩ (ls.map ib) = q at lsim
    obtain ⟨o, st⟩ := q
    cases o with
    | some e =>
      have lsim : linesFrom false 0 [] ls = .error e := lsim
      rw [lsim]
    | none =>
      obtain ⟨l', g1, g2, g3⟩ := lsim
      rw [g1]
      have hu : ¬ ib u = [] := fun z => s2 (by
        cases u with
        | nil => rfl
        | cons c u => cases z)
      show match (if ib u = [] then _ else (some ((ls.map ib).length, 1), st) : Option (Nat × Nat) × RS) with
        | (some e, _) => _
        | (none, st) => _
      rw [if_neg hu, List.length_map]
      show Except.error (0 + ls.length, 1) = _
      rw [Nat.zero_add]
theorem ib_bytes : ∀ ns : List Int, (∀ x ∈ ns, 0 ≤ x ∧ x ≤ 255) → ib (WqatdcNeutral.bytes ns) = ns
  | [], _ => rfl
  | x :: ns, h => by
    have h1 := h x (by simp)
    show b2i (UInt8.ofNat x.toNat) :: ib (WqatdcNeutral.bytes ns) = _
    rw [ib_bytes ns fun y hy => h y (by simp [hy])]
    congr 1
    unfold b2i
    rw [UInt8.toNat_ofNat']
    omega
theorem bytes_len (ns : List Int) : (WqatdcNeutral.bytes ns).length = ns.length := List.length_map _
/-- what every call does first -/
theorem read_sim {ns : List Int} (h : ∀ x ∈ ns, 0 ≤ x ∧ x ≤ 255) (hl : ¬ 16384 < ns.length) : match readF ns with
    | (some e, _) => readPart (WqatdcNeutral.bytes ns) = .error e
    | (none, st) => ∃ p, readPart (WqatdcNeutral.bytes ns) = .ok p ∧ PRel p st := by
  have e := end_sim (WqatdcNeutral.bytes ns)
  rw [ib_bytes ns h] at e
  unfold readF
  rw [if_neg hl]
  exact e
end Cut
end
section
set_option Elab.async false
set_option linter.all false
set_option maxRecDepth 100000
set_option maxHeartbeats 2000000
namespace L2
open PySem PySem.Spec PyProof.Rows
def FnIn (K : PySem.W.Frag) (x : Str) (st : Stmt) : Prop := ∃ (f : Addr) (fd : FuncData), PySem.W.nsIn K mainGlobals x = some (some (.ref f)) ∧ Fun K x x st f fd
theorem fn_in {K : PySem.W.Frag} {x : Str} {st : Stmt} {f : Addr} {oc : Value} {od an : Option Addr} {osl : Array (Option Value)} {kV doc pm cdv ct : Value} (a : PySem.W.nsIn K mainGlobals x = some (some (.ref f)))
    (l : K.lookup f = some ⟨oc, od, .func (PySem.W.fnOf x x (defArgs st) (defBody st) (defScope st) .none kV doc pm an cdv ct), osl⟩) (c : PySem.W.codeIn K cdv x = true) (k : PySem.W.keepIn K (.ref f) = true) : FnIn K x st :=
  ⟨f, _, a, fun_mk l c k⟩
structure ClsIn (K : PySem.W.Frag) (x qual : Str) (st : Stmt) (C : Addr) : Prop where
  at_ : PySem.W.nsIn K mainGlobals x = some (some (.ref C))
  cls : Cls K C
  makes : ∃ (f : Addr) (fd : FuncData), Mk K C f ∧ Fun K "__init__" qual st f fd
theorem cls_in {K : PySem.W.Frag} {x qual : Str} {st : Stmt} {C f : Addr} {oc : Value} {od an : Option Addr} {osl : Array (Option Value)} {kV doc pm cdv ct : Value} (aC : PySem.W.nsIn K mainGlobals x = some (some (.ref C)))
    (a : PySem.W.findIn K (.ref C) "__init__" = some (some (.ref f))) (i : PySem.W.isFn K (.ref f) = true) (l : K.lookup f = some ⟨oc, od, .func (PySem.W.fnOf "__init__" qual (defArgs st) (defBody st) (defScope st) .none kV doc pm an cdv ct), osl⟩)
    (c : PySem.W.codeIn K cdv qual = true) (k : PySem.W.keepIn K (.ref f) = true) (pg : PySem.W.plainGet K C Str.empty = true) (hd : PySem.W.hasDictIn K C = true) (po : PySem.W.plainOver K C = true)
    (sa : PySem.W.findIn K (.ref C) "__setattr__" = some (some (.builtin "object.__setattr__"))) (mk : PySem.W.makesIn K C = true) (kc : PySem.W.keepIn K (.ref C) = true) : ClsIn K x qual st C :=
  ⟨aC, ⟨pg, hd, po, sa⟩, ⟨f, _, ⟨mk, a, i, kc⟩, fun_mk l c k⟩⟩
section
variable {P : Program} {w : World} {K : PySem.W.Frag} {mg : Str → Option Value} {base h : Heap} {k : Nat} {x qual : Str} {ps : List Str} {sp : Sp} {st : Stmt} {C : Addr}
theorem FnIn.callee (i : FnIn K x st) (X : K.In h) (G : h.Ns mainGlobals mg) (hb : ∀ f fd, Fun K x x st f fd → Binds K fd ps []) (ok : ∀ f fd, Fun K x x st f fd → FnOk P w K mg base CX0 k f fd ps sp) : Callee P w K mg base k x ps sp := by
  obtain ⟨f, fd, a, F⟩ := i
  exact .mk' (PySem.W.mg_of X G a) F.kp (hb f fd F) (ok f fd F)
theorem ClsIn.maker (i : ClsIn K x qual st C) (X : K.In h) (G : h.Ns mainGlobals mg) (hb : ∀ f fd, Fun K "__init__" qual st f fd → Binds K fd ps []) (ok : ∀ f fd, Fun K "__init__" qual st f fd → FnOk P w K mg base CX0 k f fd ps sp) : Maker P w K mg base k x C ps sp := by
  obtain ⟨f, fd, m, F⟩ := i.makes
  exact ⟨⟨f, fd, m, PySem.W.mg_of X G i.at_, hb f fd F, ok f fd F⟩⟩
end
/-- a number of the module -/
def NumIn (K : PySem.W.Frag) (x : Str) (i : Int) : Prop := ∃ u, PySem.W.nsIn K mainGlobals x = some (some (.int i u))
theorem num_in {K : PySem.W.Frag} {x : Str} {i : Int} {u : Tok} (a : PySem.W.nsIn K mainGlobals x = some (some (.int i u))) : NumIn K x i := ⟨u, a⟩
theorem NumIn.mg {K : PySem.W.Frag} {x : Str} {i : Int} {h : Heap} {mg : Str → Option Value} (n : NumIn K x i) (X : K.In h) (G : h.Ns mainGlobals mg) : ∃ u, mg x = some (.int i u) := let ⟨u, a⟩ := n; ⟨u, PySem.W.mg_of X G a⟩
end L2
namespace Cut
open Jo
def flat (a : Wqatdc.Ans) : List Int := a.ret :: a.nums.map WqatdcNeutral.int
def refF (tl : Bool) (fault : Option (Nat × Nat)) : List Int := if tl = true then [-2] else match fault with
  | some (k, y) => [-6, (k : Int), (y : Int)]
  | none => []
def refN (ns : List Int) : List Int := refF (decide (16384 < ns.length)) (readF ns).1
/-- what every call answers, by the reading -/
theorem due {ns : List Int} (h : ∀ x ∈ ns, 0 ≤ x ∧ x ≤ 255) (f : Part → Wqatdc.Ans) : (refN ns ≠ [] ∧ flat (Wqatdc.ofPart (WqatdcNeutral.bytes ns) f) = refN ns) ∨
    (refN ns = [] ∧ ¬ 16384 < ns.length ∧ ∃ p, PRel p (readF ns).2 ∧ flat (Wqatdc.ofPart (WqatdcNeutral.bytes ns) f) = flat (f p)) := by
  unfold refN
  by_cases hl : 16384 < ns.length
  · left
    rw [decide_eq_true hl]
    refine ⟨by simp [refF], ?_⟩
    unfold Wqatdc.ofPart Wqatdc.LONGEST
    rw [bytes_len, if_pos hl]
    rfl
  · rw [decide_eq_false hl]
    have e := read_sim h hl
    have eo : Wqatdc.ofPart (WqatdcNeutral.bytes ns) f = match readPart (WqatdcNeutral.bytes ns) with
      | .ok p => f p
      | .error e => Wqatdc.faultAt e := by
      unfold Wqatdc.ofPart Wqatdc.LONGEST
      rw [bytes_len, if_neg hl]
      cases readPart (WqatdcNeutral.bytes ns) <;> rfl
    generalize readF ns = q at e ⊢
    obtain ⟨o, st⟩ := q
    cases o with
    | some ky =>
      left
      have e : readPart (WqatdcNeutral.bytes ns) = .error ky := e
      rw [eo, e]
      exact ⟨by simp [refF], rfl⟩
    | none =>
      right
      obtain ⟨p, e, R⟩ := e
      refine ⟨rfl, hl, p, R, ?_⟩
      rw [eo, e]
end Cut
end
section
set_option Elab.async false
set_option linter.all false
set_option maxRecDepth 100000
set_option maxHeartbeats 2000000
namespace Cut
open Jo
def cellAt (w d i : Nat) : Cell := (i % w, i / w % d, i / (w * d))
theorem places_eq (w d h : Nat) : places w d h = (List.range (w * d * h)).map (cellAt w d) := rfl
theorem cell_of {w d a b c : Nat} (ha : a < w) (hb : b < d) : cellAt w d ((c * d + b) * w + a) = (a, b, c) := by
  have hw : 0 < w := by omega
  have hd : 0 < d := by omega
  have e1 : ((c * d + b) * w + a) % w = a := by
    rw [Nat.mul_comm, Nat.mul_add_mod]
    exact Nat.mod_eq_of_lt ha
  have e2 : ((c * d + b) * w + a) / w = c * d + b := by
    rw [Nat.mul_comm, Nat.mul_add_div hw, Nat.div_eq_of_lt ha]
    omega
  have e3 : (c * d + b) % d = b := by
    rw [Nat.mul_comm, Nat.mul_add_mod]
    exact Nat.mod_eq_of_lt hb
  have e4 : (c * d + b) / d = c := by
    rw [Nat.mul_comm, Nat.mul_add_div hd, Nat.div_eq_of_lt hb]
    omega
  unfold cellAt
  rw [← Nat.div_div_eq_div_mul, e1, e2, e3, e4]
theorem of_cell (w d i : Nat) : ((i / (w * d)) * d + i / w % d) * w + i % w = i := by
  rw [← Nat.div_div_eq_div_mul, Nat.mul_comm (i / w / d) d, Nat.div_add_mod, Nat.mul_comm, Nat.div_add_mod]
theorem place_lt {w d h a b c : Nat} (ha : a < w) (hb : b < d) (hc : c < h) : (c * d + b) * w + a < w * d * h := by
  have h1 : c * d + b + 1 ≤ h * d := by
    have : (c + 1) * d ≤ h * d := Nat.mul_le_mul_right d hc
    rw [Nat.succ_mul] at this
    omega
  have h2 : (c * d + b + 1) * w ≤ h * d * w := Nat.mul_le_mul_right w h1
  rw [Nat.succ_mul] at h2
  have e : h * d * w = w * d * h := by rw [Nat.mul_comm (h * d) w, Nat.mul_comm h d, Nat.mul_assoc]
  omega
theorem div_lt {w d h i : Nat} (hi : i < w * d * h) : i / (w * d) < h := Nat.div_lt_of_lt_mul hi
theorem cell_in {w d h i : Nat} (hw : 1 ≤ w) (hd : 1 ≤ d) (hi : i < w * d * h) : (cellAt w d i).1 < w ∧ (cellAt w d i).2.1 < d ∧ (cellAt w d i).2.2 < h :=
  ⟨Nat.mod_lt _ hw, Nat.mod_lt _ hd, div_lt hi⟩
theorem index_eq (p : Part) (c : Cell) : p.index c = (c.2.2 * p.d + c.2.1) * p.w + c.1 := by
  unfold Part.index
  rw [Nat.mul_comm p.d, Nat.add_comm c.2.1, Nat.mul_comm p.w, Nat.add_comm c.1]
theorem index_cell (p : Part) (i : Nat) : p.index (cellAt p.w p.d i) = i := by
  rw [index_eq]
  exact of_cell p.w p.d i
theorem cell_index {p : Part} {c : Cell} (h1 : c.1 < p.w) (h2 : c.2.1 < p.d) : cellAt p.w p.d (p.index c) = c := by
  rw [index_eq, cell_of h1 h2]
theorem index_lt {p : Part} {c : Cell} (h1 : c.1 < p.w) (h2 : c.2.1 < p.d) (h3 : c.2.2 < p.h) : p.index c < p.w * p.d * p.h := by
  rw [index_eq]
  exact place_lt h1 h2 h3
theorem has_in {p : Part} {c : Cell} (h : p.has c = true) : c.1 < p.w ∧ c.2.1 < p.d ∧ c.2.2 < p.h := by
  unfold Part.has at h
  simp only [Bool.and_eq_true, decide_eq_true_eq] at h
  exact ⟨h.1, h.2.1, h.2.2.1⟩
theorem step_back {way : Nat} {c e : Cell} (h : stepTo way c = some e) : ∃ way', way' < 6 ∧ stepTo way' e = some c := by
  obtain ⟨x, y, z⟩ := c
  unfold stepTo at h
  split at h
  · cases h
    exact ⟨1, by decide, by simp [stepTo]⟩
  · split at h
    · cases h
    · cases h
      rename_i hx
      have hx : ¬ x = 0 := hx
      exact ⟨0, by decide, by simp [stepTo]; omega⟩
  · cases h
    exact ⟨3, by decide, by simp [stepTo]⟩
  · split at h
    · cases h
    · cases h
      rename_i hx
      have hx : ¬ y = 0 := hx
      exact ⟨2, by decide, by simp [stepTo]; omega⟩
  · cases h
    exact ⟨5, by decide, by simp [stepTo]⟩
  · split at h
    · cases h
    · cases h
      rename_i hx
      have hx : ¬ z = 0 := hx
      exact ⟨4, by decide, by simp [stepTo]; omega⟩
/-- the part has the cell of a place -/
def Hd (p : Part) (i : Nat) : Prop := i < p.w * p.d * p.h ∧ p.has (cellAt p.w p.d i) = true
/-- places beside one another -/
def Nb (p : Part) (i j : Nat) : Prop := ∃ way, way < 6 ∧ stepTo way (cellAt p.w p.d i) = some (cellAt p.w p.d j)
inductive Rch (p : Part) : Nat → Nat → Prop
  | refl {i : Nat} (h : Hd p i) : Rch p i i
  | step {i j k : Nat} (h : Rch p i j) (n : Nb p j k) (hk : Hd p k) : Rch p i k
theorem Nb.symm {p : Part} {i j : Nat} (h : Nb p i j) : Nb p j i := by
  obtain ⟨way, _, h⟩ := h
  exact step_back h
theorem Rch.had {p : Part} {i j : Nat} (h : Rch p i j) : Hd p i ∧ Hd p j := by
  induction h with
  | refl h => exact ⟨h, h⟩
  | step h n hk ih => exact ⟨ih.1, hk⟩
theorem Rch.trans {p : Part} {i j k : Nat} (a : Rch p i j) (b : Rch p j k) : Rch p i k := by
  induction b with
  | refl _ => exact a
  | step _ n hk ih => exact .step ih n hk
theorem Rch.symm {p : Part} {i j : Nat} (a : Rch p i j) : Rch p j i := by
  induction a with
  | refl h => exact .refl h
  | step h n hk ih => exact (Rch.step (.refl hk) n.symm h.had.2).trans ih
/-- what is closed and has the first has all that is come to -/
theorem Rch.closed {p : Part} {V : Nat → Prop} {i j : Nat} (a : Rch p i j) (hi : V i) (hc : ∀ i, V i → ∀ j, Nb p i j → Hd p j → V j) : V j := by
  induction a with
  | refl _ => exact hi
  | step _ n hk ih => exact hc _ ih _ n hk
abbrev mk (v : Array Bool) (i : Nat) : Prop := v.getD i false = true
theorem getD_arr {v : Array Bool} {i : Nat} {b : Bool} : v.getD i b = (v.toList[i]?).getD b := by
  rw [Array.getD_eq_getD_getElem?, ← Array.getElem?_toList]
theorem getD_tf {v : Array Bool} {i : Nat} (h : i < v.size) : v.getD i true = v.getD i false := by
  rw [getD_arr, getD_arr, List.getElem?_eq_getElem (by simpa using h)]
  rfl
theorem had_at (p : Part) (hw : 1 ≤ p.w) (hd : 1 ≤ p.d) (i : Nat) : p.had.getD i false = true ↔ Hd p i := by
  unfold Part.had Hd
  rw [getD_arr, places_eq]
  show (((List.range (p.w * p.d * p.h)).map (cellAt p.w p.d)).map p.has)[i]?.getD false = true ↔ _
  rw [List.getElem?_map, List.getElem?_map]
  by_cases h : i < p.w * p.d * p.h
  · rw [List.getElem?_range h]
    simp [h]
  · rw [List.getElem?_eq_none (by simpa using h)]
    simp [h]
theorem mk_set {v : Array Bool} {i j : Nat} (hi : i < v.size) : mk (v.setIfInBounds i true) j ↔ mk v j ∨ j = i := by
  unfold mk
  rw [getD_arr, getD_arr, Array.toList_setIfInBounds]
  by_cases h : j = i
  · subst h
    rw [List.getElem?_set_self (by simpa using hi)]
    simp
  · rw [List.getElem?_set_ne (fun e => h e.symm)]
    simp [h]
def todo (v : Array Bool) : Nat := v.toList.countP fun b => !b
theorem todo_set {v : Array Bool} {i : Nat} (hi : i < v.size) (h : ¬ mk v i) : todo (v.setIfInBounds i true) + 1 = todo v := by
  unfold todo
  rw [Array.toList_setIfInBounds, List.countP_set (by simpa using hi)]
  have e : v.toList[i]'(by simpa using hi) = false := by
    unfold mk at h
    rw [getD_arr, List.getElem?_eq_getElem (by simpa using hi)] at h
    simpa using h
  rw [e]
  have hp : 0 < v.toList.countP fun b => !b := List.countP_pos_iff.mpr ⟨false, by rw [← e]; exact List.getElem_mem _, rfl⟩
  show (v.toList.countP fun b => !b) - 1 + 0 + 1 = _
  omega
/-- where a flood goes next -/
def nexts (p : Part) (c : Cell) : List Cell := (List.range 6).filterMap fun (way : Nat) => (stepTo way c).filter fun (e : Cell) => decide (e.1 < p.w) && (decide (e.2.1 < p.d) && (decide (e.2.2 < p.h) && p.had.getD (p.index e) false))
theorem nexts_len (p : Part) (c : Cell) : (nexts p c).length ≤ 6 := by
  unfold nexts
  exact Nat.le_trans (List.length_filterMap_le _ _) (by simp)
theorem mem_nexts {p : Part} (hw : 1 ≤ p.w) (hd : 1 ≤ p.d) {c e : Cell} : e ∈ nexts p c ↔ (∃ way, way < 6 ∧ stepTo way c = some e) ∧ p.has e = true := by
  unfold nexts
  rw [List.mem_filterMap]
  constructor
  · rintro ⟨way, hway, h⟩
    rw [Option.filter_eq_some_iff] at h
    obtain ⟨h1, h2⟩ := h
    simp only [Bool.and_eq_true, decide_eq_true_eq] at h2
    obtain ⟨a, b, c', h3⟩ := h2
    have := ((had_at p hw hd _).mp h3).2
    rw [cell_index a b] at this
    exact ⟨⟨way, by simpa using hway, h1⟩, this⟩
  · rintro ⟨⟨way, hway, h⟩, he⟩
    obtain ⟨a, b, c'⟩ := has_in he
    refine ⟨way, by simpa using hway, ?_⟩
    rw [Option.filter_eq_some_iff]
    refine ⟨h, ?_⟩
    simp only [Bool.and_eq_true, decide_eq_true_eq]
    refine ⟨a, b, c', (had_at p hw hd _).mpr ⟨index_lt a b c', ?_⟩⟩
    rw [cell_index a b]
    exact he
theorem has_Hd {p : Part} {c : Cell} (h : p.has c = true) : Hd p (p.index c) := by
  obtain ⟨a, b, e⟩ := has_in h
  refine ⟨index_lt a b e, ?_⟩
  rw [cell_index a b]
  exact h
theorem flood_ok {p : Part} (hw : 1 ≤ p.w) (hd : 1 ≤ p.d) : ∀ (n : Nat) (stk : List Cell) (v : Array Bool), v.size = p.w * p.d * p.h → 7 * todo v + stk.length ≤ n → (∀ c ∈ stk, p.has c = true) →
    (∀ i, mk v i → ∀ j, Nb p i j → Hd p j → mk v j ∨ ∃ c ∈ stk, p.index c = j) →
    (p.flood p.had n stk v).size = p.w * p.d * p.h ∧ (∀ i, mk v i → mk (p.flood p.had n stk v) i) ∧ (∀ c ∈ stk, mk (p.flood p.had n stk v) (p.index c)) ∧
      (∀ i, mk (p.flood p.had n stk v) i → ∀ j, Nb p i j → Hd p j → mk (p.flood p.had n stk v) j) ∧ (∀ j, mk (p.flood p.had n stk v) j → mk v j ∨ ∃ c ∈ stk, Rch p (p.index c) j)
  | 0, stk, v, hs, hn, hk, hc => by
    have e : stk = [] := List.length_eq_zero_iff.mp (by omega)
    subst e
    refine ⟨hs, fun i h => h, fun c h => (nomatch h), fun i h j n hj => ?_, fun j h => .inl h⟩
    rcases hc i h j n hj with z | ⟨c, z, _⟩
    · exact z
    · exact nomatch z
  | n + 1, [], v, hs, hn, hk, hc => by
    refine ⟨hs, fun i h => h, fun c h => (nomatch h), fun i h j n hj => ?_, fun j h => .inl h⟩
    rcases hc i h j n hj with z | ⟨c, z, _⟩
    · exact z
    · exact nomatch z
  | n + 1, c :: r, v, hs, hn, hk, hc => by
    have hcc := hk c (by simp)
    have hH := has_Hd hcc
    have hlt : p.index c < v.size := by rw [hs]; exact hH.1
    rw [List.length_cons] at hn
    by_cases hm : mk v (p.index c)
    · have e : p.flood p.had (n + 1) (c :: r) v = p.flood p.had n r v := by
        rw [Part.flood, if_pos (by rw [getD_tf hlt]; exact hm)]
      rw [e]
      obtain ⟨a1, a2, a3, a4, a5⟩ := flood_ok hw hd n r v hs (by omega) (fun c h => hk c (by simp [h])) fun i h j nb hj => by
        rcases hc i h j nb hj with z | ⟨c', z, e'⟩
        · exact .inl z
        · rcases List.mem_cons.mp z with z | z
          · left
            rw [← e', z]
            exact hm
          · exact .inr ⟨c', z, e'⟩
      refine ⟨a1, a2, fun c' h => ?_, a4, fun j h => ?_⟩
      · rcases List.mem_cons.mp h with z | z
        · rw [z]
          exact a2 _ hm
        · exact a3 c' z
      · rcases a5 j h with z | ⟨c', z, z2⟩
        · exact .inl z
        · exact .inr ⟨c', by simp [z], z2⟩
    · have e : p.flood p.had (n + 1) (c :: r) v = p.flood p.had n (nexts p c ++ r) (v.setIfInBounds (p.index c) true) := by
        rw [Part.flood, if_neg (by rw [getD_tf hlt]; exact hm)]
        rfl
      rw [e]
      have ht := todo_set hlt hm
      have hln := nexts_len p c
      obtain ⟨ca, cb, cz⟩ := has_in hcc
      obtain ⟨a1, a2, a3, a4, a5⟩ := flood_ok hw hd n (nexts p c ++ r) (v.setIfInBounds (p.index c) true) (by rw [Array.size_setIfInBounds]; exact hs) (by rw [List.length_append]; omega) (fun c' h => by
        rcases List.mem_append.mp h with z | z
        · exact ((mem_nexts hw hd).mp z).2
        · exact hk c' (by simp [z])) fun i h j nb hj => by
        rcases (mk_set hlt).mp h with z | z
        · rcases hc i z j nb hj with y | ⟨c', y, e'⟩
          · exact .inl ((mk_set hlt).mpr (.inl y))
          · rcases List.mem_cons.mp y with y | y
            · exact .inl ((mk_set hlt).mpr (.inr (by rw [← e', y])))
            · exact .inr ⟨c', by simp [y], e'⟩
        · subst z
          right
          obtain ⟨way, hway, hst⟩ := nb
          rw [cell_index ca cb] at hst
          exact ⟨cellAt p.w p.d j, by rw [List.mem_append]; exact .inl ((mem_nexts hw hd).mpr ⟨⟨way, hway, hst⟩, hj.2⟩), index_cell p j⟩
      refine ⟨a1, fun i h => a2 i ((mk_set hlt).mpr (.inl h)), fun c' h => ?_, a4, fun j h => ?_⟩
      · rcases List.mem_cons.mp h with z | z
        · rw [z]
          exact a2 _ ((mk_set hlt).mpr (.inr rfl))
        · exact a3 c' (by simp [z])
      · rcases a5 j h with z | ⟨c', z, z2⟩
        · rcases (mk_set hlt).mp z with y | y
          · exact .inl y
          · right
            refine ⟨c, by simp, ?_⟩
            rw [y]
            exact .refl hH
        · rcases List.mem_append.mp z with y | y
          · right
            obtain ⟨⟨way, hway, hst⟩, he⟩ := (mem_nexts hw hd).mp y
            obtain ⟨ea, eb, ez⟩ := has_in he
            refine ⟨c, by simp, ?_⟩
            refine Rch.trans (.step (.refl hH) ⟨way, hway, ?_⟩ (has_Hd he)) z2
            rw [cell_index ca cb, cell_index ea eb]
            exact hst
          · exact .inr ⟨c', by simp [y], z2⟩
end Cut
end
section
set_option Elab.async false
set_option linter.all false
set_option maxRecDepth 100000
set_option maxHeartbeats 2000000
namespace Cut
open Jo
def placesF (y : Box) (w d : Nat) : List Nat := (List.range y.h).flatMap fun k => (List.range y.d).flatMap fun j => (List.range y.w).map fun i => ((y.z + k) * d + (y.y + j)) * w + (y.x + i)
def cellsF (w d h : Nat) (bs : List Box) : List Nat := bs.foldl (fun c y => (placesF y w d).foldl (fun c p => c.set p 0) c) (List.replicate (w * d * h) 1)
theorem set_fold_len : ∀ (ps : List Nat) (c : List Nat), (ps.foldl (fun c p => c.set p 0) c).length = c.length
  | [], c => rfl
  | p :: ps, c => by
    show (ps.foldl (fun c p => c.set p 0) (c.set p 0)).length = _
    rw [set_fold_len ps, List.length_set]
theorem set_fold : ∀ (ps : List Nat) (c : List Nat) (i : Nat), i < c.length → (ps.foldl (fun c p => c.set p 0) c)[i]? = if i ∈ ps then some 0 else c[i]?
  | [], c, i, h => by simp
  | p :: ps, c, i, h => by
    show (ps.foldl (fun c p => c.set p 0) (c.set p 0))[i]? = _
    rw [set_fold ps _ i (by rw [List.length_set]; exact h)]
    by_cases h1 : i ∈ ps
    · rw [if_pos h1, if_pos (by simp [h1])]
    · rw [if_neg h1]
      by_cases h2 : i = p
      · subst h2
        rw [if_pos (by simp), List.getElem?_set_self h]
      · rw [if_neg (by simp [h1, h2]), List.getElem?_set_ne (fun e => h2 e.symm)]
theorem cells_len (w d : Nat) : ∀ (bs : List Box) (c : List Nat), (bs.foldl (fun c y => (placesF y w d).foldl (fun c p => c.set p 0) c) c).length = c.length
  | [], c => rfl
  | y :: bs, c => by
    show (bs.foldl _ ((placesF y w d).foldl (fun c p => c.set p 0) c)).length = _
    rw [cells_len w d bs, set_fold_len]
theorem cells_get (w d : Nat) : ∀ (bs : List Box) (c : List Nat) (i : Nat), i < c.length → (bs.foldl (fun c y => (placesF y w d).foldl (fun c p => c.set p 0) c) c)[i]? = if ∃ y ∈ bs, i ∈ placesF y w d then some 0 else c[i]?
  | [], c, i, h => by simp
  | y :: bs, c, i, h => by
    show (bs.foldl _ ((placesF y w d).foldl (fun c p => c.set p 0) c))[i]? = _
    rw [cells_get w d bs _ i (by rw [set_fold_len]; exact h), set_fold _ _ _ h]
    by_cases h1 : ∃ y ∈ bs, i ∈ placesF y w d
    · obtain ⟨v, hv, hi⟩ := h1
      rw [if_pos ⟨v, hv, hi⟩, if_pos ⟨v, by simp [hv], hi⟩]
    · rw [if_neg h1]
      by_cases h2 : i ∈ placesF y w d
      · rw [if_pos h2, if_pos ⟨y, by simp, h2⟩]
      · rw [if_neg h2, if_neg]
        rintro ⟨v, hv, hi⟩
        rcases List.mem_cons.mp hv with e | e
        · exact h2 (e ▸ hi)
        · exact h1 ⟨v, e, hi⟩
theorem has_iff {y : Box} {c : Cell} : y.has c = true ↔ y.x ≤ c.1 ∧ c.1 < y.x + y.w ∧ y.y ≤ c.2.1 ∧ c.2.1 < y.y + y.d ∧ y.z ≤ c.2.2 ∧ c.2.2 < y.z + y.h := by
  unfold Box.has
  simp only [Bool.and_eq_true, decide_eq_true_eq]
theorem mem_placesF {y : Box} {w d h i : Nat} (hy : BoxIn w d h y) : i ∈ placesF y w d ↔ i < w * d * h ∧ y.has (cellAt w d i) = true := by
  obtain ⟨_, _, _, hx, hyy, hz⟩ := hy
  unfold placesF
  simp only [List.mem_flatMap, List.mem_map, List.mem_range]
  constructor
  · rintro ⟨k, hk, j, hj, a, ha, rfl⟩
    refine ⟨place_lt (by omega) (by omega) (by omega), ?_⟩
    rw [cell_of (by omega) (by omega), has_iff]
    show y.x ≤ y.x + a ∧ y.x + a < y.x + y.w ∧ y.y ≤ y.y + j ∧ y.y + j < y.y + y.d ∧ y.z ≤ y.z + k ∧ y.z + k < y.z + y.h
    omega
  · rintro ⟨hi, hh⟩
    rw [has_iff] at hh
    have hh : y.x ≤ i % w ∧ i % w < y.x + y.w ∧ y.y ≤ i / w % d ∧ i / w % d < y.y + y.d ∧ y.z ≤ i / (w * d) ∧ i / (w * d) < y.z + y.h := hh
    refine ⟨i / (w * d) - y.z, by omega, i / w % d - y.y, by omega, i % w - y.x, by omega, ?_⟩
    rw [show y.z + (i / (w * d) - y.z) = i / (w * d) by omega, show y.y + (i / w % d - y.y) = i / w % d by omega, show y.x + (i % w - y.x) = i % w by omega]
    exact of_cell w d i
theorem part_has {p : Part} {c : Cell} (h1 : c.1 < p.w) (h2 : c.2.1 < p.d) (h3 : c.2.2 < p.h) : p.has c = !p.cuts.any fun (b : Box) => b.has c := by
  unfold Part.has
  rw [decide_eq_true h1, decide_eq_true h2, decide_eq_true h3, Bool.true_and, Bool.true_and, Bool.true_and]
def bit (b : Bool) : Nat := if b = true then 1 else 0
/-- the cells, by their places -/
theorem cells_eq {p : Part} (hw : 1 ≤ p.w) (hd : 1 ≤ p.d) (hin : ∀ y ∈ p.cuts, BoxIn p.w p.d p.h y) : cellsF p.w p.d p.h p.cuts = (places p.w p.d p.h).map fun c => bit (p.has c) := by
  have hl : (cellsF p.w p.d p.h p.cuts).length = p.w * p.d * p.h := by
    unfold cellsF
    rw [cells_len, List.length_replicate]
  refine List.ext_getElem? fun i => ?_
  by_cases hi : i < p.w * p.d * p.h
  · have e1 : ((places p.w p.d p.h).map fun c => bit (p.has c))[i]? = some (bit (p.has (cellAt p.w p.d i))) := by
      rw [places_eq, List.map_map, List.getElem?_map, List.getElem?_range hi]
      rfl
    rw [e1]
    unfold cellsF
    rw [cells_get p.w p.d p.cuts _ i (by rw [List.length_replicate]; exact hi)]
    obtain ⟨c1, c2, c3⟩ := cell_in (h := p.h) hw hd hi
    rw [part_has c1 c2 c3]
    by_cases hc : ∃ y ∈ p.cuts, i ∈ placesF y p.w p.d
    · rw [if_pos hc]
      obtain ⟨y, hy, hm⟩ := hc
      have : (p.cuts.any fun (b : Box) => b.has (cellAt p.w p.d i)) = true := List.any_eq_true.mpr ⟨y, hy, ((mem_placesF (hin y hy)).mp hm).2⟩
      rw [this]
      rfl
    · rw [if_neg hc]
      have : (p.cuts.any fun (b : Box) => b.has (cellAt p.w p.d i)) = false := by
        rw [List.any_eq_false]
        intro y hy z
        exact hc ⟨y, hy, (mem_placesF (hin y hy)).mpr ⟨hi, z⟩⟩
      rw [this, List.getElem?_replicate, if_pos hi]
      rfl
  · rw [List.getElem?_eq_none (by omega), List.getElem?_eq_none]
    rw [List.length_map, places_eq, List.length_map, List.length_range]
    omega
end Cut
end
section
set_option Elab.async false
set_option linter.all false
set_option maxRecDepth 100000
set_option maxHeartbeats 2000000
namespace Cut
open Jo
abbrev cnt (p : Part) : Nat := p.w * p.d * p.h
/-- a place that begins a piece -/
def Root (p : Part) (i : Nat) : Prop := Hd p i ∧ ∀ j, j < i → ¬ Rch p j i
open Classical in
/-- the places of a piece -/
noncomputable def compI (p : Part) (i : Nat) : List Nat := (List.range (cnt p)).filter fun j => decide (Rch p i j)
noncomputable def comp (p : Part) (i : Nat) : List Cell := (compI p i).map (cellAt p.w p.d)
open Classical in
noncomputable def rootsTo (p : Part) (k : Nat) : List Nat := (List.range k).filter fun i => decide (Root p i)
/-- come to from a place below k -/
def Been (p : Part) (k j : Nat) : Prop := ∃ i, i < k ∧ Rch p i j
theorem Been.closed {p : Part} {k : Nat} : ∀ i, Been p k i → ∀ j, Nb p i j → Hd p j → Been p k j := fun i ⟨a, h1, h2⟩ j n hj => ⟨a, h1, .step h2 n hj⟩
theorem been_succ {p : Part} {k j : Nat} : Been p (k + 1) j ↔ Been p k j ∨ Rch p k j := by
  constructor
  · rintro ⟨i, hi, h⟩
    by_cases e : i = k
    · exact .inr (e ▸ h)
    · exact .inl ⟨i, by omega, h⟩
  · rintro (⟨i, hi, h⟩ | h)
    · exact ⟨i, by omega, h⟩
    · exact ⟨k, by omega, h⟩
/-- a place that has been begins nothing new -/
theorem been_old {p : Part} {k j : Nat} (h : Been p k k) : Been p (k + 1) j ↔ Been p k j := by
  rw [been_succ]
  constructor
  · rintro (z | z)
    · exact z
    · obtain ⟨i, hi, h⟩ := h
      exact ⟨i, hi, h.trans z⟩
  · exact .inl
theorem been_off {p : Part} {k j : Nat} (h : ¬ Hd p k) : Been p (k + 1) j ↔ Been p k j := by
  rw [been_succ]
  exact ⟨fun z => z.elim id fun z => absurd z.had.1 h, .inl⟩
theorem root_iff {p : Part} {k : Nat} : Root p k ↔ Hd p k ∧ ¬ Been p k k :=
  ⟨fun ⟨h, a⟩ => ⟨h, fun ⟨i, hi, r⟩ => a i hi r⟩, fun ⟨h, a⟩ => ⟨h, fun j hj r => a ⟨j, hj, r⟩⟩⟩
/-- what is new of a piece is just the piece -/
theorem new_iff {p : Part} {k j : Nat} (hr : Root p k) : (Been p (k + 1) j ∧ ¬ Been p k j) ↔ Rch p k j := by
  rw [been_succ]
  constructor
  · rintro ⟨a | a, b⟩
    · exact absurd a b
    · exact a
  · intro h
    refine ⟨.inr h, fun ⟨i, hi, r⟩ => (root_iff.mp hr).2 ⟨i, hi, r.trans h.symm⟩⟩
open Classical in
theorem rootsTo_succ {p : Part} {k : Nat} : rootsTo p (k + 1) = rootsTo p k ++ (if Root p k then [k] else []) := by
  unfold rootsTo
  rw [List.range_succ, List.filter_append]
  by_cases h : Root p k <;> simp [h]
/-- a flood from a new place -/
theorem flood_new {p : Part} (hw : 1 ≤ p.w) (hd : 1 ≤ p.d) {k : Nat} {v : Array Bool} (hs : v.size = cnt p) (hv : ∀ j, mk v j ↔ Been p k j) (hk : Hd p k) :
    (p.flood p.had (7 * cnt p + 1) [cellAt p.w p.d k] v).size = cnt p ∧ ∀ j, mk (p.flood p.had (7 * cnt p + 1) [cellAt p.w p.d k] v) j ↔ Been p (k + 1) j := by
  have ht : todo v ≤ cnt p := by
    rw [← hs]
    exact Nat.le_trans List.countP_le_length (by simp)
  obtain ⟨a1, a2, a3, a4, a5⟩ := flood_ok hw hd (7 * cnt p + 1) [cellAt p.w p.d k] v hs (by show _ + 1 ≤ _; omega) (fun c h => by rw [List.mem_singleton.mp h]; exact hk.2) fun i h j n hj => .inl ((hv j).mpr (Been.closed i ((hv i).mp h) j n hj))
  refine ⟨a1, fun j => ⟨fun h => ?_, fun h => ?_⟩⟩
  · rcases a5 j h with z | ⟨c, z, r⟩
    · exact been_succ.mpr (.inl ((hv j).mp z))
    · rw [List.mem_singleton.mp z, index_cell] at r
      exact been_succ.mpr (.inr r)
  · rcases been_succ.mp h with z | z
    · exact a2 j ((hv j).mpr z)
    · refine z.closed ?_ a4
      have := a3 _ (List.mem_singleton.mpr rfl)
      rw [index_cell] at this
      exact this
def pieceStep (p : Part) (s : Array Bool × List (List Cell)) (c : Cell) : Array Bool × List (List Cell) := if p.had.getD (p.index c) false = true ∧ s.1.getD (p.index c) true = false then
      (p.flood p.had (7 * (places p.w p.d p.h).length + 1) [c] s.1, ((places p.w p.d p.h).filter fun (e : Cell) => (p.flood p.had (7 * (places p.w p.d p.h).length + 1) [c] s.1).getD (p.index e) false && !s.1.getD (p.index e) true) :: s.2)
    else s
theorem pieces_fold (p : Part) : p.pieces = ((places p.w p.d p.h).foldl (pieceStep p) (Array.replicate (places p.w p.d p.h).length false, [])).2.reverse := rfl
theorem places_len (w d h : Nat) : (places w d h).length = w * d * h := by rw [places_eq, List.length_map, List.length_range]
open Classical in
theorem fold_pieces {p : Part} (hw : 1 ≤ p.w) (hd : 1 ≤ p.d) : ∀ k, k ≤ cnt p → ∃ v acc, ((List.range k).map (cellAt p.w p.d)).foldl (pieceStep p) (Array.replicate (cnt p) false, []) = (v, acc) ∧
    v.size = cnt p ∧ (∀ j, mk v j ↔ Been p k j) ∧ acc.reverse = (rootsTo p k).map (comp p)
  | 0, _ => by
    refine ⟨_, _, rfl, by simp, fun j => ⟨fun h => ?_, fun ⟨i, hi, _⟩ => absurd hi (Nat.not_lt_zero i)⟩, rfl⟩
    unfold mk at h
    rw [getD_arr] at h
    by_cases hj : j < cnt p
    · simp [hj] at h
    · simp [hj] at h
  | k + 1, hk => by
    obtain ⟨v, acc, e, hs, hv, ha⟩ := fold_pieces hw hd k (by omega)
    rw [List.range_succ, List.map_append, List.foldl_append, e]
    have hlt : k < v.size := by rw [hs]; omega
    show ∃ v' acc', pieceStep p (v, acc) (cellAt p.w p.d k) = (v', acc') ∧ _
    unfold pieceStep
    rw [index_cell, places_len, getD_tf hlt]
    by_cases hr : Root p k
    · have hb := root_iff.mp hr
      have hm : ¬ mk v k := fun z => hb.2 ((hv k).mp z)
      rw [if_pos ⟨(had_at p hw hd k).mpr hb.1, by simpa [mk] using hm⟩]
      obtain ⟨f1, f2⟩ := flood_new hw hd hs hv hb.1
      refine ⟨_, _, rfl, f1, f2, ?_⟩
      rw [List.reverse_cons, ha, rootsTo_succ, if_pos hr, List.map_append]
      refine congrArg (fun q => (rootsTo p k).map (comp p) ++ [q]) ?_
      unfold comp compI
      rw [places_eq, List.filter_map]
      refine congrArg (List.map _) (List.filter_congr fun j hj => ?_)
      have hj : j < cnt p := by simpa using hj
      show ((p.flood p.had (7 * cnt p + 1) [cellAt p.w p.d k] v).getD (p.index (cellAt p.w p.d j)) false && !v.getD (p.index (cellAt p.w p.d j)) true) = _
      rw [index_cell, getD_tf (by rw [hs]; exact hj)]
      rw [Bool.eq_iff_iff, decide_eq_true_iff, ← new_iff hr, Bool.and_eq_true]
      refine and_congr (f2 j) ?_
      rw [← hv j]
      unfold mk
      simp
    · have hno : ¬ (p.had.getD k false = true ∧ v.getD k false = false) := fun ⟨z1, z2⟩ => hr (root_iff.mpr ⟨(had_at p hw hd k).mp z1, fun z => by
        have := (hv k).mpr z
        unfold mk at this
        rw [z2] at this
        cases this⟩)
      rw [if_neg hno]
      refine ⟨v, acc, rfl, hs, fun j => ?_, ?_⟩
      · rw [hv j]
        by_cases hh : Hd p k
        · have : Been p k k := Classical.byContradiction fun z => hr (root_iff.mpr ⟨hh, z⟩)
          exact (been_old this).symm
        · exact (been_off hh).symm
      · rw [ha, rootsTo_succ, if_neg hr, List.append_nil]
/-- the pieces, by their first places -/
theorem pieces_eq {p : Part} (hw : 1 ≤ p.w) (hd : 1 ≤ p.d) : p.pieces = (rootsTo p (cnt p)).map (comp p) := by
  obtain ⟨v, acc, e, _, _, h⟩ := fold_pieces hw hd (cnt p) (Nat.le_refl _)
  rw [pieces_fold, places_len, places_eq, e]
  exact h
open Classical in
/-- a piece's first cell is its first place's -/
theorem compI_head {p : Part} {i : Nat} (h : Root p i) : ∃ r, compI p i = i :: r := by
  have hi := h.1.1
  unfold compI
  have e : List.range (cnt p) = List.range i ++ (i :: (List.range (cnt p - i - 1)).map fun j => i + 1 + j) := by
    have e1 : cnt p = i + (1 + (cnt p - i - 1)) := by
      have : i < cnt p := hi
      omega
    conv => lhs; rw [e1, List.range_add]
    refine congrArg (List.range i ++ ·) ?_
    rw [List.range_add]
    simp [Nat.add_assoc]
  rw [e, List.filter_append, List.filter_cons, if_pos (decide_eq_true (Rch.refl h.1))]
  rw [List.filter_eq_nil_iff.mpr fun j hj z => h.2 j (by simpa using hj) (of_decide_eq_true z).symm]
  exact ⟨_, rfl⟩
open Classical in
theorem mem_compI {p : Part} {i j : Nat} : j ∈ compI p i ↔ Rch p i j := by
  unfold compI
  rw [List.mem_filter, List.mem_range, decide_eq_true_iff]
  exact ⟨fun h => h.2, fun h => ⟨h.had.2.1, h⟩⟩
theorem comp_any {p : Part} {i : Nat} (f : Cell → Bool) : (comp p i).any f = (compI p i).any fun j => f (cellAt p.w p.d j) := by
  unfold comp
  rw [List.any_map]
  rfl
end Cut
end
section
set_option Elab.async false
set_option linter.all false
set_option maxRecDepth 100000
set_option maxHeartbeats 2000000
namespace Cut
open Jo
end Cut
end
section
set_option Elab.async false
set_option linter.all false
set_option maxRecDepth 100000
set_option maxHeartbeats 2000000
namespace Cut
open PySem PySem.Spec PyProof.Rows L2
open Jo (Part Box)
def fL (p q : Addr) : List (Str × V) := [("size", .ref p), ("marks", .ref q)]
theorem fL_size {p q : Addr} : (fL p q).lookup ("size" : Str) = some (.ref p) := lk_hit
theorem fL_marks {p q : Addr} : (fL p q).lookup ("marks" : Str) = some (.ref q) := by unfold fL; rw [lk_miss (by decide +kernel), lk_hit]
structure LTxt (K : PySem.W.Frag) (CL : Addr) : Prop where
  cls : Cls K CL
  size : NoAttr K CL "size"
  marks : NoAttr K CL "marks"
def CelAt (CL : Addr) (H : Hp) (c : Addr) (s m : List Nat) : Prop := ∃ dx p q, H c = some (.ins CL dx (fL p q)) ∧ H p = some (.lst (vN s)) ∧ H q = some (.lst (vN m))
def spCellsI (CL : Addr) : Sp := fun vs H Q _ => ∃ (c dx p : Addr) (w d h : Nat), vs = [.ref c, .ref p] ∧ H c = some (.ins CL dx []) ∧ H p = some (.lst (vN [w, d, h])) ∧ w ≤ 16 ∧ d ≤ 16 ∧ h ≤ 16 ∧
  ∀ (H' : Hp) (q : Addr), H q = none → H' c = some (.ins CL dx (fL p q)) → H' q = some (.lst (vN (List.replicate (w * d * h) 1))) → (∀ x o, H x = some o → x ≠ c → H' x = some o) → Q .non H'
def gx (y : Box) (w d k j i : Nat) : List Nat := (List.range i).map fun a => ((y.z + k) * d + (y.y + j)) * w + (y.x + a)
def gy (y : Box) (w d k j : Nat) : List Nat := (List.range j).flatMap fun j => gx y w d k j y.w
def gz (y : Box) (w d k : Nat) : List Nat := (List.range k).flatMap fun k => gy y w d k y.d
theorem gx_succ (y : Box) (w d k j i : Nat) : gx y w d k j (i + 1) = gx y w d k j i ++ [((y.z + k) * d + (y.y + j)) * w + (y.x + i)] := by
  unfold gx
  rw [List.range_succ, List.map_append]
  rfl
theorem gy_succ (y : Box) (w d k j : Nat) : gy y w d k (j + 1) = gy y w d k j ++ gx y w d k j y.w := by
  unfold gy
  rw [List.range_succ, List.flatMap_append]
  simp
theorem gz_succ (y : Box) (w d k : Nat) : gz y w d (k + 1) = gz y w d k ++ gy y w d k y.d := by
  unfold gz
  rw [List.range_succ, List.flatMap_append]
  simp
theorem gz_all (y : Box) (w d : Nat) : gz y w d y.h = placesF y w d := rfl
theorem gx_len (y : Box) (w d k j i : Nat) : (gx y w d k j i).length = i := by
  unfold gx
  rw [List.length_map, List.length_range]
theorem gy_len (y : Box) (w d k : Nat) : ∀ j, (gy y w d k j).length = j * y.w
  | 0 => by simp [gy]
  | j + 1 => by rw [gy_succ, List.length_append, gy_len y w d k j, gx_len, Nat.succ_mul]
theorem gz_len (y : Box) (w d : Nat) : ∀ k, (gz y w d k).length = k * (y.d * y.w)
  | 0 => by simp [gz]
  | k + 1 => by rw [gz_succ, List.length_append, gz_len y w d k, gy_len, Nat.succ_mul]
theorem vN_append (a b : List Nat) : vN (a ++ b) = vN a ++ vN b := List.map_append
theorem vN_int (a : List Nat) : vN a = (a.map fun (n : Nat) => (n : Int)).map V.int := by
  unfold vN
  rw [List.map_map]
  rfl
theorem len16 {a b c : Nat} (ha : a ≤ 16) (hb : b ≤ 16) (hc : c ≤ 16) : a * (b * c) ≤ 4096 := by
  have h1 : b * c ≤ 16 * 16 := Nat.mul_le_mul hb hc
  have h2 : a * (b * c) ≤ 16 * (16 * 16) := Nat.mul_le_mul ha h1
  omega
structure Small (y : Box) (w d h : Nat) : Prop where
  fx : y.x ≤ 16
  fy : y.y ≤ 16
  fz : y.z ≤ 16
  fw : y.w ≤ 16
  fd : y.d ≤ 16
  fh : y.h ≤ 16
  bw : w ≤ 16
  bd : d ≤ 16
  bh : h ≤ 16
theorem Small.len {y : Box} {w d h k j i : Nat} (S : Small y w d h) (hk : k < y.h) (hj : j < y.d) (hi : i < y.w) : (gz y w d k ++ gy y w d k j ++ gx y w d k j i).length ≤ 20000 := by
  rw [List.length_append, List.length_append, gz_len, gy_len, gx_len]
  have h1 : k * (y.d * y.w) ≤ 4096 := len16 (by have := S.fh; omega) S.fd S.fw
  have h2 : j * y.w ≤ 16 * 16 := Nat.mul_le_mul (by have := S.fd; omega) S.fw
  have := S.fw
  omega
theorem BoxIn.small {w d h : Nat} {y : Box} (B : BoxIn w d h y) (hw : w ≤ 16) (hd : d ≤ 16) (hh : h ≤ 16) : Small y w d h := by
  obtain ⟨_, _, _, h1, h2, h3⟩ := B
  constructor <;> omega
theorem paired_get {α β : Type} {F : α → β → Prop} : ∀ {l1 : List α} {l2 : List β} {i : Nat} {a : α}, Paired F l1 l2 → l1[i]? = some a → ∃ b, l2[i]? = some b ∧ F a b
  | _, _, i, a, .nil, h => by simp at h
  | _, _, 0, a, .cons r t, h => by
    have e := Option.some.inj h
    subst e
    exact ⟨_, rfl, r⟩
  | _, _, i + 1, a, .cons _ t, h => by
    obtain ⟨u, h1, h2⟩ := paired_get (i := i) (a := a) t (by simpa using h)
    exact ⟨u, by simpa using h1, h2⟩
theorem ixN_of {n j : Nat} (h : j < n) : ixN n (j : Int) = some j := by
  unfold ixN
  rw [if_pos (by omega), if_pos (by omega)]
  simp
theorem vN_set (a : List Nat) (j n : Nat) : (vN a).set j (.int (n : Nat)) = vN (a.set j n) := by
  unfold vN
  rw [List.map_set]
theorem rep_one (n : Nat) : (List.replicate n [V.int 1]).flatten = vN (List.replicate n 1) := by
  induction n with
  | zero => rfl
  | succ n ih =>
    rw [List.replicate_succ, List.flatten_cons, ih, List.replicate_succ]
    rfl
abbrev wipeP (ps : List Nat) (c : List Nat) : List Nat := ps.foldl (fun c p => c.set p 0) c
abbrev wipeB (w d : Nat) (bs : List Box) (c : List Nat) : List Nat := bs.foldl (fun c y => wipeP (placesF y w d) c) c
theorem wipeP_snoc (ps : List Nat) (n : Nat) (c : List Nat) : wipeP (ps ++ [n]) c = (wipeP ps c).set n 0 := by
  unfold wipeP
  rw [List.foldl_append]
  rfl
theorem wipeB_snoc (w d : Nat) (bs : List Box) (y : Box) (c : List Nat) : wipeB w d (bs ++ [y]) c = wipeP (placesF y w d) (wipeB w d bs c) := by
  unfold wipeB
  rw [List.foldl_append]
  rfl
theorem Same.seqT {K : PySem.W.Frag} {H H' : Hp} {a : Addr} {xs : List V} (e : Same H H') (h : SqT K H a xs) : SqT K H' a xs := by
  rcases h with (h | ⟨o, h⟩) | h
  · exact .inl (.inl (e _ _ h))
  · exact .inl (.inr ⟨o, e _ _ h⟩)
  · exact .inr h
end Cut
end
section
set_option Elab.async false
set_option linter.all false
set_option maxRecDepth 100000
set_option maxHeartbeats 2000000
namespace Cut
open PySem PySem.Spec PyProof.Rows L2
open Jo (Part Box Cell)
def inR (x : Int) (n : Nat) : Bool := decide (0 ≤ x) && decide (x < (n : Int))
def onF (x y z : Int) (w d h : Nat) : Bool := [inR x w, inR y d, inR z h].all id
def markF (x y z : Int) (w d h : Nat) (m : List Nat) : Nat := if onF x y z w d h = true then m.getD ((z.toNat * d + y.toNat) * w + x.toNat) 0 else 0
theorem onF_iff {x y z : Int} {w d h : Nat} : onF x y z w d h = true ↔ (0 ≤ x ∧ x < w) ∧ (0 ≤ y ∧ y < d) ∧ (0 ≤ z ∧ z < h) := by
  unfold onF inR
  simp only [List.all_cons, List.all_nil, id, Bool.and_eq_true, decide_eq_true_eq, Bool.true_eq_false, and_true]
theorem three_get {x y z : Int} {w d h : Nat} : ∀ {i : Nat} {u v : V}, ([.int x, .int y, .int z] : List V)[i]? = some u → (vN [w, d, h])[i]? = some v → ∃ (a : Int) (n : Nat), u = .int a ∧ v = .int (n : Nat) ∧ [inR x w, inR y d, inR z h][i]? = some (inR a n)
  | 0, u, v, hu, hv => ⟨x, w, (Option.some.inj hu).symm, (Option.some.inj hv).symm, rfl⟩
  | 1, u, v, hu, hv => ⟨y, d, (Option.some.inj hu).symm, (Option.some.inj hv).symm, rfl⟩
  | 2, u, v, hu, hv => ⟨z, h, (Option.some.inj hu).symm, (Option.some.inj hv).symm, rfl⟩
  | n + 3, u, v, hu, hv => by simp at hu
abbrev mkF (p : Part) : List Nat := cellsF p.w p.d p.h p.cuts
theorem mkF_len {p : Part} : (mkF p).length = p.w * p.d * p.h := by
  show (cellsF p.w p.d p.h p.cuts).length = _
  unfold cellsF
  rw [cells_len, List.length_replicate]
section
variable {p : Part} (hw : 1 ≤ p.w) (hd : 1 ≤ p.d) (hin : ∀ y ∈ p.cuts, BoxIn p.w p.d p.h y)
include hw hd hin
theorem mkF_get {i : Nat} (hi : i < p.w * p.d * p.h) : (mkF p)[i]? = some (bit (p.has (cellAt p.w p.d i))) := by
  show (cellsF p.w p.d p.h p.cuts)[i]? = _
  rw [cells_eq hw hd hin, places_eq, List.map_map, List.getElem?_map, List.getElem?_range hi]
  rfl
end
end Cut
namespace Cut
open PySem PySem.Spec PyProof.Rows L2
open Jo (Part Box Cell)
section
variable {p : Part} (hw : 1 ≤ p.w) (hd : 1 ≤ p.d) (hin : ∀ y ∈ p.cuts, BoxIn p.w p.d p.h y)
include hw hd hin
/-- a spot's mark, in the block or not -/
theorem mark_has (x y z : Nat) : markF x y z p.w p.d p.h (mkF p) = bit (p.has (x, y, z)) := by
  unfold markF
  by_cases h : onF x y z p.w p.d p.h = true
  · rw [if_pos h]
    obtain ⟨⟨_, h1⟩, ⟨_, h2⟩, ⟨_, h3⟩⟩ := onF_iff.mp h
    have h1 : x < p.w := by omega
    have h2 : y < p.d := by omega
    have h3 : z < p.h := by omega
    have e := mkF_get hw hd hin (place_lt h1 h2 h3)
    rw [Int.toNat_natCast, Int.toNat_natCast, Int.toNat_natCast, List.getD_eq_getElem?_getD, e, cell_of h1 h2]
    rfl
  · rw [if_neg h]
    have : p.has (x, y, z) = false := by
      cases q : p.has (x, y, z) with
      | false => rfl
      | true =>
        obtain ⟨h1, h2, h3⟩ := has_in q
        exact absurd (onF_iff.mpr ⟨⟨by omega, by have : x < p.w := h1; omega⟩, ⟨by omega, by have : y < p.d := h2; omega⟩, ⟨by omega, by have : z < p.h := h3; omega⟩⟩) h
    rw [this]
    rfl
end
theorem bit_one {b : Bool} : bit b = 1 ↔ b = true := by cases b <;> simp [bit]
theorem mark_in {x y z : Int} {w d h : Nat} {m : List Nat} (e : onF x y z w d h = true) (hl : m.length = w * d * h) : ∃ j : Nat, (z * (d : Nat) + y) * (w : Nat) + x = (j : Int) ∧ j < w * d * h ∧ (vN m)[j]? = some (.int ((markF x y z w d h m : Nat) : Int)) := by
  obtain ⟨⟨a1, b1⟩, ⟨a2, b2⟩, ⟨a3, b3⟩⟩ := onF_iff.mp e
  obtain ⟨x', rfl⟩ : ∃ n : Nat, x = n := ⟨x.toNat, by omega⟩
  obtain ⟨y', rfl⟩ : ∃ n : Nat, y = n := ⟨y.toNat, by omega⟩
  obtain ⟨z', rfl⟩ : ∃ n : Nat, z = n := ⟨z.toNat, by omega⟩
  have hj : (z' * d + y') * w + x' < w * d * h := place_lt (by omega) (by omega) (by omega)
  refine ⟨(z' * d + y') * w + x', by push_cast; rfl, hj, ?_⟩
  unfold markF vN
  rw [if_pos e, List.getElem?_map, Int.toNat_natCast, Int.toNat_natCast, Int.toNat_natCast, List.getD_eq_getElem?_getD]
  rw [List.getElem?_eq_getElem (by rw [hl]; exact hj)]
  rfl
end Cut
end
section
set_option Elab.async false
set_option linter.all false
set_option maxRecDepth 100000
set_option maxHeartbeats 2000000
namespace Cut
open Jo (Part Box Cell)
end Cut
end
section
set_option Elab.async false
set_option linter.all false
set_option maxRecDepth 100000
set_option maxHeartbeats 2000000
namespace Cut
open Jo (Part Box Cell)
section
variable {p : Part} (hw : 1 ≤ p.w) (hd : 1 ≤ p.d) (hin : ∀ y ∈ p.cuts, BoxIn p.w p.d p.h y)
include hw hd hin
end
end Cut
end
section
set_option Elab.async false
set_option linter.all false
set_option maxRecDepth 100000
set_option maxHeartbeats 2000000
namespace Cut
open PySem PySem.Spec PyProof.Rows L2
open Jo (Part Box Cell)
def spotV (w d i : Nat) : List V := [.int ((i % w : Nat) : Int), .int ((i / w % d : Nat) : Int), .int ((i / (w * d) : Nat) : Int)]
def wayV : Nat → Int × Int × Int
  | 0 => (1, 0, 0)
  | 1 => (-1, 0, 0)
  | 2 => (0, 1, 0)
  | 3 => (0, -1, 0)
  | 4 => (0, 0, 1)
  | _ => (0, 0, -1)
def wV (t : Int × Int × Int) : List V := [.int t.1, .int t.2.1, .int t.2.2]
/-- the ways, as the module has them -/
structure WaysAt (K : PySem.W.Frag) (mg : Str → Option Value) (aW : Addr) (ws : List Addr) : Prop where
  mg : mg "WAYS" = some (.ref aW)
  len : ws.length = 6
  top : ∀ H, SqT K H aW (ws.map V.ref)
  each : ∀ H i a, ws[i]? = some a → SqT K H a (wV (wayV i))
theorem w3_in {K : PySem.W.Frag} {a : Addr} {od : Option Addr} {osl : Array (Option Value)} {n : Nat} {x y z : Int} {u1 u2 u3 : Tok} (l : K.lookup a = some ⟨.type "tuple", od, .seq #[.int x u1, .int y u2, .int z u3] n, osl⟩) : ∀ H, SqT K H a [.int x, .int y, .int z] :=
  fun H => .inr ⟨_, _, n, l, rfl, rfl, by show 3 ≤ sizeLine; decide, .cons ⟨u1, rfl⟩ (.cons ⟨u2, rfl⟩ (.cons ⟨u3, rfl⟩ .nil))⟩
def WaysIn (K : PySem.W.Frag) : Prop := ∃ aW w0 w1 w2 w3 w4 w5 : Addr, PySem.W.nsIn K mainGlobals "WAYS" = some (some (.ref aW)) ∧ (∀ H, SqT K H aW [.ref w0, .ref w1, .ref w2, .ref w3, .ref w4, .ref w5]) ∧
  (∀ H, SqT K H w0 (wV (1, 0, 0))) ∧ (∀ H, SqT K H w1 (wV (-1, 0, 0))) ∧ (∀ H, SqT K H w2 (wV (0, 1, 0))) ∧ (∀ H, SqT K H w3 (wV (0, -1, 0))) ∧ (∀ H, SqT K H w4 (wV (0, 0, 1))) ∧ ∀ H, SqT K H w5 (wV (0, 0, -1))
theorem ways_in {K : PySem.W.Frag} {aW w0 w1 w2 w3 w4 w5 : Addr} {o oA oB oC oD oE oF : Option Addr} {s sA sB sC sD sE sF : Array (Option Value)} {n nA nB nC nD nE nF : Nat} {a1 a2 a3 b1 b2 b3 c1 c2 c3 d1 d2 d3 e1 e2 e3 f1 f2 f3 : Tok}
    (a : PySem.W.nsIn K mainGlobals "WAYS" = some (some (.ref aW))) (l : K.lookup aW = some ⟨.type "tuple", o, .seq #[.ref w0, .ref w1, .ref w2, .ref w3, .ref w4, .ref w5] n, s⟩)
    (l0 : K.lookup w0 = some ⟨.type "tuple", oA, .seq #[.int 1 a1, .int 0 a2, .int 0 a3] nA, sA⟩) (l1 : K.lookup w1 = some ⟨.type "tuple", oB, .seq #[.int (-1) b1, .int 0 b2, .int 0 b3] nB, sB⟩)
    (l2 : K.lookup w2 = some ⟨.type "tuple", oC, .seq #[.int 0 c1, .int 1 c2, .int 0 c3] nC, sC⟩) (l3 : K.lookup w3 = some ⟨.type "tuple", oD, .seq #[.int 0 d1, .int (-1) d2, .int 0 d3] nD, sD⟩)
    (l4 : K.lookup w4 = some ⟨.type "tuple", oE, .seq #[.int 0 e1, .int 0 e2, .int 1 e3] nE, sE⟩) (l5 : K.lookup w5 = some ⟨.type "tuple", oF, .seq #[.int 0 f1, .int 0 f2, .int (-1) f3] nF, sF⟩) : WaysIn K :=
  ⟨aW, w0, w1, w2, w3, w4, w5, a, fun H => .inr ⟨_, _, n, l, rfl, rfl, by show 6 ≤ sizeLine; decide, .cons rfl (.cons rfl (.cons rfl (.cons rfl (.cons rfl (.cons rfl .nil)))))⟩, w3_in l0, w3_in l1, w3_in l2, w3_in l3, w3_in l4, w3_in l5⟩
theorem WaysIn.at {K : PySem.W.Frag} {h : Heap} {mg : Str → Option Value} (i : WaysIn K) (X : K.In h) (G : h.Ns mainGlobals mg) : ∃ aW ws, WaysAt K mg aW ws := by
  obtain ⟨aW, w0, w1, w2, w3, w4, w5, a, t, h0, h1, h2, h3, h4, h5⟩ := i
  refine ⟨aW, [w0, w1, w2, w3, w4, w5], PySem.W.mg_of X G a, rfl, t, fun H i a e => ?_⟩
  match i, e with
  | 0, e => cases Option.some.inj e; exact h0 H
  | 1, e => cases Option.some.inj e; exact h1 H
  | 2, e => cases Option.some.inj e; exact h2 H
  | 3, e => cases Option.some.inj e; exact h3 H
  | 4, e => cases Option.some.inj e; exact h4 H
  | 5, e => cases Option.some.inj e; exact h5 H
  | n + 6, e => simp at e
section
variable {p : Part} (hw : 1 ≤ p.w) (hd : 1 ≤ p.d) (hin : ∀ y ∈ p.cuts, BoxIn p.w p.d p.h y)
include hw hd hin
theorem mark_off {x y z : Int} (h : x < 0 ∨ y < 0 ∨ z < 0) : markF x y z p.w p.d p.h (mkF p) = 0 := by
  unfold markF
  rw [if_neg]
  intro q
  obtain ⟨⟨h1, _⟩, ⟨h2, _⟩, ⟨h3, _⟩⟩ := onF_iff.mp q
  omega
theorem way_mark (x y z : Nat) : ∀ way, way < 6 → markF ((x : Int) + (wayV way).1) ((y : Int) + (wayV way).2.1) ((z : Int) + (wayV way).2.2) p.w p.d p.h (mkF p) = bit (p.beside way (x, y, z))
  | 0, _ => by
    show markF ((x : Int) + 1) ((y : Int) + 0) ((z : Int) + 0) _ _ _ _ = bit (p.has (x + 1, y, z))
    rw [← mark_has hw hd hin, Int.add_zero, Int.add_zero]
    rfl
  | 1, _ => by
    show markF ((x : Int) + -1) ((y : Int) + 0) ((z : Int) + 0) _ _ _ _ = bit (match (if x = 0 then none else some (x - 1, y, z)) with | some e => p.has e | none => false)
    by_cases h : x = 0
    · rw [if_pos h, mark_off hw hd hin (.inl (by omega))]
      rfl
    · rw [if_neg h]
      show _ = bit (p.has (x - 1, y, z))
      rw [← mark_has hw hd hin, Int.add_zero, Int.add_zero, show (x : Int) + -1 = ((x - 1 : Nat) : Int) by omega]
  | 2, _ => by
    show markF ((x : Int) + 0) ((y : Int) + 1) ((z : Int) + 0) _ _ _ _ = bit (p.has (x, y + 1, z))
    rw [← mark_has hw hd hin, Int.add_zero, Int.add_zero]
    rfl
  | 3, _ => by
    show markF ((x : Int) + 0) ((y : Int) + -1) ((z : Int) + 0) _ _ _ _ = bit (match (if y = 0 then none else some (x, y - 1, z)) with | some e => p.has e | none => false)
    by_cases h : y = 0
    · rw [if_pos h, mark_off hw hd hin (.inr (.inl (by omega)))]
      rfl
    · rw [if_neg h]
      show _ = bit (p.has (x, y - 1, z))
      rw [← mark_has hw hd hin, Int.add_zero, Int.add_zero, show (y : Int) + -1 = ((y - 1 : Nat) : Int) by omega]
  | 4, _ => by
    show markF ((x : Int) + 0) ((y : Int) + 0) ((z : Int) + 1) _ _ _ _ = bit (p.has (x, y, z + 1))
    rw [← mark_has hw hd hin, Int.add_zero, Int.add_zero]
    rfl
  | 5, _ => by
    show markF ((x : Int) + 0) ((y : Int) + 0) ((z : Int) + -1) _ _ _ _ = bit (match (if z = 0 then none else some (x, y, z - 1)) with | some e => p.has e | none => false)
    by_cases h : z = 0
    · rw [if_pos h, mark_off hw hd hin (.inr (.inr (by omega)))]
      rfl
    · rw [if_neg h]
      show _ = bit (p.has (x, y, z - 1))
      rw [← mark_has hw hd hin, Int.add_zero, Int.add_zero, show (z : Int) + -1 = ((z - 1 : Nat) : Int) by omega]
  | n + 6, h => by omega
end
/-- the mark beside the i-th place -/
def besideM (w d h : Nat) (m : List Nat) (t : Int × Int × Int) (i : Nat) : Nat := markF (((i % w : Nat) : Int) + t.1) (((i / w % d : Nat) : Int) + t.2.1) (((i / (w * d) : Nat) : Int) + t.2.2) w d h m
end Cut
end
section
set_option Elab.async false
set_option linter.all false
set_option maxRecDepth 100000
set_option maxHeartbeats 2000000
namespace Cut
open PySem PySem.Spec PyProof.Rows L2
abbrev Spots (w d : Nat) (H : Hp) (ts : List Addr) (is : List Nat) : Prop := Paired (fun t (i : Nat) => H t = some (.tup (spotV w d i))) ts is
theorem Spots.same {w d : Nat} {H H' : Hp} {ts : List Addr} {is : List Nat} (h : Spots w d H ts is) (s : Same H H') : Spots w d H' ts is := Paired.imp' (fun t i e => s _ _ e) h
theorem Spots.put {w d : Nat} {H : Hp} {ts : List Addr} {is : List Nat} {D : Addr} {xs : List V} {o : HO} (h : Spots w d H ts is) (hD : H D = some (.lst xs)) : Spots w d (upd H D o) ts is :=
  Paired.imp' (fun t i e => by rw [upd_ne (ne_of e hD (by intro z; cases z))]; exact e) h
end Cut
end
section
set_option Elab.async false
set_option linter.all false
set_option maxRecDepth 100000
set_option maxHeartbeats 2000000
namespace Cut
open Jo (Part Box Cell stepTo)
def plI (w d : Nat) (t : Int × Int × Int) (i : Nat) : Int := ((((i / (w * d) : Nat) : Int) + t.2.2) * (d : Nat) + (((i / w % d : Nat) : Int) + t.2.1)) * (w : Nat) + (((i % w : Nat) : Int) + t.1)
def nbTo (w d h : Nat) (m : List Nat) (i n : Nat) : List Nat := ((List.range n).filter fun k => decide (besideM w d h m (wayV k) i = 1)).map fun k => (plI w d (wayV k) i).toNat
abbrev nbF (w d h : Nat) (m : List Nat) (i : Nat) : List Nat := nbTo w d h m i 6
theorem nbTo_succ (w d h : Nat) (m : List Nat) (i n : Nat) : nbTo w d h m i (n + 1) = nbTo w d h m i n ++ (if besideM w d h m (wayV n) i = 1 then [(plI w d (wayV n) i).toNat] else []) := by
  unfold nbTo
  rw [List.range_succ, List.filter_append, List.map_append]
  by_cases z : besideM w d h m (wayV n) i = 1
  · rw [if_pos z, List.filter_cons, if_pos (decide_eq_true z)]
    rfl
  · rw [if_neg z, List.filter_cons, if_neg (by rw [decide_eq_false z]; simp)]
    rfl
theorem nbTo_len (w d h : Nat) (m : List Nat) (i n : Nat) : (nbTo w d h m i n).length ≤ n := by
  unfold nbTo
  rw [List.length_map]
  refine Nat.le_trans (List.length_filter_le _ _) ?_
  rw [List.length_range]
  exact Nat.le_refl _
theorem step_coord {c e : Cell} : ∀ {k : Nat}, k < 6 → stepTo k c = some e → (e.1 : Int) = c.1 + (wayV k).1 ∧ (e.2.1 : Int) = c.2.1 + (wayV k).2.1 ∧ (e.2.2 : Int) = c.2.2 + (wayV k).2.2
  | 0, _, h => by
    have h : some (c.1 + 1, c.2.1, c.2.2) = some e := h
    cases h
    exact ⟨rfl, (Int.add_zero _).symm, (Int.add_zero _).symm⟩
  | 1, _, h => by
    have h : (if c.1 = 0 then none else some (c.1 - 1, c.2.1, c.2.2)) = some e := h
    split at h
    · cases h
    · cases h
      exact ⟨by show ((c.1 - 1 : Nat) : Int) = (c.1 : Int) + -1; omega, (Int.add_zero _).symm, (Int.add_zero _).symm⟩
  | 2, _, h => by
    have h : some (c.1, c.2.1 + 1, c.2.2) = some e := h
    cases h
    exact ⟨(Int.add_zero _).symm, rfl, (Int.add_zero _).symm⟩
  | 3, _, h => by
    have h : (if c.2.1 = 0 then none else some (c.1, c.2.1 - 1, c.2.2)) = some e := h
    split at h
    · cases h
    · cases h
      exact ⟨(Int.add_zero _).symm, by show ((c.2.1 - 1 : Nat) : Int) = (c.2.1 : Int) + -1; omega, (Int.add_zero _).symm⟩
  | 4, _, h => by
    have h : some (c.1, c.2.1, c.2.2 + 1) = some e := h
    cases h
    exact ⟨(Int.add_zero _).symm, (Int.add_zero _).symm, rfl⟩
  | 5, _, h => by
    have h : (if c.2.2 = 0 then none else some (c.1, c.2.1, c.2.2 - 1)) = some e := h
    split at h
    · cases h
    · cases h
      exact ⟨(Int.add_zero _).symm, (Int.add_zero _).symm, by show ((c.2.2 - 1 : Nat) : Int) = (c.2.2 : Int) + -1; omega⟩
  | n + 6, h, _ => by omega
theorem pl_step {p : Part} {i k : Nat} {e : Cell} (hk : k < 6) (h : stepTo k (cellAt p.w p.d i) = some e) : (plI p.w p.d (wayV k) i).toNat = p.index e := by
  obtain ⟨h1, h2, h3⟩ := step_coord hk h
  have h1 : (e.1 : Int) = ((i % p.w : Nat) : Int) + (wayV k).1 := h1
  have h2 : (e.2.1 : Int) = ((i / p.w % p.d : Nat) : Int) + (wayV k).2.1 := h2
  have h3 : (e.2.2 : Int) = ((i / (p.w * p.d) : Nat) : Int) + (wayV k).2.2 := h3
  unfold plI
  rw [← h1, ← h2, ← h3, index_eq, ← Int.natCast_mul, ← Int.natCast_add, ← Int.natCast_mul, ← Int.natCast_add, Int.toNat_natCast]
theorem mem_nb {p : Part} (hw : 1 ≤ p.w) (hd : 1 ≤ p.d) (hin : ∀ y ∈ p.cuts, BoxIn p.w p.d p.h y) {i j : Nat} : j ∈ nbF p.w p.d p.h (mkF p) i ↔ Nb p i j ∧ Hd p j := by
  unfold nbF nbTo
  rw [List.mem_map]
  constructor
  · rintro ⟨k, hk, e⟩
    rw [List.mem_filter, List.mem_range] at hk
    obtain ⟨hk6, hb⟩ := hk
    have hb : besideM p.w p.d p.h (mkF p) (wayV k) i = 1 := of_decide_eq_true hb
    rw [show besideM p.w p.d p.h (mkF p) (wayV k) i = bit (p.beside k (cellAt p.w p.d i)) from way_mark hw hd hin _ _ _ k hk6] at hb
    have hb := bit_one.mp hb
    unfold Part.beside at hb
    cases es : stepTo k (cellAt p.w p.d i) with
    | none => rw [es] at hb; cases hb
    | some e' =>
      rw [es] at hb
      have hb : p.has e' = true := hb
      rw [pl_step hk6 es] at e
      obtain ⟨a1, a2, a3⟩ := has_in hb
      subst e
      exact ⟨⟨k, hk6, by rw [cell_index a1 a2]; exact es⟩, has_Hd hb⟩
  · rintro ⟨⟨k, hk6, es⟩, hj⟩
    refine ⟨k, ?_, ?_⟩
    · rw [List.mem_filter, List.mem_range]
      refine ⟨hk6, decide_eq_true ?_⟩
      rw [show besideM p.w p.d p.h (mkF p) (wayV k) i = bit (p.beside k (cellAt p.w p.d i)) from way_mark hw hd hin _ _ _ k hk6]
      apply bit_one.mpr
      unfold Part.beside
      rw [es]
      exact hj.2
    · rw [pl_step hk6 es, index_cell]
structure FlI (p : Part) (first : Nat) (k : Nat) (nu cur : List Int) (stk : List Nat) (x : Option Nat) : Prop where
  len : cur.length = cnt p
  a1 : ∀ j, Rch p first j → cur[j]? = some (k : Int) ∨ cur[j]? = some (-1)
  a2 : ∀ j, ¬ Rch p first j → cur[j]? = nu[j]?
  b : ∀ s ∈ stk, Rch p first s ∧ cur[s]? = some (k : Int)
  c : ∀ i, Rch p first i → cur[i]? = some (k : Int) → i ∉ stk → x ≠ some i → ∀ j, Nb p i j → Hd p j → cur[j]? = some (k : Int)
  d : cur[first]? = some (k : Int)
theorem k_ne (k : Nat) : ¬ (some (k : Int) = some (-1 : Int)) := fun z => by
  have := Option.some.inj z
  omega
theorem FlI.start {p : Part} {first k : Nat} {nu : List Int} (h : Hd p first) (hl : nu.length = cnt p) (hn : ∀ j, Rch p first j → nu[j]? = some (-1)) : FlI p first k nu (nu.set first (k : Int)) [first] none := by
  have hf : first < nu.length := by rw [hl]; exact h.1
  have hs : (nu.set first (k : Int))[first]? = some (k : Int) := List.getElem?_set_self hf
  refine ⟨by rw [List.length_set, hl], fun j hj => ?_, fun j hj => ?_, fun s hs' => ?_, fun i hi hc hm _ j _ _ => ?_, hs⟩
  · by_cases e : j = first
    · subst e
      exact .inl hs
    · rw [List.getElem?_set_ne (fun z => e z.symm)]
      exact .inr (hn j hj)
  · have e : first ≠ j := fun z => hj (z ▸ Rch.refl h)
    rw [List.getElem?_set_ne e]
  · rw [List.mem_singleton.mp hs']
    exact ⟨Rch.refl h, hs⟩
  · have e : first ≠ i := fun z => hm (by simp [z])
    rw [List.getElem?_set_ne e, hn i hi] at hc
    exact absurd hc.symm (k_ne k)
section
variable {p : Part} {first k : Nat} {nu cur : List Int} {stk : List Nat} {x : Option Nat}
theorem FlI.pop {i : Nat} (F : FlI p first k nu cur (stk ++ [i]) none) : FlI p first k nu cur stk (some i) :=
  ⟨F.len, F.a1, F.a2, fun s hs => F.b s (by simp [hs]), fun i' hi hc hm hx => F.c i' hi hc (fun z => by
    rcases List.mem_append.mp z with z | z
    · exact hm z
    · exact hx (by rw [List.mem_singleton.mp z])) (by simp), F.d⟩
theorem FlI.mark {j : Nat} (F : FlI p first k nu cur stk x) (hj : Rch p first j) (hc : cur[j]? = some (-1)) : FlI p first k nu (cur.set j (k : Int)) (stk ++ [j]) x := by
  have hlt : j < cur.length := (List.getElem?_eq_some_iff.mp hc).1
  have hs : (cur.set j (k : Int))[j]? = some (k : Int) := List.getElem?_set_self hlt
  have hne : ∀ {i : Nat}, j ≠ i → (cur.set j (k : Int))[i]? = cur[i]? := fun h => List.getElem?_set_ne h
  have up : ∀ i, cur[i]? = some (k : Int) → (cur.set j (k : Int))[i]? = some (k : Int) := fun i h => by
    by_cases e : j = i
    · subst e; exact hs
    · rw [hne e]; exact h
  refine ⟨by rw [List.length_set]; exact F.len, fun i hi => ?_, fun i hi => ?_, fun s hs' => ?_, fun i hi hci hm hx j' hn hh => ?_, up _ F.d⟩
  · by_cases e : j = i
    · subst e; exact .inl hs
    · rw [hne e]; exact F.a1 i hi
  · have e : j ≠ i := fun z => hi (z ▸ hj)
    rw [hne e]
    exact F.a2 i hi
  · rcases List.mem_append.mp hs' with z | z
    · exact ⟨(F.b s z).1, up s (F.b s z).2⟩
    · rw [List.mem_singleton.mp z]
      exact ⟨hj, hs⟩
  · have e : j ≠ i := fun z => hm (by simp [z])
    rw [hne e] at hci
    exact up j' (F.c i hi hci (fun z => hm (by simp [z])) hx j' hn hh)
theorem FlI.done {i : Nat} (F : FlI p first k nu cur stk (some i)) (h : ∀ j, Nb p i j → Hd p j → cur[j]? = some (k : Int)) : FlI p first k nu cur stk none :=
  ⟨F.len, F.a1, F.a2, F.b, fun i' hi hc hm _ j hn hh => by
    by_cases e : i = i'
    · subst e; exact h j hn hh
    · exact F.c i' hi hc hm (fun z => e (Option.some.inj z)) j hn hh, F.d⟩
theorem FlI.all (F : FlI p first k nu cur [] none) (hf : Hd p first) : ∀ j, Rch p first j → cur[j]? = some (k : Int) := fun j hj => by
  have : Rch p first j ∧ cur[j]? = some (k : Int) := hj.closed (V := fun j => Rch p first j ∧ cur[j]? = some (k : Int)) ⟨Rch.refl hf, F.d⟩ fun i ⟨h1, h2⟩ j hn hh => ⟨h1.step hn hh, F.c i h1 h2 (by simp) (by simp) j hn hh⟩
  exact this.2
end
def negs (l : List Int) : Nat := l.countP fun i => decide (i = -1)
theorem negs_set {k : Nat} : ∀ {l : List Int} {j : Nat}, l[j]? = some (-1) → negs (l.set j (k : Int)) + 1 = negs l
  | [], j, h => by simp at h
  | a :: l, 0, h => by
    have e : a = -1 := Option.some.inj h
    subst e
    unfold negs
    rw [List.set_cons_zero, List.countP_cons_of_neg (by simp), List.countP_cons_of_pos (by simp)]
  | a :: l, j + 1, h => by
    have ih := negs_set (k := k) (l := l) (j := j) (by simpa using h)
    unfold negs at ih ⊢
    rw [List.set_cons_succ, List.countP_cons, List.countP_cons]
    omega
structure Nums (p : Part) (i : Nat) (cur : List Int) : Prop where
  len : cur.length = cnt p
  off : ∀ j, j < cnt p → ¬ Been p i j → cur[j]? = some (-1)
  on : ∀ t r j : Nat, (rootsTo p i)[t]? = some r → Rch p r j → cur[j]? = some (t : Int)
open Classical in
theorem mem_roots {p : Part} {i r : Nat} : r ∈ rootsTo p i ↔ r < i ∧ Root p r := by
  unfold rootsTo
  rw [List.mem_filter, List.mem_range, decide_eq_true_iff]
theorem been_root {p : Part} {i j : Nat} (h : Been p i j) : ∃ r, r ∈ rootsTo p i ∧ Rch p r j := by
  obtain ⟨a, ha, hr⟩ := h
  have key : ∀ n a, a ≤ n → a < i → Rch p a j → ∃ r, r ∈ rootsTo p i ∧ Rch p r j := by
    intro n
    induction n with
    | zero =>
      intro a h0 h1 h2
      have e : a = 0 := by omega
      subst e
      exact ⟨0, mem_roots.mpr ⟨h1, h2.had.1, fun j hj => absurd hj (Nat.not_lt_zero j)⟩, h2⟩
    | succ n ih =>
      intro a h0 h1 h2
      by_cases hroot : Root p a
      · exact ⟨a, mem_roots.mpr ⟨h1, hroot⟩, h2⟩
      · have : ∃ b, b < a ∧ Rch p b a := by
          apply Classical.byContradiction
          intro hn
          exact hroot ⟨h2.had.1, fun j hj hrj => hn ⟨j, hj, hrj⟩⟩
        obtain ⟨b, hb, hrb⟩ := this
        exact ih b (by omega) (by omega) (hrb.trans h2)
  exact key a a (Nat.le_refl _) ha hr
theorem Nums.start {p : Part} : Nums p 0 (List.replicate (cnt p) (-1)) :=
  ⟨List.length_replicate, fun j hj _ => by rw [List.getElem?_replicate, if_pos hj], fun t r j ht _ => by
    have : rootsTo p 0 = [] := rfl
    rw [this] at ht
    simp at ht⟩
section
variable {p : Part} {i : Nat} {cur : List Int}
theorem Nums.at (N : Nums p i cur) (hi : i < cnt p) (hh : Hd p i) : (cur[i]? = some (-1) ↔ Root p i) := by
  constructor
  · intro h
    refine root_iff.mpr ⟨hh, fun z => ?_⟩
    obtain ⟨r, hr, hri⟩ := been_root z
    obtain ⟨t, ht⟩ := List.getElem?_of_mem hr
    rw [N.on t r i ht hri] at h
    exact k_ne t h
  · intro h
    exact N.off i hi (root_iff.mp h).2
theorem Nums.skip (N : Nums p i cur) (h : ¬ Root p i) : Nums p (i + 1) cur := by
  have e : rootsTo p (i + 1) = rootsTo p i := by
    classical
    rw [rootsTo_succ, if_neg h, List.append_nil]
  refine ⟨N.len, fun j hj hb => N.off j hj fun z => hb (been_succ.mpr (.inl z)), fun t r j ht hr => N.on t r j (by rw [← e]; exact ht) hr⟩
theorem Nums.free (N : Nums p i cur) (h : Root p i) : ∀ j, Rch p i j → cur[j]? = some (-1) := fun j hj =>
  N.off j hj.had.2.1 fun ⟨a, ha, hr⟩ => (root_iff.mp h).2 ⟨a, ha, hr.trans hj.symm⟩
theorem Nums.next {cur' : List Int} (N : Nums p i cur) (h : Root p i) (F : FlI p i (rootsTo p i).length cur cur' [] none) : Nums p (i + 1) cur' := by
  have e : rootsTo p (i + 1) = rootsTo p i ++ [i] := by
    classical
    rw [rootsTo_succ, if_pos h]
  refine ⟨F.len, fun j hj hb => ?_, fun t r j ht hr => ?_⟩
  · have h1 : ¬ Rch p i j := fun z => hb (been_succ.mpr (.inr z))
    rw [F.a2 j h1]
    exact N.off j hj fun z => hb (been_succ.mpr (.inl z))
  · rw [e] at ht
    by_cases hlt : t < (rootsTo p i).length
    · rw [List.getElem?_append_left hlt] at ht
      have hm := mem_roots.mp (List.mem_of_getElem? ht)
      have h1 : ¬ Rch p i j := fun z => h.2 r hm.1 (hr.trans z.symm)
      rw [F.a2 j h1]
      exact N.on t r j ht hr
    · rw [List.getElem?_append_right (by omega)] at ht
      have e2 : t - (rootsTo p i).length = 0 := by
        have := (List.getElem?_eq_some_iff.mp ht).1
        simp at this
        omega
      rw [e2] at ht
      have e3 : i = r := Option.some.inj ht
      subst e3
      have e4 : t = (rootsTo p i).length := by omega
      rw [e4]
      exact F.all h.1 j hr
end
open Classical in
noncomputable def compTo (p : Part) (r j : Nat) : List Nat := (List.range j).filter fun i => decide (Rch p r i)
open Classical in
theorem compTo_succ (p : Part) (r j : Nat) : compTo p r (j + 1) = compTo p r j ++ (if Rch p r j then [j] else []) := by
  unfold compTo
  rw [List.range_succ, List.filter_append]
  by_cases h : Rch p r j <;> simp [h]
theorem compTo_len (p : Part) (r j : Nat) : (compTo p r j).length ≤ j := by
  unfold compTo
  refine Nat.le_trans (List.length_filter_le _ _) ?_
  rw [List.length_range]
  exact Nat.le_refl _
/-- a number tells its root -/
theorem Nums.tells {p : Part} {cur : List Int} (N : Nums p (cnt p) cur) {j : Nat} (hj : j < cnt p) : (cur[j]? = some (-1) ∧ ∀ r ∈ rootsTo p (cnt p), ¬ Rch p r j) ∨ ∃ t r : Nat, cur[j]? = some (t : Int) ∧ (rootsTo p (cnt p))[t]? = some r ∧ Rch p r j ∧ ∀ t' r' : Nat, (rootsTo p (cnt p))[t']? = some r' → Rch p r' j → t' = t := by
  by_cases h : Been p (cnt p) j
  · right
    obtain ⟨r, hr, hrj⟩ := been_root h
    obtain ⟨t, ht⟩ := List.getElem?_of_mem hr
    refine ⟨t, r, N.on t r j ht hrj, ht, hrj, fun t' r' ht' hr' => ?_⟩
    have e1 := N.on t r j ht hrj
    rw [N.on t' r' j ht' hr'] at e1
    have := Option.some.inj e1
    omega
  · left
    exact ⟨N.off j hj h, fun r hr hrj => h ⟨r, (mem_roots.mp hr).1, hrj⟩⟩
theorem roots_len (p : Part) (i : Nat) : (rootsTo p i).length ≤ i := by
  unfold rootsTo
  refine Nat.le_trans (List.length_filter_le _ _) ?_
  rw [List.length_range]
  exact Nat.le_refl _
end Cut
end
section
set_option Elab.async false
set_option linter.all false
set_option maxRecDepth 100000
set_option maxHeartbeats 2000000
namespace Cut
open PySem PySem.Spec PyProof.Rows L2
open Jo (Part Box Cell)
/-- what is asked of a part that is read -/
structure GoodP (p : Part) : Prop where
  w1 : 1 ≤ p.w
  w16 : p.w ≤ 16
  d1 : 1 ≤ p.d
  d16 : p.d ≤ 16
  h16 : p.h ≤ 16
  ins : ∀ y ∈ p.cuts, BoxIn p.w p.d p.h y
theorem GoodP.cnt {p : Part} (g : GoodP p) : cnt p ≤ 4096 := by
  show p.w * p.d * p.h ≤ 4096
  rw [Nat.mul_assoc]
  exact len16 g.w16 g.d16 g.h16
theorem PRel.good {p : Part} {st : RS} (R : PRel p st) : GoodP p := ⟨R.w.1, R.w.2, R.d.1, R.d.2, R.h.2, R.ins⟩
def besV (w d i : Nat) (v : Int × Int × Int) : List V := [.int (((i % w : Nat) : Int) + v.1), .int (((i / w % d : Nat) : Int) + v.2.1), .int (((i / (w * d) : Nat) : Int) + v.2.2)]
theorem pl_nat {w d h i : Nat} {m : List Nat} {v : Int × Int × Int} (e : besideM w d h m v i = 1) (hl : m.length = w * d * h) : plI w d v i = ((plI w d v i).toNat : Int) := by
  have ho : onF (((i % w : Nat) : Int) + v.1) (((i / w % d : Nat) : Int) + v.2.1) (((i / (w * d) : Nat) : Int) + v.2.2) w d h = true := by
    apply Classical.byContradiction
    intro z
    unfold besideM markF at e
    rw [if_neg z] at e
    cases e
  obtain ⟨j, ej, _, _⟩ := mark_in ho hl
  have ej : plI w d v i = (j : Int) := ej
  rw [ej]
  rfl
/-- kept but at an -/
def Ke (an : Addr) (H H' : Hp) : Prop := ∀ x o, H x = some o → x ≠ an → H' x = some o
theorem Ke.refl (an : Addr) (H : Hp) : Ke an H H := fun _ _ h _ => h
theorem Ke.same {an : Addr} {H H1 H2 : Hp} (k : Ke an H H1) (s : Same H1 H2) : Ke an H H2 := fun x o h n => s _ _ (k x o h n)
theorem Ke.put {an : Addr} {H H1 : Hp} {o : HO} (k : Ke an H H1) : Ke an H (upd H1 an o) := fun x u h n => by rw [upd_ne n]; exact k x u h n
theorem Ke.put2 {an b : Addr} {H H1 : Hp} {o : HO} (k : Ke an H H1) (hb : H b = none) : Ke an H (upd H1 b o) := fun x u h n => by rw [upd_ne (ne_of_none h hb)]; exact k x u h n
theorem Same.ke {an : Addr} {H H1 H2 : Hp} (s : Same H H1) (k : Ke an H1 H2) (h : H an = none) : Same H H2 := fun x o e => k x o (s _ _ e) (ne_of_none e h)
theorem int_set (a : List Int) (j : Nat) (n : Int) : (a.map V.int).set j (.int n) = (a.set j n).map V.int := by rw [List.map_set]
theorem int_get {a : List Int} {j : Nat} {n : Int} (h : a[j]? = some n) : (a.map V.int)[j]? = some (.int n) := by rw [List.getElem?_map, h]; rfl
/-- the loop of number_piece -/
def WnP (p : Part) (first k : Nat) (nu : List Int) (an c aw : Addr) (H : Hp) (m : Nat) (σ : L2.St) (H' : Hp) : Prop := ∃ (cur : List Int) (stk : List Nat) (v5 v6 : Option V), σ = [some (.int (first : Nat)), some (.int (k : Nat)), some (.ref an), some (.ref c), some (.ref aw), v5, v6] ∧ Ke an H H' ∧
  H' an = some (.lst (cur.map V.int)) ∧ H' aw = some (.lst (vN stk)) ∧ FlI p first k nu cur stk none ∧ m = 2 * negs cur + stk.length ∧ m ≤ 10000
theorem negs_le (l : List Int) : negs l ≤ l.length := List.countP_le_length
structure Grp (w d : Nat) (H : Hp) (gs : List Addr) (L : List (List Nat)) : Prop where
  len : gs.length = L.length
  each : ∀ (t : Nat) (g : Addr) (is : List Nat), gs[t]? = some g → L[t]? = some is → ∃ ts : List Addr, H g = some (.lst (ts.map V.ref)) ∧ Spots w d H ts is
theorem Grp.same {w d : Nat} {H H' : Hp} {gs : List Addr} {L : List (List Nat)} (G : Grp w d H gs L) (s : Same H H') : Grp w d H' gs L :=
  ⟨G.len, fun t g is h1 h2 => let ⟨ts, a, b⟩ := G.each t g is h1 h2; ⟨ts, s _ _ a, b.same s⟩⟩
theorem nodup_ne {gs : List Addr} (hn : gs.Nodup) {t t' : Nat} {g g' : Addr} (h : gs[t]? = some g) (h' : gs[t']? = some g') (ne : t' ≠ t) : g' ≠ g := fun e => by
  obtain ⟨a, ea⟩ := List.getElem?_eq_some_iff.mp h
  obtain ⟨b, eb⟩ := List.getElem?_eq_some_iff.mp h'
  have pw := List.pairwise_iff_getElem.mp hn
  rcases Nat.lt_or_gt_of_ne ne with z | z
  · exact pw t' t b a z (eb.trans (e.trans ea.symm))
  · exact pw t t' a b z (ea.trans (e.symm.trans eb.symm))
theorem Grp.put {p : Part} {w d : Nat} {H : Hp} {gs : List Addr} {R : List Nat} {j t r : Nat} {g tp : Addr} {ts : List Addr} (G : Grp w d H gs (R.map fun r => compTo p r j)) (hn : gs.Nodup) (hg : gs[t]? = some g) (hr : R[t]? = some r) (hj : Rch p r j) (hu : ∀ t' r' : Nat, R[t']? = some r' → Rch p r' j → t' = t)
    (hts : H g = some (.lst (ts.map V.ref))) (hsp : Spots w d H ts (compTo p r j)) (ht : H tp = some (.tup (spotV w d j))) : Grp w d (upd H g (.lst (ts.map V.ref ++ [V.ref tp]))) gs (R.map fun r => compTo p r (j + 1)) := by
  refine ⟨by rw [G.len, List.length_map, List.length_map], fun t' g' is h1 h2 => ?_⟩
  rw [List.getElem?_map] at h2
  cases er : R[t']? with
  | none => rw [er] at h2; cases h2
  | some r' =>
    rw [er] at h2
    have e2 : compTo p r' (j + 1) = is := Option.some.inj h2
    subst e2
    by_cases e : t' = t
    · subst e
      rw [hg] at h1
      cases h1
      rw [hr] at er
      cases er
      refine ⟨ts ++ [tp], by rw [upd_same, List.map_append]; rfl, ?_⟩
      rw [compTo_succ, if_pos hj]
      exact Paired.snoc (hsp.put hts) (by rw [upd_ne (ne_of ht hts (by intro z; cases z))]; exact ht)
    · have hno : ¬ Rch p r' j := fun z => e (hu t' r' er z)
      obtain ⟨ts', a, b⟩ := G.each t' g' (compTo p r' j) h1 (by rw [List.getElem?_map, er]; rfl)
      refine ⟨ts', by rw [upd_ne (nodup_ne hn hg h1 e)]; exact a, ?_⟩
      rw [compTo_succ, if_neg hno, List.append_nil]
      exact b.put hts
theorem Grp.skip {p : Part} {w d : Nat} {H : Hp} {gs : List Addr} {R : List Nat} {j : Nat} (G : Grp w d H gs (R.map fun r => compTo p r j)) (h : ∀ r ∈ R, ¬ Rch p r j) : Grp w d H gs (R.map fun r => compTo p r (j + 1)) := by
  have e : (R.map fun r => compTo p r (j + 1)) = R.map fun r => compTo p r j := by
    apply List.map_congr_left
    intro r hr
    rw [compTo_succ, if_neg (h r hr), List.append_nil]
  rw [e]
  exact G
end Cut
end
section
set_option Elab.async false
set_option linter.all false
set_option maxRecDepth 100000
set_option maxHeartbeats 2000000
namespace Cut
open PySem PySem.Spec PyProof.Rows L2
open Jo (Part Box Cell)
noncomputable def pieceN (p : Part) (r : Nat) : List Nat := [(compI p r).length] ++ [r % p.w, r / p.w % p.d, r / (p.w * p.d)] ++ [if r / (p.w * p.d) = 0 then 1 else 0]
theorem piece_nums {p : Part} {r : Nat} (h : Root p r) : (comp p r).length :: Wqatdc.cellNums ((comp p r).headD (0, 0, 0)) ++ [Wqatdc.onBottom (comp p r)] = pieceN p r := by
  obtain ⟨rest, e⟩ := compI_head h
  have e1 : (comp p r).length = (compI p r).length := by
    unfold comp
    rw [List.length_map]
  have e2 : (comp p r).headD (0, 0, 0) = cellAt p.w p.d r := by
    unfold comp
    rw [e]
    rfl
  have e3 : Wqatdc.onBottom (comp p r) = if r / (p.w * p.d) = 0 then 1 else 0 := by
    unfold Wqatdc.onBottom
    rw [comp_any]
    by_cases z : r / (p.w * p.d) = 0
    · rw [if_pos z, if_pos]
      rw [List.any_eq_true]
      refine ⟨r, mem_compI.mpr (Rch.refl h.1), ?_⟩
      show (r / (p.w * p.d) == 0) = true
      rw [z]
      rfl
    · rw [if_neg z, if_neg]
      rw [List.any_eq_true]
      rintro ⟨j, hj, hz⟩
      have hz : j / (p.w * p.d) = 0 := by
        have : (j / (p.w * p.d) == 0) = true := hz
        simpa using this
      have hr := mem_compI.mp hj
      have hle : r ≤ j := by
        apply Classical.byContradiction
        intro q
        exact h.2 j (by omega) hr.symm
      have hle2 := Nat.div_le_div_right (c := p.w * p.d) hle
      rw [hz] at hle2
      exact z (Nat.le_zero.mp hle2)
  rw [e1, e2, e3]
  rfl
theorem pieces_nums {p : Part} (hw : 1 ≤ p.w) (hd : 1 ≤ p.d) : (p.pieces.flatMap fun (q : List Cell) => q.length :: Wqatdc.cellNums (q.headD (0, 0, 0)) ++ [Wqatdc.onBottom q]) = (rootsTo p (cnt p)).flatMap (pieceN p) := by
  rw [pieces_eq hw hd, List.flatMap_map]
  have gen : ∀ l : List Nat, (∀ r ∈ l, Root p r) → (l.flatMap fun r => (comp p r).length :: Wqatdc.cellNums ((comp p r).headD (0, 0, 0)) ++ [Wqatdc.onBottom (comp p r)]) = l.flatMap (pieceN p) := by
    intro l
    induction l with
    | nil => intro _; rfl
    | cons a l ih =>
      intro h
      rw [List.flatMap_cons, List.flatMap_cons, piece_nums (h a (by simp)), ih fun x hx => h x (by simp [hx])]
  exact gen _ fun r hr => (mem_roots.mp hr).2
theorem pieces_len {p : Part} (hw : 1 ≤ p.w) (hd : 1 ≤ p.d) : p.pieces.length = (rootsTo p (cnt p)).length := by rw [pieces_eq hw hd, List.length_map]
theorem flat5 (p : Part) (l : List Nat) : (l.flatMap (pieceN p)).length = 5 * l.length := by
  induction l with
  | nil => rfl
  | cons a l ih =>
    rw [List.flatMap_cons, List.length_append, ih, List.length_cons]
    show 5 + _ = _
    omega
end Cut
end
section
set_option Elab.async false
set_option linter.all false
set_option maxRecDepth 100000
set_option maxHeartbeats 4000000
namespace Cut
open PySem PySem.Spec PyProof.Rows L2
def top (i : Nat) : Stmt := PySem.Challenge.pw_cutparts_s06_pieces.main.body.getD i (.Pass ⟨0, 0, 0, 0⟩)
abbrev s_Cells_init : Stmt := inClass (top 2) 0
abbrev s_cells_of : Stmt := top 3
abbrev s_places_of : Stmt := top 4
abbrev s_place_at : Stmt := top 5
abbrev s_spot_at : Stmt := top 6
abbrev s_is_on_block : Stmt := top 7
abbrev s_mark_at : Stmt := top 8
abbrev s_spot_beside : Stmt := top 9
abbrev s_joined : Stmt := top 12
abbrev s_number_piece : Stmt := top 13
abbrev s_places_beside : Stmt := top 14
abbrev s_Block_init : Stmt := inClass (top 25) 0
abbrev s_Cut_init : Stmt := inClass (top 26) 0
abbrev s_Reading_init : Stmt := inClass (top 27) 0
abbrev s_read_text : Stmt := top 28
abbrev s_read_lines : Stmt := top 29
abbrev s_take_line : Stmt := top 30
abbrev s_take_block : Stmt := top 31
abbrev s_take_cut : Stmt := top 32
abbrev s_lies_within : Stmt := top 33
abbrev s_block_from : Stmt := top 34
abbrev s_cut_from : Stmt := top 35
abbrev s_size_from : Stmt := top 36
abbrev s_grain_from : Stmt := top 37
abbrev s_number_from : Stmt := top 38
abbrev s_is_word : Stmt := top 39
abbrev s_is_name : Stmt := top 40
abbrev s_is_digit : Stmt := top 41
abbrev s_is_letter : Stmt := top 42
abbrev s_parted : Stmt := top 43
abbrev s_pieces : Stmt := top 45
abbrev s_lies_on_bottom : Stmt := top 46
abbrev s_refusal_of : Stmt := top 47
/-- what the module has, and what it does not hide -/
structure Txt (mg : Str → Option Value) : Prop where
  len : mg "len" = none
  ord : mg "ord" = none
  all : mg "all" = none
  min : mg "min" = none
  enumerate : mg "enumerate" = none
  zip : mg "zip" = none
  list : mg "list" = none
  sum : mg "sum" = none
  range : mg "range" = none
  tuple : mg "tuple" = none
  mostBytes : ∃ u, mg "MOST_BYTES" = some (.int 16384 u)
  mostCuts : ∃ u, mg "MOST_CUTS" = some (.int 64 u)
  largest : ∃ u, mg "LARGEST_SIZE" = some (.int 16 u)
  longest : ∃ u, mg "LONGEST_NAME" = some (.int 12 u)
  right : ∃ u, mg "RIGHT" = some (.int 0 u)
  notFormed : ∃ u, mg "NOT_FORMED" = some (.int 1 u)
  tooMany : ∃ u, mg "TOO_MANY_CUTS" = some (.int 2 u)
  cannot : ∃ u, mg "CANNOT_STAND" = some (.int 3 u)
  beyond : ∃ u, mg "BEYOND_BLOCK" = some (.int 4 u)
def spDigit : Sp := fun vs H Q _ => ∃ c : Int, vs = [.int c] ∧ Q (.bl (isDig c)) H
def spLetter : Sp := fun vs H Q _ => ∃ c : Int, vs = [.int c] ∧ Q (.bl (isLet c)) H
def spWord (K : PySem.W.Frag) : Sp := fun vs H Q _ => ∃ (a : Addr) (f : List Int) (z : Str), vs = [.ref a, .str z] ∧ SqL K H a (f.map V.int) ∧ z.cps.size ≤ 100 ∧ ∀ H', Same H H' → Q (.bl (decide (f = z.cps.toList.map fun (n : Nat) => (n : Int)))) H'
section
variable {P : Program} {w : World} {K : PySem.W.Frag} {mg : Str → Option Value} {base : Heap}
theorem sc_is_digit : FnScope ["code"] ["code"] (defScope s_is_digit) := ⟨rfl, rfl, rfl, by decide +kernel, rfl, by decide +kernel, by decide +kernel⟩
theorem ok_is_digit {f : Addr} {fd : FuncData} (F : Fun K "is_digit" "is_digit" s_is_digit f fd) (T : Txt mg) : FnOk P w K mg base CX0 1 f fd ["code"] spDigit := by
  refine F.ok sc_is_digit (fun vs H Q E h => ?_) (fun cdv A outer s H vs Q E hr h => ?_)
  · obtain ⟨c, rfl, _⟩ := h
    rfl
  · obtain ⟨c, rfl, k⟩ := h
    refine ⟨_, pss_one (ps_ret (pe_chain op_le op_le (pe_ordC T.ord rfl rfl) (pv 0) (pe_ordC T.ord rfl rfl))), ?_⟩
    refine ⟨_, rfl, _, _, rfl, rfl, _, rfl, iteB (fun e => ?_) fun e => ?_⟩
    · refine ⟨_, _, rfl, rfl, ?_⟩
      have e2 : isDig c = decide (c ≤ 57) := by unfold isDig; rw [show decide (48 ≤ c) = true from e, Bool.true_and]
      rw [e2] at k
      exact k
    · have e2 : isDig c = false := by unfold isDig; rw [show decide (48 ≤ c) = false from e, Bool.false_and]
      rw [e2] at k
      exact k
theorem sc_is_letter : FnScope ["code"] ["code"] (defScope s_is_letter) := ⟨rfl, rfl, rfl, by decide +kernel, rfl, by decide +kernel, by decide +kernel⟩
theorem ok_is_letter {f : Addr} {fd : FuncData} (F : Fun K "is_letter" "is_letter" s_is_letter f fd) (T : Txt mg) : FnOk P w K mg base CX0 1 f fd ["code"] spLetter := by
  refine F.ok sc_is_letter (fun vs H Q E h => ?_) (fun cdv A outer s H vs Q E hr h => ?_)
  · obtain ⟨c, rfl, _⟩ := h
    rfl
  · obtain ⟨c, rfl, k⟩ := h
    refine ⟨_, pss_one (ps_ret (pe_chain op_le op_le (pe_ordC T.ord rfl rfl) (pv 0) (pe_ordC T.ord rfl rfl))), ?_⟩
    refine ⟨_, rfl, _, _, rfl, rfl, _, rfl, iteB (fun e => ?_) fun e => ?_⟩
    · refine ⟨_, _, rfl, rfl, ?_⟩
      have e2 : isLet c = decide (c ≤ 122) := by unfold isLet; rw [show decide (97 ≤ c) = true from e, Bool.true_and]
      rw [e2] at k
      exact k
    · have e2 : isLet c = false := by unfold isLet; rw [show decide (97 ≤ c) = false from e, Bool.false_and]
      rw [e2] at k
      exact k
theorem sc_is_word : FnScope ["field", "word", "sign"] ["field", "word"] (defScope s_is_word) := ⟨rfl, rfl, rfl, by decide +kernel, rfl, by decide +kernel, by decide +kernel⟩
theorem ok_is_word {f : Addr} {fd : FuncData} (F : Fun K "is_word" "is_word" s_is_word f fd) (T : Txt mg) : FnOk P w K mg base CX0 1 f fd ["field", "word"] (spWord K) := by
  refine F.ok sc_is_word (fun vs H Q E h => ?_) (fun cdv A outer s H vs Q E hr h => ?_)
  · obtain ⟨a, f, z, rfl, _⟩ := h
    rfl
  · obtain ⟨a, fl, z, rfl, hS, hz, k⟩ := h
    refine ⟨_, pss_one (ps_ret (pe_cmpR (op_eqL hr.units) (pv 0) (pe_lc rfl sc_is_word.nd (pi_str (pv 1)) (blkOk_by (own := [("sign", 2)]) (by show blkC ["field", "word", "sign"] (defScope s_is_word) _ _ = true; decide +kernel))
      (fun _ _ _ _ _ => pg_name (i := 2) sc_is_word.nd rfl (Or.inl rfl)) (fun _ _ _ _ _ => pts_nil) (fun _ _ _ _ _ => pe_callB call_ord rfl T.ord boot_ord (pa_cons (pv 2) pa_nil))) (nomark _))), ?_⟩
    refine ⟨_, rfl, _, rfl, z, rfl, fun D hD => ?_⟩
    refine lc_str (x := z) (fun i H' => Same H H' ∧ H' D = some (.lst (((z.cps.toList.take i).map fun (n : Nat) => (n : Int)).map V.int))) ⟨Same.upd hD, upd_same⟩ ?_ ?_
    · rintro i c H' hc ⟨s1, hl⟩
      refine ⟨rfl, ?_⟩
      refine ⟨_, rfl, _, rfl, rfl, _, hl, ?_, ?_⟩
      · rw [List.length_map, List.length_map, List.length_take, Array.length_toList]
        exact Nat.lt_of_le_of_lt (Nat.min_le_right _ _) (Nat.lt_of_le_of_lt hz (by decide))
      · refine ⟨s1.upd2 hD, ?_⟩
        rw [upd_same, take_snoc (show z.cps.toList[i]? = some c by simpa using hc), List.map_append, List.map_append]
        rfl
    · rintro H' ⟨s1, hl⟩
      have el : z.cps.toList.take z.cps.size = z.cps.toList := by rw [← Array.length_toList, List.take_length]
      rw [el] at hl
      exact ⟨a, D, fl, _, rfl, rfl, s1.seq hS, SqL.of hl, k _ s1⟩
end
end Cut
end
section
set_option Elab.async false
set_option linter.all false
set_option maxRecDepth 100000
set_option maxHeartbeats 4000000
namespace Cut
open PySem PySem.Spec PyProof.Rows L2
def oI : Option Nat → V
  | none => .non
  | some n => .int (n : Nat)
def spName (K : PySem.W.Frag) : Sp := fun vs H Q _ => ∃ (a : Addr) (f : List Int), vs = [.ref a] ∧ SqL K H a (f.map V.int) ∧ ∀ H', Same H H' → Q (.bl (isNam f)) H'
def spNumber (K : PySem.W.Frag) : Sp := fun vs H Q _ => ∃ (a : Addr) (f : List Int), vs = [.ref a] ∧ SqL K H a (f.map V.int) ∧ f.length ≤ 20000 ∧ ∀ H', Same H H' → Q (oI (numF f)) H'
def spGrain (K : PySem.W.Frag) : Sp := fun vs H Q _ => ∃ (a : Addr) (f : List Int), vs = [.ref a] ∧ SqL K H a (f.map V.int) ∧ ∀ H', Same H H' → Q (oI (grainF f)) H'
theorem small20000 {n : Nat} (h : n ≤ 20000) : n < sizeLine := Nat.lt_of_le_of_lt h (by decide)
section
variable {P : Program} {w : World} {K : PySem.W.Frag} {mg : Str → Option Value} {base : Heap}
theorem sc_is_name : FnScope ["field", "code"] ["field"] (defScope s_is_name) := ⟨rfl, rfl, rfl, by decide +kernel, rfl, by decide +kernel, by decide +kernel⟩
theorem ok_is_name {f : Addr} {fd : FuncData} (F : Fun K "is_name" "is_name" s_is_name f fd) (T : Txt mg) (cD : Callee P w K mg base 1 "is_digit" ["code"] spDigit) (cL : Callee P w K mg base 1 "is_letter" ["code"] spLetter) : FnOk P w K mg base CX0 2 f fd ["field"] (spName K) := by
  refine F.ok sc_is_name (fun vs H Q E h => ?_) (fun cdv A outer s H vs Q E hr h => ?_)
  · obtain ⟨a, f, rfl, _⟩ := h
    rfl
  · obtain ⟨a, fl, rfl, hS, k⟩ := h
    refine ⟨_, pss_cons (ps_if (PW.pt (pw_or (pt_cmpR op_lt (pe_callB call_len_seq rfl T.len boot_len (pa_cons (pv 0) pa_nil)) pe_int (nomark _)) (pw_or1 (pt_cmpR op_gt (pe_callB call_len_seq rfl T.len boot_len (pa_cons (pv 0) pa_nil)) (pe_const T.longest) (nomark _))))) (pss_one (ps_ret pe_bl)) pss_nil)
      (pss_one (ps_ret (pe_callB (cr_all rfl) rfl T.all boot_all (pa_cons (pe_lc rfl sc_is_name.nd (pi_list (pv 0)) (blkOk_by (own := [("code", 1)]) (by show blkC ["field", "code"] (defScope s_is_name) _ _ = true; decide +kernel))
        (fun _ _ _ _ _ => pg_name (i := 1) sc_is_name.nd rfl (Or.inl rfl)) (fun _ _ _ _ _ => pts_nil) (fun _ _ _ _ _ => pe_or (pe_fn cD hr (pa_cons (pv 1) pa_nil)) (pe_one (pe_fn cL hr (pa_cons (pv 1) pa_nil))))) pa_nil)))), ?_⟩
    have hl : (fl.map V.int).length = fl.length := List.length_map _
    refine ⟨_, rfl, a, _, rfl, .inl hS, _, _, rfl, rfl, _, rfl, iteB (fun e => ?_) fun e => ?_⟩
    · have e1 := of_decide_eq_true e
      have e2 : isNam fl = false := by unfold isNam; rw [decide_eq_false (by rw [hl] at e1; omega), Bool.false_and]
      have q := k H (Same.refl H)
      rw [e2] at q
      exact q
    have e1 := of_decide_eq_false e
    refine ⟨_, rfl, a, _, rfl, .inl hS, _, _, rfl, rfl, _, rfl, iteB (fun e => ?_) fun e => ?_⟩
    · have e3 := of_decide_eq_true e
      have e2 : isNam fl = false := by unfold isNam; rw [decide_eq_false (show ¬ fl.length ≤ 12 by rw [hl] at e3; omega), Bool.false_and, Bool.and_false]
      have q := k H (Same.refl H)
      rw [e2] at q
      exact q
    have e3 := of_decide_eq_false e
    rw [hl] at e1 e3
    have e2 : isNam fl = fl.all fun c => isDig c || isLet c := by
      unfold isNam
      rw [decide_eq_true (show 1 ≤ fl.length by omega), decide_eq_true (show fl.length ≤ 12 by omega), Bool.true_and, Bool.true_and]
    refine ⟨_, rfl, a, rfl, ⟨_, hS⟩, fun D hD => ?_⟩
    refine lc_list (K := K) (a := a) (xs := fl.map V.int) (fun i H' => Same H H' ∧ H' D = some (.lst (((fl.take i).map fun c => isDig c || isLet c).map V.bl))) ⟨Same.upd hD, upd_same⟩ (fun i H' _ p => p.1.seq hS) ?_ ?_
    · rintro i y H' hy ⟨s1, hq⟩
      obtain ⟨c, hc, rfl⟩ := map_int hy
      refine ⟨rfl, ?_⟩
      have fin : ∀ b : Bool, b = (isDig c || isLet c) → ∃ acc, H' D = some (.lst acc) ∧ acc.length < sizeLine ∧ (Same H (upd H' D (.lst (acc ++ [V.bl b]))) ∧ upd H' D (.lst (acc ++ [V.bl b])) D = some (.lst (((fl.take (i + 1)).map fun c => isDig c || isLet c).map V.bl))) := fun b hb => by
        subst hb
        refine ⟨_, hq, ?_, s1.upd2 hD, ?_⟩
        · rw [List.length_map, List.length_map, List.length_take]
          exact small20000 (by omega)
        · rw [upd_same, take_snoc hc, List.map_append, List.map_append]
          rfl
      refine ⟨_, rfl, c, rfl, _, rfl, ?_⟩
      refine iteB (fun e => ?_) fun e => ?_
      · exact fin true (by rw [e, Bool.true_or])
      · exact ⟨_, rfl, c, rfl, fin (isLet c) (by rw [e, Bool.false_or])⟩
    · rintro H' ⟨s1, hq⟩
      rw [hl, List.take_length] at hq
      refine ⟨D, _, rfl, SqL.of hq, ?_⟩
      have q := k H' s1
      rw [e2] at q
      have e4 : (fl.map fun c => isDig c || isLet c).all id = fl.all fun c => isDig c || isLet c := by rw [List.all_map]; rfl
      rw [e4]
      exact q
theorem sc_number_from : FnScope ["field", "number", "code"] ["field"] (defScope s_number_from) := ⟨rfl, rfl, rfl, by decide +kernel, rfl, by decide +kernel, by decide +kernel⟩
theorem digStep_le (n : Nat) (c : Int) : digStep n c ≤ 17 := Nat.min_le_right _ _
theorem fold_le : ∀ (l : List Int) (n : Nat), n ≤ 17 → l.foldl digStep n ≤ 17
  | [], n, h => h
  | c :: l, n, h => fold_le l _ (digStep_le n c)
theorem ok_number_from {f : Addr} {fd : FuncData} (F : Fun K "number_from" "number_from" s_number_from f fd) (T : Txt mg) (cD : Callee P w K mg base 1 "is_digit" ["code"] spDigit) : FnOk P w K mg base CX0 2 f fd ["field"] (spNumber K) := by
  refine F.ok sc_number_from (fun vs H Q E h => ?_) (fun cdv A outer s H vs Q E hr h => ?_)
  · obtain ⟨a, f, rfl, _⟩ := h
    rfl
  · obtain ⟨a, fl, rfl, hS, hz, k⟩ := h
    refine ⟨_, pss_cons (ps_if (PW.pt (pw_or (pt_not (pt_truth (pv 0) (fun _ => rfl))) (pw_or1 (pt_not (pt_val (pe_callB (cr_all rfl) rfl T.all boot_all (pa_cons (pe_lc rfl sc_number_from.nd (pi_list (pv 0)) (blkOk_by (own := [("code", 2)]) (by show blkC ["field", "number", "code"] (defScope s_number_from) _ _ = true; decide +kernel))
        (fun _ _ _ _ _ => pg_name (i := 2) sc_number_from.nd rfl (Or.inl rfl)) (fun _ _ _ _ _ => pts_nil) (fun _ _ _ _ _ => pe_fn cD hr (pa_cons (pv 2) pa_nil))) pa_nil))))))) (pss_one (ps_ret pe_non)) pss_nil)
      (pss_cons (ps_if (PW.pt (pw_and (pt_cmpR op_eq (pe_ix ix_list (pv 0) pe_int (fun _ _ => rfl)) (pe_ordC (n := 48) T.ord rfl rfl) (nomark _)) (pw_and1 (pt_cmpR op_gt (pe_callB call_len_seq rfl T.len boot_len (pa_cons (pv 0) pa_nil)) pe_int (nomark _))))) (pss_one (ps_ret pe_non)) pss_nil)
      (pss_cons (ps_set (i := 1) sc_number_from.nd rfl (Or.inl rfl) pe_int)
      (pss_cons (ps_for PassesOwn.never rfl (pi_list (pv 0)) (pg_name (i := 2) sc_number_from.nd rfl (Or.inl rfl))
        (pss_one (ps_set (i := 1) sc_number_from.nd rfl (Or.inl rfl) (pe_callB (call_min2 rfl) rfl T.min boot_min (pa_cons (pe_op op_sub (pe_op op_add (pe_op op_mul (pv 1) pe_int) (pv 2)) (pe_ordC (n := 48) T.ord rfl rfl)) (pa_cons (pe_op op_add (pe_const T.largest) pe_int) pa_nil))))))
      (pss_one (ps_ret (pv 1)))))), ?_⟩
    have hl : (fl.map V.int).length = fl.length := List.length_map _
    refine ⟨_, rfl, _, .inl ⟨_, hS, rfl⟩, ?_⟩
    refine iteB (fun e => ?_) fun e => ?_
    · have e1 : fl = [] := by
        cases fl with
        | nil => rfl
        | cons c r => exact absurd e (by simp)
      have e2 : numF fl = none := by unfold numF; rw [if_pos e1]
      have q := k H (Same.refl H)
      rw [e2] at q
      exact q
    have e1 : fl ≠ [] := fun z => by rw [z] at e; exact absurd e (by simp)
    refine ⟨_, rfl, a, rfl, ⟨_, hS⟩, fun D hD => ?_⟩
    refine lc_list (K := K) (a := a) (xs := fl.map V.int) (fun i H' => Same H H' ∧ H' D = some (.lst (((fl.take i).map isDig).map V.bl))) ⟨Same.upd hD, upd_same⟩ (fun i H' _ p => p.1.seq hS) ?_ ?_
    · rintro i y H' hy ⟨s1, hq⟩
      obtain ⟨c, hc, rfl⟩ := map_int hy
      refine ⟨rfl, ?_⟩
      refine ⟨_, rfl, c, rfl, _, hq, ?_, s1.upd2 hD, ?_⟩
      · rw [List.length_map, List.length_map, List.length_take]
        exact small20000 (by omega)
      · rw [upd_same, take_snoc hc, List.map_append, List.map_append]
        rfl
    · rintro H1 ⟨s1, hq⟩
      rw [hl, List.take_length] at hq
      refine ⟨D, _, rfl, SqL.of hq, _, rfl, ?_⟩
      have e4 : (fl.map isDig).all id = fl.all isDig := by rw [List.all_map]; rfl
      rw [e4]
      refine iteB (fun e => ?_) fun e => ?_
      · have e3 : fl.all isDig = false := by simpa using e
        have e2 : numF fl = none := by unfold numF; rw [if_neg e1, if_pos e3]
        have q := k H1 s1
        rw [e2] at q
        exact q
      have e3 : fl.all isDig = true := by simpa using e
      obtain ⟨c0, r, rfl⟩ : ∃ c r, fl = c :: r := by
        cases fl with
        | nil => exact absurd rfl e1
        | cons c r => exact ⟨c, r, rfl⟩
      refine ⟨_, rfl, a, _, _, V.int c0, rfl, rfl, s1.seq hS, atI_nat (j := 0) rfl, rfl, _, rfl, ?_⟩
      have hS1 := s1.seq hS
      have rest : numF (c0 :: r) = some ((c0 :: r).foldl digStep 0) → tSeq (tAsg (tC (.int 0)) (gName 1)) (tSeq (tFor (iList K (tVar 0)) (gName 2) (tAsg (tCB (fun xs H Q => ∃ i j, xs = [.int i, .int j] ∧ Q (.int (if j < i then j else i)) H) (tCons (tOp (rI0 fun i j => .int (i - j)) (tOp (rI0 fun i j => .int (i + j)) (tOp (rI CMul fun i j => .int (i * j)) (tVar 1) (tC (.int 10))) (tVar 2)) (tC (.int (48 : Nat)))) (tCons (tOp (rI0 fun i j => .int (i + j)) (tC (.int 16)) (tC (.int 1))) tNil))) (gName 1))) (tRet (tVar 1))) { nx := fun _ H' => Q .non H', rt := Q } (start ["field", "number", "code"] [V.ref a]) H1 := fun en => by
        refine ⟨_, rfl, a, rfl, ⟨_, hS1⟩, for_list (K := K) (a := a) (xs := (c0 :: r).map V.int) (fun i σ H' => ∃ v : Option V, σ = [some (.ref a), some (.int (((c0 :: r).take i).foldl digStep 0 : Nat)), v] ∧ H' = H1) ⟨none, rfl, rfl⟩ (fun i σ H' _ ⟨_, _, z⟩ => by rw [z]; exact hS1) ?_ ?_⟩
        · rintro i y σ H' hy ⟨v, rfl, rfl⟩
          obtain ⟨c, hc, rfl⟩ := map_int hy
          have hd : isDig c = true := List.all_eq_true.mp e3 c (List.mem_of_getElem? hc)
          have hd1 : 48 ≤ c ∧ c ≤ 57 := by
            unfold isDig at hd
            rw [Bool.and_eq_true] at hd
            exact ⟨of_decide_eq_true hd.1, of_decide_eq_true hd.2⟩
          have hle := fold_le ((c0 :: r).take i) 0 (by omega)
          refine ⟨_, rfl, _, _, rfl, rfl, .inl ⟨by omega, by omega⟩, _, rfl, _, _, rfl, rfl, _, _, rfl, rfl, _, _, rfl, rfl, _, _, rfl, ?_⟩
          refine ⟨some (V.int c), ?_, rfl⟩
          rw [take_snoc hc, List.foldl_append]
          show [some (V.ref a), some (V.int _), some (V.int c)] = [some (V.ref a), some (V.int ((digStep (((c0 :: r).take i).foldl digStep 0) c : Nat) : Int)), _]
          generalize ((c0 :: r).take i).foldl digStep 0 = n at hle
          have en : (if (16 : Int) + 1 < (n : Int) * 10 + c - ((48 : Nat) : Int) then (16 : Int) + 1 else (n : Int) * 10 + c - ((48 : Nat) : Int)) = ((digStep n c : Nat) : Int) := by
            unfold digStep
            split
            · omega
            · omega
          rw [en]
        · rintro σ H' ⟨v, rfl, rfl⟩
          refine ⟨_, rfl, ?_⟩
          have q := k _ s1
          rw [en] at q
          rw [hl, List.take_length]
          exact q
      refine iteB (fun e => ?_) fun e => ?_
      · have h0 : c0 = 48 := by have := of_decide_eq_true e; injection this
        refine ⟨_, rfl, a, _, rfl, .inl hS1, _, _, rfl, rfl, _, rfl, ?_⟩
        refine iteB (fun e => ?_) fun e => ?_
        · have h1 := of_decide_eq_true e
          have e2 : numF (c0 :: r) = none := by unfold numF; rw [if_neg e1, if_neg (by rw [e3]; simp), if_pos ⟨h0, by rw [hl] at h1; omega⟩]
          have q := k H1 s1
          rw [e2] at q
          exact q
        · have h1 := of_decide_eq_false e
          exact rest (by unfold numF; rw [if_neg e1, if_neg (by rw [e3]; simp), if_neg (by rintro ⟨_, z⟩; rw [hl] at h1; omega)])
      · have h0 : ¬ c0 = 48 := fun z => of_decide_eq_false e (by rw [z]; rfl)
        exact rest (by unfold numF; rw [if_neg e1, if_neg (by rw [e3]; simp), if_neg (by rintro ⟨z, _⟩; exact h0 z)])
end
end Cut
end
section
set_option Elab.async false
set_option linter.all false
set_option maxRecDepth 100000
set_option maxHeartbeats 4000000
namespace Cut
open PySem PySem.Spec PyProof.Rows L2
/-- lists of ints that stand at these places -/
abbrev Rows (H : Hp) (as : List Addr) (fs : List (List Int)) : Prop := Paired (fun a (f : List Int) => H a = some (.lst (f.map V.int))) as fs
theorem Rows.same {H H' : Hp} {as : List Addr} {fs : List (List Int)} (r : Rows H as fs) (s : Same H H') : Rows H' as fs := Paired.imp' (fun a f h => s _ _ h) r
theorem Rows.get {H : Hp} : ∀ {as : List Addr} {fs : List (List Int)} {i : Nat} {a : Addr}, Rows H as fs → as[i]? = some a → ∃ f, fs[i]? = some f ∧ H a = some (.lst (f.map V.int))
  | _, _, _, _, .nil, e => by simp at e
  | _, _, 0, _, .cons r _, e => by simp at e; subst e; exact ⟨_, rfl, r⟩
  | _, _, i + 1, x, .cons _ t, e => by
    obtain ⟨u, h1, h2⟩ := Rows.get (i := i) (a := x) t (by simpa using e)
    exact ⟨u, by simpa using h1, h2⟩
def spSize (K : PySem.W.Frag) : Sp := fun vs H Q _ => ∃ (a : Addr) (as : List Addr) (fs : List (List Int)), vs = [.ref a] ∧ SqL K H a (as.map V.ref) ∧ Rows H as fs ∧ fs.length ≤ 100 ∧ (∀ f ∈ fs, f.length ≤ 20000) ∧
  (sizF fs = none → ∀ H', Same H H' → Q .non H') ∧ ∀ ns, sizF fs = some ns → ∀ H' p, Same H H' → H p = none → H' p = some (.lst (vN ns)) → Q (.ref p) H'
/-- the new lists that parted gives -/
structure NewRows (H H' : Hp) (l : Addr) (fs : List (List Int)) (as : List Addr) : Prop where
  lst : H' l = some (.lst (as.map V.ref))
  rows : Rows H' as fs
  fr : H l = none
  frs : ∀ a ∈ as, H a = none
  apart : ∀ a ∈ as, a ≠ l
  nd : as.Nodup
def spParted (K : PySem.W.Frag) : Sp := fun vs H Q _ => ∃ (a : Addr) (cs : List Int) (m : Int), vs = [.ref a, .int m] ∧ SqL K H a (cs.map V.int) ∧ cs.length ≤ 20000 ∧ ∀ H' l as, Same H H' → NewRows H H' l (part m cs) as → Q (.ref l) H'
theorem map_oI (l : List (Option Nat)) (h : l.all okSize = true) : l.map oI = vN (l.map fun o => o.getD 0) := by
  induction l with
  | nil => rfl
  | cons o r ih =>
    rw [List.all_cons, Bool.and_eq_true] at h
    have e := ih h.2
    cases o with
    | none => exact absurd h.1 (by simp [okSize])
    | some n =>
      show V.int n :: r.map oI = V.int n :: _
      rw [e]
      rfl
theorem part_len (m : Int) : ∀ l, (part m l).length ≤ l.length + 1 ∧ ∀ w ∈ part m l, w.length ≤ l.length
  | [] => by simp [part]
  | x :: r => by
    obtain ⟨h1, h2⟩ := part_len m r
    unfold part
    split
    · refine ⟨by simp; omega, fun w hw => ?_⟩
      rcases List.mem_cons.mp hw with e | e
      · rw [e]; simp
      · have := h2 w e
        simp; omega
    · split
      · refine ⟨by simp, fun w hw => ?_⟩
        have e : w = [x] := by simpa using hw
        rw [e]; simp
      · rename_i w l e
        rw [e] at h1 h2
        refine ⟨by simp at h1 ⊢; omega, fun v hv => ?_⟩
        rcases List.mem_cons.mp hv with q | q
        · rw [q]
          have := h2 w (by simp)
          simp; omega
        · have := h2 v (by simp [q])
          simp; omega
section
variable {P : Program} {w : World} {K : PySem.W.Frag} {mg : Str → Option Value} {base : Heap}
theorem sc_grain_from : FnScope ["field", "grain", "sign"] ["field"] (defScope s_grain_from) := ⟨rfl, rfl, rfl, by decide +kernel, rfl, by decide +kernel, by decide +kernel⟩
theorem grain_at {i c : Nat} {f : List Int} (hc : ("xyz" : Str).cps[i]? = some c) (h : ∀ j : Nat, j < i → f ≠ [((120 + j : Nat) : Int)]) : (c = 120 + i ∧ i < 3) ∧ (f = [(c : Int)] → grainF f = some i) := by
  have e : ("xyz" : Str).cps = #[120, 121, 122] := by decide +kernel
  rw [e] at hc
  match i, hc with
  | 0, hc =>
    have e : 120 = c := by simpa using hc
    subst e
    exact ⟨⟨rfl, by omega⟩, fun z => by rw [z]; rfl⟩
  | 1, hc =>
    have e : 121 = c := by simpa using hc
    subst e
    exact ⟨⟨rfl, by omega⟩, fun z => by rw [z]; rfl⟩
  | 2, hc =>
    have e : 122 = c := by simpa using hc
    subst e
    exact ⟨⟨rfl, by omega⟩, fun z => by rw [z]; rfl⟩
  | i + 3, hc => simp at hc
theorem grain_no {f : List Int} (h : ∀ j : Nat, j < 3 → f ≠ [((120 + j : Nat) : Int)]) : grainF f = none := by
  unfold grainF
  rw [if_neg (show ¬ f = [120] from h 0 (by omega)), if_neg (show ¬ f = [121] from h 1 (by omega)), if_neg (show ¬ f = [122] from h 2 (by omega))]
theorem ok_grain_from {f : Addr} {fd : FuncData} (F : Fun K "grain_from" "grain_from" s_grain_from f fd) (T : Txt mg) (cW : Callee P w K mg base 1 "is_word" ["field", "word"] (spWord K)) : FnOk P w K mg base CX0 2 f fd ["field"] (spGrain K) := by
  refine F.ok sc_grain_from (fun vs H Q E h => ?_) (fun cdv A outer s H vs Q E hr h => ?_)
  · obtain ⟨a, f, rfl, _⟩ := h
    rfl
  · obtain ⟨a, fl, rfl, hS, k⟩ := h
    refine ⟨_, pss_cons (ps_for PassesOwn.never rfl (pi_enumS rfl T.enumerate (pa_cons pe_str pa_nil)) (pg_tup rfl (pgs_cons (pg_name (i := 1) sc_grain_from.nd rfl (Or.inl rfl)) (pgs_cons (pg_name (i := 2) sc_grain_from.nd rfl (Or.inl rfl)) pgs_nil)))
      (pss_one (ps_if (pt_val (pe_fn cW hr (pa_cons (pv 0) (pa_cons (pv 2) pa_nil)))) (pss_one (ps_ret (pv 1))) pss_nil)))
      (pss_one (ps_ret pe_non)), ?_⟩
    refine ⟨_, rfl, for_enumS (z := "xyz") (fun i σ H' => ∃ v1 v2 : Option V, σ = [some (.ref a), v1, v2] ∧ Same H H' ∧ ∀ j : Nat, j < i → fl ≠ [((120 + j : Nat) : Int)]) ⟨none, none, rfl, Same.refl H, fun j h => absurd h (Nat.not_lt_zero j)⟩ ?_ ?_⟩
    · rintro i c σ H' T' hc ⟨v1, v2, rfl, s1, hn⟩ hT
      obtain ⟨⟨ec, hi⟩, hg⟩ := grain_at hc hn
      refine ⟨T', _, rfl, SqT.of upd_same, rfl, _, _, rfl, _, _, rfl, rfl, ?_⟩
      have s2 : Same H (upd H' T' (.tup [.int (i : Nat), .str ⟨#[c]⟩])) := s1.upd2 (s1.free hT)
      refine ⟨_, rfl, _, rfl, a, fl, ⟨#[c]⟩, rfl, s2.seq hS, by show 1 ≤ 100; omega, fun H2 s3 => ?_⟩
      have s4 : Same H H2 := s2.trans s3
      refine ⟨_, rfl, iteB (fun e => ?_) fun e => ?_⟩
      · have e1 : fl = [(c : Int)] := of_decide_eq_true e
        have q := k H2 s4
        rw [hg e1] at q
        exact ⟨_, rfl, q⟩
      · have e1 : fl ≠ [(c : Int)] := of_decide_eq_false e
        refine ⟨_, _, rfl, s4, fun j hj => ?_⟩
        by_cases q : j < i
        · exact hn j q
        · have : j = i := by omega
          subst this
          rw [ec] at e1
          exact e1
    · rintro σ H' ⟨v1, v2, rfl, s1, hn⟩
      have q := k H' s1
      rw [grain_no hn] at q
      exact q
theorem sc_size_from : FnScope ["fields", "size", "length", "field"] ["fields"] (defScope s_size_from) := ⟨rfl, rfl, rfl, by decide +kernel, rfl, by decide +kernel, by decide +kernel⟩
theorem ok_size_from {f : Addr} {fd : FuncData} (F : Fun K "size_from" "size_from" s_size_from f fd) (T : Txt mg) (cN : Callee P w K mg base 2 "number_from" ["field"] (spNumber K)) : FnOk P w K mg base CX0 3 f fd ["fields"] (spSize K) := by
  refine F.ok sc_size_from (fun vs H Q E h => ?_) (fun cdv A outer s H vs Q E hr h => ?_)
  · obtain ⟨a, as, fs, rfl, _⟩ := h
    rfl
  · obtain ⟨a, as, fs, rfl, hS, hR, hz, hzz, k1, k2⟩ := h
    refine ⟨_, pss_cons (ps_setLc (i := 1) rfl sc_size_from.nd rfl rfl (sw_true rfl rfl rfl rfl) (pi_list (pv 0)) (blkOk_by (own := [("field", 3)]) (by show blkC ["fields", "size", "length", "field"] (defScope s_size_from) _ _ = true; decide +kernel))
        (fun _ _ _ _ _ => pg_name (i := 3) sc_size_from.nd rfl (Or.inl rfl)) (fun _ _ _ _ _ => pts_nil) (fun _ _ _ _ _ => pe_fn cN hr (pa_cons (pv 3) pa_nil)))
      (pss_cons (ps_for PassesOwn.never rfl (pi_list (pv 1)) (pg_name (i := 2) sc_size_from.nd rfl (Or.inl rfl))
        (pss_one (ps_if (PW.pt (pw_or (pt_cmpR op_isN (pv 2) pe_non (nomark _)) (pw_or (pt_cmpR op_lt (pv 2) pe_int (nomark _)) (pw_or1 (pt_cmpR op_gt (pv 2) (pe_const T.largest) (nomark _)))))) (pss_one (ps_ret pe_non)) pss_nil)))
      (pss_one (ps_ret (pv 1)))), ?_⟩
    have hlen : as.length = fs.length := Paired.length hR
    refine ⟨_, rfl, a, rfl, ⟨_, hS⟩, fun D hD => ?_⟩
    refine lc_list (K := K) (a := a) (xs := as.map V.ref) (fun i H' => Same H H' ∧ H' D = some (.lst (((fs.map numF).take i).map oI))) ⟨Same.upd hD, upd_same⟩ (fun i H' _ p => p.1.seq hS) ?_ ?_
    · rintro i y H' hy ⟨s1, hq⟩
      obtain ⟨b, hb, rfl⟩ := map_ref hy
      obtain ⟨fl, hf, hbl⟩ := hR.get hb
      refine ⟨rfl, ?_⟩
      refine ⟨_, rfl, b, fl, rfl, SqL.of (s1 _ _ hbl), hzz fl (List.mem_of_getElem? hf), fun H2 s2 => ?_⟩
      have hD2 := s2 _ _ hq
      refine ⟨_, hD2, ?_, (s1.trans s2).upd2 hD, ?_⟩
      · rw [List.length_map, List.length_take, List.length_map]
        exact small20000 (by omega)
      · rw [upd_same, take_snoc (show (fs.map numF)[i]? = some (numF fl) by rw [List.getElem?_map, hf]; rfl), List.map_append]
        rfl
    · rintro H1 ⟨s1, hq⟩
      have el : (fs.map numF).take (as.map V.ref).length = fs.map numF := by
        rw [List.length_map, hlen, ← List.length_map (f := numF), List.take_length]
      rw [el] at hq
      refine ⟨_, rfl, D, rfl, ⟨_, SqL.of hq⟩, for_list (K := K) (a := D) (xs := (fs.map numF).map oI) (fun i σ H' => ∃ v2 v3 : Option V, σ = [some (.ref a), some (.ref D), v2, v3] ∧ H' = H1 ∧ ((fs.map numF).take i).all okSize = true) ⟨none, none, rfl, rfl, rfl⟩ (fun i σ H' _ ⟨_, _, _, z, _⟩ => by rw [z]; exact SqL.of hq) ?_ ?_⟩
      · rintro i y σ H' hy ⟨v2, v3, rfl, rfl, ha⟩
        obtain ⟨o, ho, rfl⟩ : ∃ o, (fs.map numF)[i]? = some o ∧ y = oI o := by
          rw [List.getElem?_map] at hy
          cases e : (fs.map numF)[i]? with
          | none => rw [e] at hy; cases hy
          | some z => rw [e] at hy; exact ⟨z, rfl, (Option.some.inj hy).symm⟩
        have bad : okSize o = false → Q .non H' := fun hb => k1 (by
          unfold sizF
          rw [if_neg]
          intro z
          rw [List.all_eq_true.mp z o (List.mem_of_getElem? ho)] at hb
          exact Bool.noConfusion hb) H' s1
        have good : okSize o = true → ∃ v2' v3' : Option V, [some (V.ref a), some (V.ref D), some (oI o), v3] = [some (.ref a), some (.ref D), v2', v3'] ∧ H' = H' ∧ ((fs.map numF).take (i + 1)).all okSize = true := fun hg =>
          ⟨_, _, rfl, rfl, by rw [take_snoc ho, List.all_append, ha, Bool.true_and, List.all_cons, hg]; rfl⟩
        cases o with
        | none => exact ⟨_, rfl, rfl, _, rfl, bad rfl⟩
        | some n =>
          refine ⟨_, rfl, rfl, _, rfl, ?_⟩
          refine ⟨_, rfl, _, _, rfl, rfl, _, rfl, iteB (fun e => ?_) fun e => ?_⟩
          · have := of_decide_eq_true e
            exact bad (by unfold okSize; simp; omega)
          have e1 := of_decide_eq_false e
          refine ⟨_, rfl, _, _, rfl, rfl, _, rfl, iteB (fun e => ?_) fun e => ?_⟩
          · have := of_decide_eq_true e
            exact bad (by unfold okSize; simp; omega)
          have e2 := of_decide_eq_false e
          exact good (by unfold okSize; simp; omega)
      · rintro σ H' ⟨v2, v3, rfl, rfl, ha⟩
        rw [List.length_map, List.take_length] at ha
        refine ⟨_, rfl, k2 _ (by unfold sizF; rw [if_pos ha]) H' D s1 hD ?_⟩
        rw [hq, map_oI _ ha]
end
end Cut
end
section
set_option Elab.async false
set_option linter.all false
set_option maxRecDepth 100000
set_option maxHeartbeats 4000000
namespace Cut
open PySem PySem.Spec PyProof.Rows L2
theorem Rows.snoc_inv {H : Hp} : ∀ {as : List Addr} {fs : List (List Int)}, Rows H as fs → as ≠ [] → ∃ as' a fs' f, as = as' ++ [a] ∧ fs = fs' ++ [f] ∧ Rows H as' fs' ∧ H a = some (.lst (f.map V.int))
  | _, _, .nil, h => absurd rfl h
  | [a], [f], .cons r .nil, _ => ⟨[], a, [], f, rfl, rfl, .nil, r⟩
  | a :: b :: as, f :: g :: fs, .cons r t, _ => by
    obtain ⟨as', a', fs', f', e1, e2, h1, h2⟩ := Rows.snoc_inv t (by simp)
    exact ⟨a :: as', a', f :: fs', f', by rw [e1]; rfl, by rw [e2]; rfl, .cons r h1, h2⟩
theorem Rows.keep {H H' : Hp} : ∀ {as : List Addr} {fs : List (List Int)}, Rows H as fs → (∀ a ∈ as, ∀ o, H a = some o → H' a = some o) → Rows H' as fs
  | _, _, .nil, _ => .nil
  | _, _, .cons r t, h => .cons (h _ (by simp) _ r) (Rows.keep t fun a m => h a (by simp [m]))
theorem nodup_snoc {α : Type} : ∀ {l : List α} {k : α}, l.Nodup → ¬ k ∈ l → (l ++ [k]).Nodup
  | [], k, _, _ => by simp
  | a :: r, k, h, hk => by
    obtain ⟨h1, h2⟩ := List.nodup_cons.mp h
    refine List.nodup_cons.mpr ⟨fun m => ?_, nodup_snoc h2 fun m => hk (by simp [m])⟩
    rcases List.mem_append.mp m with q | q
    · exact h1 q
    · exact hk (by simp [(List.mem_singleton.mp q)])
section
variable {P : Program} {w : World} {K : PySem.W.Frag} {mg : Str → Option Value} {base : Heap}
theorem sc_parted : FnScope ["codes", "mark", "stretches", "code"] ["codes", "mark"] (defScope s_parted) := ⟨rfl, rfl, rfl, by decide +kernel, rfl, by decide +kernel, by decide +kernel⟩
theorem ok_parted {f : Addr} {fd : FuncData} (F : Fun K "parted" "parted" s_parted f fd) (T : Txt mg) : FnOk P w K mg base CX0 1 f fd ["codes", "mark"] (spParted K) := by
  refine F.ok sc_parted (fun vs H Q E h => ?_) (fun cdv A outer s H vs Q E hr h => ?_)
  · obtain ⟨a, cs, m, rfl, _⟩ := h
    rfl
  · obtain ⟨a, cs, m, rfl, hS, hz, k⟩ := h
    refine ⟨_, pss_cons (ps_set (i := 2) sc_parted.nd rfl (Or.inl rfl) (pe_lst (pa_cons (pe_lst pa_nil) pa_nil)))
      (pss_cons (ps_for PassesOwn.never rfl (pi_list (pv 0)) (pg_name (i := 3) sc_parted.nd rfl (Or.inl rfl))
        (pss_one (ps_if (pt_cmpR op_eq (pv 3) (pv 1) (nomark _))
          (pss_one (ps_expr (pe_bm PySem.F.plainAttrs_list PySem.F.slot_list_append PySem.F.type_list_append mt_append (pv 2) (pa_cons (pe_lst pa_nil) pa_nil))))
          (pss_one (ps_expr (pe_bm PySem.F.plainAttrs_list PySem.F.slot_list_append PySem.F.type_list_append mt_append (pe_ix ix_list (pv 2) (pe_un un_neg pe_int) (fun _ _ => rfl)) (pa_cons (pv 3) pa_nil)))))))
      (pss_one (ps_ret (pv 2)))), ?_⟩
    refine ⟨by show 0 ≤ sizeLine; decide, fun b hb => ⟨by show 1 ≤ sizeLine; decide, fun l hl => ?_⟩⟩
    have s0 : Same H (upd H b (.lst [])) := Same.upd hb
    have nbl : b ≠ l := ne_of_none (upd_same (H := H) (a := b) (o := .lst [])) hl
    have hl0 : H l = none := s0.free hl
    refine ⟨_, rfl, a, rfl, ⟨_, ((s0.trans (Same.upd hl)).seq hS)⟩, for_list (K := K) (a := a) (xs := cs.map V.int) (fun i σ H' => ∃ (v : Option V) (as : List Addr), σ = [some (.ref a), some (.int m), some (.ref l), v] ∧ Same H H' ∧ NewRows H H' l (part m (cs.take i)) as)
      ⟨none, [b], rfl, s0.trans (Same.upd hl), ⟨upd_same, .cons (by rw [upd_ne nbl]; exact upd_same) .nil, hl0, fun c hc => by rw [List.mem_singleton.mp hc]; exact hb, fun c hc => by rw [List.mem_singleton.mp hc]; exact nbl, by simp⟩⟩ (fun i σ H' _ ⟨_, _, _, s1, _⟩ => s1.seq hS) ?_ ?_⟩
    · rintro i y σ H' hy ⟨v, as, rfl, s1, R⟩
      obtain ⟨c, hc, rfl⟩ := map_int hy
      have hi : i < cs.length := (List.getElem?_eq_some_iff.mp hc).1
      have hpl := part_len m (cs.take i)
      have hal : as.length = (part m (cs.take i)).length := Paired.length R.rows
      have htl : (cs.take i).length ≤ i := by rw [List.length_take]; omega
      refine ⟨_, rfl, _, rfl, rfl, _, rfl, iteB (fun e => ?_) fun e => ?_⟩
      · have e1 : c = m := by have := of_decide_eq_true e; injection this
        refine ⟨_, rfl, .inl ⟨rfl, _, SqL.of R.lst⟩, by show 0 ≤ sizeLine; decide, fun q hq => ?_⟩
        have nq : l ≠ q := ne_of_none R.lst hq
        refine ⟨l, _, _, rfl, rfl, (by rw [upd_ne nq]; exact R.lst), ?_, ?_⟩
        · rw [List.length_map]
          exact small20000 (by omega)
        · have hqH : H q = none := s1.free hq
          have nqa : ∀ d ∈ as, d ≠ q := fun d hd z => by
            obtain ⟨j, hj⟩ := List.getElem?_of_mem hd
            obtain ⟨f, _, h2⟩ := R.rows.get hj
            rw [z, hq] at h2
            cases h2
          refine ⟨_, as ++ [q], rfl, (s1.upd2 hqH).upd2 hl0, ⟨?_, ?_, hl0, ?_, ?_, ?_⟩⟩
          · rw [upd_same, List.map_append]
            rfl
          · rw [take_snoc hc, part_snoc, if_pos e1]
            refine Paired.snoc (Rows.keep R.rows fun d hd o ho => ?_) ?_
            · rw [upd_ne (R.apart d hd), upd_ne (nqa d hd)]
              exact ho
            · rw [upd_ne nq.symm, upd_same]
              rfl
          · intro d hd
            rcases List.mem_append.mp hd with z | z
            · exact R.frs d z
            · rw [List.mem_singleton.mp z]; exact hqH
          · intro d hd
            rcases List.mem_append.mp hd with z | z
            · exact R.apart d z
            · rw [List.mem_singleton.mp z]; exact nq.symm
          · exact nodup_snoc R.nd fun z => nqa q z rfl
      · have e1 : ¬ c = m := fun z => of_decide_eq_false e (by rw [z])
        have hne : as ≠ [] := fun z => by
          rw [z] at hal
          exact part_ne m (cs.take i) (List.length_eq_zero_iff.mp hal.symm)
        obtain ⟨as', d, fs', fl, ea, ef, hR', hd⟩ := R.rows.snoc_inv hne
        have ndl : d ≠ l := R.apart d (by rw [ea]; simp)
        have hfl : fl.length ≤ i := by
          have := hpl.2 fl (by rw [ef]; simp)
          omega
        refine ⟨_, rfl, _, rfl, l, _, _, V.ref d, rfl, rfl, SqL.of R.lst, ?_, .inl ⟨rfl, _, SqL.of hd⟩, _, rfl, d, _, _, rfl, rfl, hd, ?_, ?_⟩
        · rw [ea, List.map_append]
          exact atI_last _ _
        · rw [List.length_map]
          exact small20000 (by omega)
        · have hdH : H d = none := R.frs d (by rw [ea]; simp)
          have hnd : d ∉ as' := by
            have := R.nd
            rw [ea] at this
            intro z
            exact (List.nodup_append.mp this).2.2 d z d (by simp) rfl
          refine ⟨_, as, rfl, s1.upd2 hdH, ⟨?_, ?_, hl0, R.frs, R.apart, R.nd⟩⟩
          · rw [upd_ne ndl.symm]
            exact R.lst
          · rw [take_snoc hc, part_snoc, if_neg e1, ef, growLast_snoc, ea]
            refine Paired.snoc (Rows.keep hR' fun q hq o ho => ?_) ?_
            · rw [upd_ne (fun z => hnd (by rw [← z]; exact hq))]
              exact ho
            · rw [upd_same, List.map_append]
              rfl
    · rintro σ H' ⟨v, as, rfl, s1, R⟩
      rw [List.length_map, List.take_length] at R
      exact ⟨_, rfl, k H' l as s1 R⟩
end
end Cut
end
section
set_option Elab.async false
set_option linter.all false
set_option maxRecDepth 100000
set_option maxHeartbeats 4000000
namespace Cut
open PySem PySem.Spec PyProof.Rows L2
def spBlockFrom (K : PySem.W.Frag) (CB : Addr) : Sp := fun vs H Q _ => ∃ (a : Addr) (as : List Addr) (fs : List (List Int)), vs = [.ref a] ∧ SqL K H a (as.map V.ref) ∧ Rows H as fs ∧ (∀ f ∈ fs, f.length ≤ 20000) ∧
  (blkF fs = none → ∀ H', Same H H' → Q .non H') ∧ ∀ n s g, blkF fs = some (n, s, g) → ∀ H' b, Same H H' → H b = none → BlkAt CB H' b n s g → Q (.ref b) H'
def spCutFrom (K : PySem.W.Frag) (CC : Addr) : Sp := fun vs H Q _ => ∃ (a : Addr) (as : List Addr) (fs : List (List Int)), vs = [.ref a] ∧ SqL K H a (as.map V.ref) ∧ Rows H as fs ∧ (∀ f ∈ fs, f.length ≤ 20000) ∧
  (cutF fs = none → ∀ H', Same H H' → Q .non H') ∧ ∀ x s, cutF fs = some (x, s) → ∀ H' c, Same H H' → H c = none → CutAt CC H' c x s → Q (.ref c) H'
theorem rows_cons {H : Hp} {a : Addr} {as : List Addr} {fs : List (List Int)} (r : Rows H (a :: as) fs) : ∃ f gs, fs = f :: gs ∧ H a = some (.lst (f.map V.int)) ∧ Rows H as gs := by
  cases r with
  | cons h t => exact ⟨_, _, rfl, h, t⟩
theorem rows_nil {H : Hp} {fs : List (List Int)} (r : Rows H [] fs) : fs = [] := by
  cases r
  rfl
theorem len_succ {α : Type} {n : Nat} {l : List α} (h : l.length = n + 1) : ∃ a t, l = a :: t ∧ t.length = n := by
  cases l with
  | nil => cases h
  | cons a t => exact ⟨a, t, rfl, Nat.succ.inj h⟩
theorem rows6 {H : Hp} {as : List Addr} {fs : List (List Int)} (r : Rows H as fs) (h : as.length = 6) : ∃ a0 a1 a2 a3 a4 a5 f0 f1 f2 f3 f4 f5, as = [a0, a1, a2, a3, a4, a5] ∧ fs = [f0, f1, f2, f3, f4, f5] ∧
    H a0 = some (.lst (f0.map V.int)) ∧ H a1 = some (.lst (f1.map V.int)) ∧ H a2 = some (.lst (f2.map V.int)) ∧ H a3 = some (.lst (f3.map V.int)) ∧ H a4 = some (.lst (f4.map V.int)) ∧ H a5 = some (.lst (f5.map V.int)) := by
  obtain ⟨a0, t0, rfl, j0⟩ := len_succ h
  obtain ⟨a1, t1, rfl, j1⟩ := len_succ j0
  obtain ⟨a2, t2, rfl, j2⟩ := len_succ j1
  obtain ⟨a3, t3, rfl, j3⟩ := len_succ j2
  obtain ⟨a4, t4, rfl, j4⟩ := len_succ j3
  obtain ⟨a5, t5, rfl, j5⟩ := len_succ j4
  obtain rfl := List.length_eq_zero_iff.mp j5
  obtain ⟨f0, g0, rfl, h0, r0⟩ := rows_cons r
  obtain ⟨f1, g1, rfl, h1, r1⟩ := rows_cons r0
  obtain ⟨f2, g2, rfl, h2, r2⟩ := rows_cons r1
  obtain ⟨f3, g3, rfl, h3, r3⟩ := rows_cons r2
  obtain ⟨f4, g4, rfl, h4, r4⟩ := rows_cons r3
  obtain ⟨f5, g5, rfl, h5, r5⟩ := rows_cons r4
  obtain rfl := rows_nil r5
  exact ⟨_, _, _, _, _, _, _, _, _, _, _, _, rfl, rfl, h0, h1, h2, h3, h4, h5⟩
theorem rows7 {H : Hp} {as : List Addr} {fs : List (List Int)} (r : Rows H as fs) (h : as.length = 7) : ∃ a0 a1 a2 a3 a4 a5 a6 f0 f1 f2 f3 f4 f5 f6, as = [a0, a1, a2, a3, a4, a5, a6] ∧ fs = [f0, f1, f2, f3, f4, f5, f6] ∧
    H a0 = some (.lst (f0.map V.int)) ∧ H a1 = some (.lst (f1.map V.int)) ∧ H a2 = some (.lst (f2.map V.int)) ∧ H a3 = some (.lst (f3.map V.int)) ∧ H a4 = some (.lst (f4.map V.int)) ∧ H a5 = some (.lst (f5.map V.int)) ∧ H a6 = some (.lst (f6.map V.int)) := by
  obtain ⟨a0, t, rfl, j⟩ := len_succ h
  obtain ⟨f0, g, rfl, h0, q⟩ := rows_cons r
  obtain ⟨a1, a2, a3, a4, a5, a6, f1, f2, f3, f4, f5, f6, rfl, rfl, h1, h2, h3, h4, h5, h6⟩ := rows6 q j
  exact ⟨_, _, _, _, _, _, _, _, _, _, _, _, _, _, rfl, rfl, h0, h1, h2, h3, h4, h5, h6⟩
section
variable {P : Program} {w : World} {K : PySem.W.Frag} {mg : Str → Option Value} {base : Heap} {CB CC CR : Addr}
theorem sc_Block_init : FnScope ["self", "name", "size", "grain"] ["self", "name", "size", "grain"] (defScope s_Block_init) := ⟨rfl, rfl, rfl, by decide +kernel, rfl, by decide +kernel, by decide +kernel⟩
theorem ok_Block_init {f : Addr} {fd : FuncData} (F : Fun K "__init__" "Block.__init__" s_Block_init f fd) (C : CTxt K CB CC CR) : FnOk P w K mg base CX0 1 f fd ["self", "name", "size", "grain"] (spBlockI CB) := by
  refine F.ok sc_Block_init (fun vs H Q E h => ?_) (fun cdv A outer s H vs Q E hr h => ?_)
  · obtain ⟨b, dx, q, p, g, rfl, _⟩ := h
    rfl
  · obtain ⟨b, dx, q, p, g, rfl, hb, k⟩ := h
    refine ⟨_, pss_cons (ps_fld (pv 0) (pv 1) rfl) (pss_cons (ps_fld (pv 0) (pv 2) rfl) (pss_one (ps_fld (pv 0) (pv 3) rfl))), ?_⟩
    refine ⟨_, rfl, _, rfl, b, CB, dx, [], rfl, hb, C.cB, C.bName, (by show 0 < 1000; decide), ?_⟩
    refine ⟨_, rfl, _, rfl, b, CB, dx, _, rfl, upd_same, C.cB, C.bSize, (by show 1 < 1000; decide), ?_⟩
    refine ⟨_, rfl, _, rfl, b, CB, dx, _, rfl, upd_same, C.cB, C.bGrain, ?_, ?_⟩
    · rw [pf_nil, pf_miss (by decide +kernel), pf_nil]
      show 2 < 1000
      decide
    refine k _ ?_ fun x o e hx => by rw [upd_ne hx, upd_ne hx, upd_ne hx]; exact e
    rw [upd_same]
    refine congrArg (fun q => some (HO.ins CB dx q)) ?_
    repeat (first | rw [pf_nil] | rw [pf_miss (by decide +kernel)])
    rfl
theorem sc_Cut_init : FnScope ["self", "corner", "size"] ["self", "corner", "size"] (defScope s_Cut_init) := ⟨rfl, rfl, rfl, by decide +kernel, rfl, by decide +kernel, by decide +kernel⟩
theorem ok_Cut_init {f : Addr} {fd : FuncData} (F : Fun K "__init__" "Cut.__init__" s_Cut_init f fd) (C : CTxt K CB CC CR) : FnOk P w K mg base CX0 1 f fd ["self", "corner", "size"] (spCutI CC) := by
  refine F.ok sc_Cut_init (fun vs H Q E h => ?_) (fun cdv A outer s H vs Q E hr h => ?_)
  · obtain ⟨b, dx, p, q, rfl, _⟩ := h
    rfl
  · obtain ⟨b, dx, p, q, rfl, hb, k⟩ := h
    refine ⟨_, pss_cons (ps_fld (pv 0) (pv 1) rfl) (pss_one (ps_fld (pv 0) (pv 2) rfl)), ?_⟩
    refine ⟨_, rfl, _, rfl, b, CC, dx, [], rfl, hb, C.cC, C.cCorner, (by show 0 < 1000; decide), ?_⟩
    refine ⟨_, rfl, _, rfl, b, CC, dx, _, rfl, upd_same, C.cC, C.cSize, (by show 1 < 1000; decide), ?_⟩
    refine k _ ?_ fun x o e hx => by rw [upd_ne hx, upd_ne hx]; exact e
    rw [upd_same]
    refine congrArg (fun q => some (HO.ins CC dx q)) ?_
    rw [pf_nil, pf_miss (by decide +kernel), pf_nil]
    rfl
theorem sc_Reading_init : FnScope ["self"] ["self"] (defScope s_Reading_init) := ⟨rfl, rfl, rfl, by decide +kernel, rfl, by decide +kernel, by decide +kernel⟩
theorem ok_Reading_init {f : Addr} {fd : FuncData} (F : Fun K "__init__" "Reading.__init__" s_Reading_init f fd) (C : CTxt K CB CC CR) : FnOk P w K mg base CX0 1 f fd ["self"] (spReadI CR) := by
  refine F.ok sc_Reading_init (fun vs H Q E h => ?_) (fun cdv A outer s H vs Q E hr h => ?_)
  · obtain ⟨r, dx, rfl, _⟩ := h
    rfl
  · obtain ⟨r, dx, rfl, hb, k⟩ := h
    refine ⟨_, pss_cons (ps_fld (pv 0) pe_bl rfl) (pss_cons (ps_fld (pv 0) pe_non rfl) (pss_cons (ps_fld (pv 0) pe_non rfl) (pss_one (ps_fld (pv 0) (pe_lst pa_nil) rfl)))), ?_⟩
    refine ⟨_, rfl, r, CR, dx, [], rfl, hb, C.cR, C.rTl, (by show 0 < 1000; decide), ?_⟩
    refine ⟨_, rfl, r, CR, dx, _, rfl, upd_same, C.cR, C.rFault, (by show 1 < 1000; decide), ?_⟩
    refine ⟨_, rfl, r, CR, dx, _, rfl, upd_same, C.cR, C.rBlock, ?_, ?_⟩
    · rw [pf_nil, pf_miss (by decide +kernel), pf_nil]
      show 2 < 1000
      decide
    refine ⟨by show 0 ≤ sizeLine; decide, fun l hl => ?_⟩
    have nr : r ≠ l := ne_of_none upd_same hl
    refine ⟨_, rfl, r, CR, dx, _, rfl, (by rw [upd_ne nr]; exact upd_same), C.cR, C.rCuts, ?_, ?_⟩
    · rw [pf_nil, pf_miss (by decide +kernel), pf_nil, pf_miss (by decide +kernel), pf_miss (by decide +kernel), pf_nil]
      show 3 < 1000
      decide
    · have hlH : H l = none := by
        have e := hl
        rw [upd_ne nr.symm, upd_ne nr.symm, upd_ne nr.symm] at e
        exact e
      refine k _ l hlH ?_ (by rw [upd_ne nr.symm]; exact upd_same) fun x o e hx => ?_
      · rw [upd_same]
        refine congrArg (fun q => some (HO.ins CR dx q)) ?_
        repeat (first | rw [pf_nil] | rw [pf_miss (by decide +kernel)])
        rfl
      · rw [upd_ne hx, upd_ne (ne_of_none e hlH), upd_ne hx, upd_ne hx, upd_ne hx]
        exact e
theorem sc_block_from : FnScope ["fields", "size", "grain"] ["fields"] (defScope s_block_from) := ⟨rfl, rfl, rfl, by decide +kernel, rfl, by decide +kernel, by decide +kernel⟩
theorem ok_block_from {f : Addr} {fd : FuncData} (F : Fun K "block_from" "block_from" s_block_from f fd) (T : Txt mg) (cW : Callee P w K mg base 1 "is_word" ["field", "word"] (spWord K)) (cNm : Callee P w K mg base 2 "is_name" ["field"] (spName K))
    (cS : Callee P w K mg base 3 "size_from" ["fields"] (spSize K)) (cG : Callee P w K mg base 2 "grain_from" ["field"] (spGrain K)) (mB : Maker P w K mg base 1 "Block" CB ["self", "name", "size", "grain"] (spBlockI CB)) : FnOk P w K mg base CX0 4 f fd ["fields"] (spBlockFrom K CB) := by
  refine F.ok sc_block_from (fun vs H Q E h => ?_) (fun cdv A outer s H vs Q E hr h => ?_)
  · obtain ⟨a, as, fs, rfl, _⟩ := h
    rfl
  · obtain ⟨a, as, fs, rfl, hS, hR, hzz, k1, k2⟩ := h
    have hr1 : Room 1 _ := hr.mono (by decide)
    have hr2 : Room 2 _ := hr.mono (by decide)
    refine ⟨_, pss_cons (ps_if (PW.pt (pw_or (pt_cmpR op_ne (pe_callB call_len_seq rfl T.len boot_len (pa_cons (pv 0) pa_nil)) pe_int (nomark _)) (pw_or (pt_not (pt_val (pe_fn cW hr1 (pa_cons (pe_ix ix_list (pv 0) pe_int (fun _ _ => rfl)) (pa_cons pe_str pa_nil)))))
        (pw_or1 (pt_not (pt_val (pe_fn cNm hr2 (pa_cons (pe_ix ix_list (pv 0) pe_int (fun _ _ => rfl)) pa_nil)))))))) (pss_one (ps_ret pe_non)) pss_nil)
      (pss_cons (ps_set (i := 1) sc_block_from.nd rfl (Or.inl rfl) (pe_fn cS hr (pa_cons (pe_slice sl_list (pv 0) (po_some pe_int) (po_some pe_int)) pa_nil)))
      (pss_cons (ps_set (i := 2) sc_block_from.nd rfl (Or.inl rfl) (pe_fn cG hr2 (pa_cons (pe_ix ix_list (pv 0) pe_int (fun _ _ => rfl)) pa_nil)))
      (pss_cons (ps_if (PW.pt (pw_or (pt_cmpR op_isN (pv 1) pe_non (nomark _)) (pw_or1 (pt_cmpR op_isN (pv 2) pe_non (nomark _))))) (pss_one (ps_ret pe_non)) pss_nil)
      (pss_one (ps_ret (pe_new mB hr2 (pa_cons (pe_ix ix_list (pv 0) pe_int (fun _ _ => rfl)) (pa_cons (pv 1) (pa_cons (pv 2) pa_nil))))))))), ?_⟩
    have hl : as.length = fs.length := Paired.length hR
    refine ⟨_, rfl, a, _, rfl, .inl hS, rfl, _, rfl, iteB (fun e => ?_) fun e => ?_⟩
    · refine k1 (blkF_len fun z => ?_) H (Same.refl H)
      rw [List.length_map, hl, z] at e
      exact absurd e (by decide)
    have hl6 : as.length = 6 := by
      have e1 : V.int ((as.map V.ref).length : Nat) = V.int 6 := by simpa using e
      injection e1 with e1
      rw [List.length_map] at e1
      omega
    obtain ⟨a0, a1, a2, a3, a4, a5, f0, f1, f2, f3, f4, f5, rfl, rfl, h0, h1, h2, h3, h4, h5⟩ := rows6 hR hl6
    refine ⟨_, rfl, a, _, _, V.ref a0, rfl, rfl, hS, atI_nat (j := 0) rfl, a0, f0, _, rfl, SqL.of h0, by show 4 ≤ 100; omega, fun H1 s1 => ⟨_, rfl, ?_⟩⟩
    have ew : (("part" : Str).cps.toList.map fun (n : Nat) => (n : Int)) = [112, 97, 114, 116] := by decide +kernel
    rw [ew]
    refine iteB (fun e => ?_) fun e => ?_
    · have e0 : ¬ f0 = [112, 97, 114, 116] := by simpa using e
      exact k1 (by rw [blkF_six, if_neg e0]) H1 s1
    have e0 : f0 = [112, 97, 114, 116] := by simpa using e
    refine ⟨_, rfl, a, _, _, V.ref a1, rfl, rfl, s1.seq hS, atI_nat (j := 1) rfl, a1, f1, rfl, SqL.of (s1 _ _ h1), fun H2 s2 => ⟨_, rfl, ?_⟩⟩
    have s2' := s1.trans s2
    refine iteB (fun e => ?_) fun e => ?_
    · have e1 : ¬ isNam f1 = true := by simpa using e
      exact k1 (by rw [blkF_six, if_pos e0, if_neg e1]) H2 s2'
    have e1 : isNam f1 = true := by simpa using e
    refine ⟨_, rfl, _, rfl, _, rfl, a, _, rfl, s2'.seq hS, fun q hq => ?_⟩
    have s3 : Same H (upd H2 q (.lst (cutV ([a0, a1, a2, a3, a4, a5].map V.ref) (some 2) (some 5)))) := s2'.upd2 (s2'.free hq)
    refine ⟨q, [a2, a3, a4], [f2, f3, f4], rfl, SqL.of upd_same, .cons (s3 _ _ h2) (.cons (s3 _ _ h3) (.cons (s3 _ _ h4) .nil)), by show 3 ≤ 100; omega, fun f hf => hzz f (by simp at hf ⊢; rcases hf with z | z | z <;> simp [z]), fun en H4 s4 => ?_, fun ns en H4 p s4 hp hpl => ?_⟩
    · have s5 := s3.trans s4
      refine ⟨_, rfl, a, _, _, V.ref a5, rfl, rfl, s5.seq hS, atI_nat (j := 5) rfl, a5, f5, rfl, SqL.of (s5 _ _ h5), fun H5 s6 => ?_⟩
      refine ⟨_, rfl, rfl, _, rfl, ?_⟩
      exact k1 (by rw [blkF_six, if_pos e0, if_pos e1, en]) H5 (s5.trans s6)
    · have s5 := s3.trans s4
      refine ⟨_, rfl, a, _, _, V.ref a5, rfl, rfl, s5.seq hS, atI_nat (j := 5) rfl, a5, f5, rfl, SqL.of (s5 _ _ h5), fun H5 s6 => ?_⟩
      have s7 := s5.trans s6
      refine ⟨_, rfl, rfl, _, rfl, ?_⟩
      refine ⟨_, rfl, rfl, _, rfl, ?_⟩
      cases eg : grainF f5 with
      | none => exact k1 (by rw [blkF_six, if_pos e0, if_pos e1, en, eg]) H5 s7
      | some g =>
        refine ⟨_, rfl, a, _, _, V.ref a1, rfl, rfl, s7.seq hS, atI_nat (j := 1) rfl, _, rfl, _, rfl, fun x dx hx hdx ndx => ?_⟩
        refine ⟨x, dx, a1, p, g, rfl, upd_same, fun H6 hb kp => ⟨rfl, ?_⟩⟩
        have s8 : Same H5 H6 := Same.made hx hdx kp
        exact k2 f1 ns g (by rw [blkF_six, if_pos e0, if_pos e1, en, eg]) H6 x (s7.trans s8) (s7.free hx) ⟨dx, a1, p, hb, s8 _ _ (s7 _ _ h1), s8 _ _ (s6 _ _ hpl)⟩
end
end Cut
end
section
set_option Elab.async false
set_option linter.all false
set_option maxRecDepth 100000
set_option maxHeartbeats 4000000
namespace Cut
open PySem PySem.Spec PyProof.Rows L2
theorem inV_non : ∀ l : List (Option Nat), inV .non (l.map oI) = !l.all (·.isSome)
  | [] => rfl
  | none :: l => by
    show (eqV .non .non || inV .non (l.map oI)) = !(false && l.all (·.isSome))
    rfl
  | some n :: l => by
    show (eqV (.int n) .non || inV .non (l.map oI)) = !(true && l.all (·.isSome))
    rw [inV_non l, Bool.true_and]
    rfl
theorem flat_oI : ∀ l : List (Option Nat), (l.map oI).all flatV = true
  | [] => rfl
  | none :: l => flat_oI l
  | some n :: l => flat_oI l
theorem map_oI' (l : List (Option Nat)) (h : l.all (·.isSome) = true) : l.map oI = vN (l.map fun o => o.getD 0) := by
  induction l with
  | nil => rfl
  | cons o r ih =>
    rw [List.all_cons, Bool.and_eq_true] at h
    have e := ih h.2
    cases o with
    | none => exact absurd h.1 (by simp)
    | some n =>
      show V.int n :: r.map oI = V.int n :: _
      rw [e]
      rfl
def spWithin (CB CC : Addr) : Sp := fun vs H Q _ => ∃ (c b : Addr) (x s : List Nat) (n : List Int) (t : List Nat) (g : Nat), vs = [.ref c, .ref b] ∧ CutAt CC H c x s ∧ BlkAt CB H b n t g ∧ x.length = 3 ∧ s.length = 3 ∧ t.length = 3 ∧ ∀ H', Same H H' → Q (.bl (inF x s t)) H'
def spTakeBlk (CB CC CR : Addr) : Sp := fun vs H Q _ => ∃ (r l b : Addr) (tl : Bool) (fa : V) (st : RS) (dx : Addr) (bv : V) (cs : List Addr) (n : List Int) (s : List Nat) (g : Nat), vs = [.ref r, .ref b] ∧ ReadAt CB CC CR H r l tl fa st dx bv cs ∧ BlkAt CB H b n s g ∧ s.length = 3 ∧ n ≠ [] ∧
  ∀ (H' : Hp) (bv' : V) (cs' : List Addr), Kp r l H H' → ReadAt CB CC CR H' r l tl fa (takeBlkF st (n, s, g)).2 dx bv' cs' → Q (.int ((takeBlkF st (n, s, g)).1 : Nat)) H'
def spTakeCut (CB CC CR : Addr) : Sp := fun vs H Q _ => ∃ (r l c : Addr) (tl : Bool) (fa : V) (st : RS) (dx : Addr) (bv : V) (cs : List Addr) (x s : List Nat), vs = [.ref r, .ref c] ∧ ReadAt CB CC CR H r l tl fa st dx bv cs ∧ CutAt CC H c x s ∧ x.length = 3 ∧ s.length = 3 ∧
  st.cuts.length ≤ 64 ∧ ∀ (H' : Hp) (bv' : V) (cs' : List Addr), Kp r l H H' → ReadAt CB CC CR H' r l tl fa (takeCutF st (x, s)).2 dx bv' cs' → Q (.int ((takeCutF st (x, s)).1 : Nat)) H'
section
variable {P : Program} {w : World} {K : PySem.W.Frag} {mg : Str → Option Value} {base : Heap} {CB CC CR : Addr}
theorem sc_cut_from : FnScope ["fields", "corner", "size", "field"] ["fields"] (defScope s_cut_from) := ⟨rfl, rfl, rfl, by decide +kernel, rfl, by decide +kernel, by decide +kernel⟩
theorem ok_cut_from {f : Addr} {fd : FuncData} (F : Fun K "cut_from" "cut_from" s_cut_from f fd) (T : Txt mg) (cW : Callee P w K mg base 1 "is_word" ["field", "word"] (spWord K)) (cN : Callee P w K mg base 2 "number_from" ["field"] (spNumber K))
    (cS : Callee P w K mg base 3 "size_from" ["fields"] (spSize K)) (mC : Maker P w K mg base 1 "Cut" CC ["self", "corner", "size"] (spCutI CC)) : FnOk P w K mg base CX0 4 f fd ["fields"] (spCutFrom K CC) := by
  refine F.ok sc_cut_from (fun vs H Q E h => ?_) (fun cdv A outer s H vs Q E hr h => ?_)
  · obtain ⟨a, as, fs, rfl, _⟩ := h
    rfl
  · obtain ⟨a, as, fs, rfl, hS, hR, hzz, k1, k2⟩ := h
    have hr1 : Room 1 _ := hr.mono (by decide)
    have hr2 : Room 2 _ := hr.mono (by decide)
    refine ⟨_, pss_cons (ps_if (PW.pt (pw_or (pt_cmpR op_ne (pe_callB call_len_seq rfl T.len boot_len (pa_cons (pv 0) pa_nil)) pe_int (nomark _)) (pw_or1 (pt_not (pt_val (pe_fn cW hr1 (pa_cons (pe_ix ix_list (pv 0) pe_int (fun _ _ => rfl)) (pa_cons pe_str pa_nil)))))))) (pss_one (ps_ret pe_non)) pss_nil)
      (pss_cons (ps_setLc (i := 1) rfl sc_cut_from.nd rfl rfl (sw_true rfl rfl rfl rfl) (pi_list (pe_slice sl_list (pv 0) (po_some pe_int) (po_some pe_int))) (blkOk_by (own := [("field", 3)]) (by show blkC ["fields", "corner", "size", "field"] (defScope s_cut_from) _ _ = true; decide +kernel))
        (fun _ _ _ _ _ => pg_name (i := 3) sc_cut_from.nd rfl (Or.inl rfl)) (fun _ _ _ _ _ => pts_nil) (fun _ _ _ _ _ => pe_fn cN hr2 (pa_cons (pv 3) pa_nil)))
      (pss_cons (ps_set (i := 2) sc_cut_from.nd rfl (Or.inl rfl) (pe_fn cS hr (pa_cons (pe_slice sl_list (pv 0) (po_some pe_int) (po_some pe_int)) pa_nil)))
      (pss_cons (ps_if (PW.pt (pw_or (pt_cmpR op_in_seq pe_non (pv 1) rfl) (pw_or1 (pt_cmpR op_isN (pv 2) pe_non (nomark _))))) (pss_one (ps_ret pe_non)) pss_nil)
      (pss_one (ps_ret (pe_new mC hr2 (pa_cons (pv 1) (pa_cons (pv 2) pa_nil)))))))), ?_⟩
    have hl : as.length = fs.length := Paired.length hR
    refine ⟨_, rfl, a, _, rfl, .inl hS, rfl, _, rfl, iteB (fun e => ?_) fun e => ?_⟩
    · refine k1 (cutF_len fun z => ?_) H (Same.refl H)
      rw [List.length_map, hl, z] at e
      exact absurd e (by decide)
    have hl7 : as.length = 7 := by
      have e1 : V.int ((as.map V.ref).length : Nat) = V.int 7 := by simpa using e
      injection e1 with e1
      rw [List.length_map] at e1
      omega
    obtain ⟨a0, a1, a2, a3, a4, a5, a6, f0, f1, f2, f3, f4, f5, f6, rfl, rfl, h0, h1, h2, h3, h4, h5, h6⟩ := rows7 hR hl7
    refine ⟨_, rfl, a, _, _, V.ref a0, rfl, rfl, hS, atI_nat (j := 0) rfl, a0, f0, _, rfl, SqL.of h0, by show 3 ≤ 100; omega, fun H1 s1 => ⟨_, rfl, ?_⟩⟩
    have ew : (("cut" : Str).cps.toList.map fun (n : Nat) => (n : Int)) = [99, 117, 116] := by decide +kernel
    rw [ew]
    refine iteB (fun e => ?_) fun e => ?_
    · have e0 : ¬ f0 = [99, 117, 116] := by simpa using e
      exact k1 (by rw [cutF_seven, if_neg e0]) H1 s1
    have e0 : f0 = [99, 117, 116] := by simpa using e
    refine ⟨_, rfl, _, rfl, _, rfl, a, _, rfl, s1.seq hS, fun q hq => ?_⟩
    have s2 : Same H (upd H1 q (.lst (cutV ([a0, a1, a2, a3, a4, a5, a6].map V.ref) (some 1) (some 4)))) := s1.upd2 (s1.free hq)
    have hqs : SqL K (upd H1 q (.lst (cutV ([a0, a1, a2, a3, a4, a5, a6].map V.ref) (some 1) (some 4)))) q ([a1, a2, a3].map V.ref) := SqL.of upd_same
    have hR2 : Rows (upd H1 q (.lst (cutV ([a0, a1, a2, a3, a4, a5, a6].map V.ref) (some 1) (some 4)))) [a1, a2, a3] [f1, f2, f3] := .cons (s2 _ _ h1) (.cons (s2 _ _ h2) (.cons (s2 _ _ h3) .nil))
    generalize upd H1 q (.lst (cutV ([a0, a1, a2, a3, a4, a5, a6].map V.ref) (some 1) (some 4))) = H2 at s2 hqs hR2
    refine ⟨q, rfl, ⟨_, hqs⟩, fun D hD => ?_⟩
    refine lc_list (K := K) (a := q) (xs := [a1, a2, a3].map V.ref) (fun i H' => Same H2 H' ∧ H' D = some (.lst ((([f1, f2, f3].map numF).take i).map oI))) ⟨Same.upd hD, upd_same⟩ (fun i H' _ p => p.1.seq hqs) ?_ ?_
    · rintro i y H' hy ⟨s3, hq⟩
      obtain ⟨b, hb, rfl⟩ := map_ref hy
      obtain ⟨fl, hf, hbl⟩ := hR2.get hb
      refine ⟨rfl, ?_⟩
      have hm := List.mem_of_getElem? hf
      refine ⟨_, rfl, b, fl, rfl, SqL.of (s3 _ _ hbl), hzz fl (by simp at hm ⊢; rcases hm with z | z | z <;> simp [z]), fun H4 s4 => ?_⟩
      have hD2 := s4 _ _ hq
      refine ⟨_, hD2, ?_, (s3.trans s4).upd2 hD, ?_⟩
      · rw [List.length_map, List.length_take, List.length_map]
        exact small20000 (by show min i 3 ≤ 20000; omega)
      · rw [upd_same, take_snoc (show ([f1, f2, f3].map numF)[i]? = some (numF fl) by rw [List.getElem?_map, hf]; rfl), List.map_append]
        rfl
    · rintro H3 ⟨s3, hq3⟩
      have hq3 : H3 D = some (.lst (([f1, f2, f3].map numF).map oI)) := hq3
      have s4 : Same H H3 := s2.trans s3
      refine ⟨_, rfl, _, rfl, _, rfl, a, _, rfl, s4.seq hS, fun q5 hq5 => ?_⟩
      have s5 : Same H3 (upd H3 q5 (.lst (cutV ([a0, a1, a2, a3, a4, a5, a6].map V.ref) (some 4) (some 7)))) := Same.upd hq5
      have s6 := s4.trans s5
      have tst : ∀ (H4 : Hp) (v : V), Same (upd H3 q5 (.lst (cutV ([a0, a1, a2, a3, a4, a5, a6].map V.ref) (some 4) (some 7)))) H4 → H4 D = some (.lst (([f1, f2, f3].map numF).map oI)) := fun H4 v s7 => s7 _ _ (s5 _ _ hq3)
      have hDn : H D = none := s2.free hD
      refine ⟨q5, [a4, a5, a6], [f4, f5, f6], rfl, SqL.of upd_same, .cons (s6 _ _ h4) (.cons (s6 _ _ h5) (.cons (s6 _ _ h6) .nil)), by show 3 ≤ 100; omega, fun f hf => hzz f (by simp at hf ⊢; rcases hf with z | z | z <;> simp [z]), fun en H4 s7 => ?_, fun ns en H4 p s7 hp hpl => ?_⟩
      · have s8 := s6.trans s7
        refine ⟨_, rfl, D, _, rfl, .inl (SqL.of (tst H4 .non s7)), rfl, flat_oI _, _, rfl, ?_⟩
        have bad : cutF [f0, f1, f2, f3, f4, f5, f6] = none := by
          rw [cutF_seven, if_pos e0, en]
          cases corF [f1, f2, f3] <;> rfl
        refine iteB (fun e => ?_) fun e => ?_
        · exact k1 bad H4 s8
        · exact ⟨_, rfl, rfl, _, rfl, k1 bad H4 s8⟩
      · have s8 := s6.trans s7
        refine ⟨_, rfl, D, _, rfl, .inl (SqL.of (tst H4 .non s7)), rfl, flat_oI _, _, rfl, ?_⟩
        refine iteB (fun e => ?_) fun e => ?_
        · have e1 : inV .non (([f1, f2, f3].map numF).map oI) = true := e
          rw [inV_non] at e1
          exact k1 (by
            rw [cutF_seven, if_pos e0]
            rw [show corF [f1, f2, f3] = none by unfold corF; rw [if_neg (by intro z; rw [z] at e1; cases e1)]]) H4 s8
        have e1 : inV .non (([f1, f2, f3].map numF).map oI) = false := e
        rw [inV_non] at e1
        have e2 : ([f1, f2, f3].map numF).all (·.isSome) = true := by simpa using e1
        refine ⟨_, rfl, rfl, _, rfl, ?_⟩
        refine ⟨_, rfl, _, rfl, fun x dx hx hdx ndx => ?_⟩
        refine ⟨x, dx, D, p, rfl, upd_same, fun H6 hb kp => ⟨rfl, ?_⟩⟩
        have s9 : Same H4 H6 := Same.made hx hdx kp
        refine k2 (([f1, f2, f3].map numF).map fun o => o.getD 0) ns ?_ H6 x (s8.trans s9) (s8.free hx) ⟨dx, D, p, hb, ?_, s9 _ _ hpl⟩
        · rw [cutF_seven, if_pos e0, en]
          rw [show corF [f1, f2, f3] = some (([f1, f2, f3].map numF).map fun o => o.getD 0) by unfold corF; rw [if_pos e2]]
        · rw [← map_oI' _ e2]
          exact s9 _ _ (tst H4 .non s7)
theorem sc_lies_within : FnScope ["cut", "block", "start", "length", "limit"] ["cut", "block"] (defScope s_lies_within) := ⟨rfl, rfl, rfl, by decide +kernel, rfl, by decide +kernel, by decide +kernel⟩
theorem vN_get {x : List Nat} {i : Nat} {v : V} (h : (vN x)[i]? = some v) : ∃ n : Nat, x[i]? = some n ∧ v = .int (n : Nat) := by
  unfold vN at h
  rw [List.getElem?_map] at h
  cases e : x[i]? with
  | none => rw [e] at h; cases h
  | some z => rw [e] at h; exact ⟨z, rfl, (Option.some.inj h).symm⟩
theorem vN_len {x : List Nat} : (vN x).length = x.length := List.length_map _
theorem ok_lies_within {f : Addr} {fd : FuncData} (F : Fun K "lies_within" "lies_within" s_lies_within f fd) (T : Txt mg) (C : CTxt K CB CC CR) : FnOk P w K mg base CX0 1 f fd ["cut", "block"] (spWithin CB CC) := by
  refine F.ok sc_lies_within (fun vs H Q E h => ?_) (fun cdv A outer s H vs Q E hr h => ?_)
  · obtain ⟨c, b, x, s, nm, t, g, rfl, _⟩ := h
    rfl
  · obtain ⟨c, b, x, sz, nm, t, g, rfl, ⟨dc, p, q, hc, hp, hq⟩, ⟨db, un, u, hb, _, hu⟩, lx, ls, lt, k⟩ := h
    refine ⟨_, pss_cons (ps_for PassesOwn.never rfl (pi_zip3 rfl T.zip (pa_cons (pe_fld (pv 0) rfl) (pa_cons (pe_fld (pv 0) rfl) (pa_cons (pe_fld (pv 1) rfl) pa_nil))))
        (pg_tup rfl (pgs_cons (pg_name (i := 2) sc_lies_within.nd rfl (Or.inl rfl)) (pgs_cons (pg_name (i := 3) sc_lies_within.nd rfl (Or.inl rfl)) (pgs_cons (pg_name (i := 4) sc_lies_within.nd rfl (Or.inl rfl)) pgs_nil))))
        (pss_one (ps_if (pt_cmpR op_gt (pe_op op_add (pv 2) (pv 3)) (pv 4) (nomark _)) (pss_one (ps_ret pe_bl)) pss_nil)))
      (pss_one (ps_ret pe_bl)), ?_⟩
    refine ⟨_, rfl, c, CC, dc, _, _, rfl, hc, C.cC, C.cCorner, fC_corner, _, rfl, c, CC, dc, _, _, rfl, hc, C.cC, C.cSize, fC_size, _, rfl, b, CB, db, _, _, rfl, hb, C.cB, C.bSize, fB_size, p, q, u, vN x, vN sz, vN t, rfl, SqL.of hp, SqL.of hq, SqL.of hu, ?_⟩
    refine for_zip3 (K := K) (xs := vN x) (ys := vN sz) (zs := vN t) (fun i σ H' => ∃ v1 v2 v3 : Option V, σ = [some (.ref c), some (.ref b), v1, v2, v3] ∧ Same H H' ∧ ∀ j : Nat, j < i → x.getD j 0 + sz.getD j 0 ≤ t.getD j 0) (by rw [vN_len, vN_len, lx, ls]) (by rw [vN_len, vN_len, lx, lt])
      ⟨none, none, none, rfl, Same.refl H, fun j h => absurd h (Nat.not_lt_zero j)⟩ (fun i σ H' _ ⟨_, _, _, _, s1, _⟩ => ⟨SqL.of (s1 _ _ hp), SqL.of (s1 _ _ hq), SqL.of (s1 _ _ hu)⟩) ?_ ?_
    · rintro i y1 y2 y3 σ H' T' hy1 hy2 hy3 ⟨v1, v2, v3, rfl, s1, hn⟩ hT
      obtain ⟨n1, g1, rfl⟩ := vN_get hy1
      obtain ⟨n2, g2, rfl⟩ := vN_get hy2
      obtain ⟨n3, g3, rfl⟩ := vN_get hy3
      refine ⟨T', _, rfl, SqT.of upd_same, rfl, _, _, rfl, _, _, rfl, _, _, rfl, rfl, ?_⟩
      have s2 : Same H (upd H' T' (.tup [.int (n1 : Nat), .int (n2 : Nat), .int (n3 : Nat)])) := s1.upd2 (s1.free hT)
      refine ⟨_, rfl, _, rfl, _, _, rfl, rfl, _, rfl, _, _, rfl, rfl, _, rfl, iteB (fun e => ?_) fun e => ?_⟩
      · have e1 := of_decide_eq_true e
        have hi : i < 3 := by have := (List.getElem?_eq_some_iff.mp g1).1; omega
        have ei : inF x sz t = false := by
          unfold inF
          rw [List.all_eq_false]
          refine ⟨i, by simpa using hi, ?_⟩
          rw [getD3 g1, getD3 g2, getD3 g3]
          simp
          omega
        have qq := k _ s2
        rw [ei] at qq
        exact qq
      · have e1 := of_decide_eq_false e
        refine ⟨_, _, _, rfl, s2, fun j hj => ?_⟩
        by_cases z : j < i
        · exact hn j z
        · have : j = i := by omega
          subst this
          rw [getD3 g1, getD3 g2, getD3 g3]
          omega
    · rintro σ H' ⟨v1, v2, v3, rfl, s1, hn⟩
      rw [vN_len, lx] at hn
      have ei : inF x sz t = true := by
        unfold inF
        rw [List.all_eq_true]
        intro j hj
        exact decide_eq_true (hn j (by simpa using hj))
      have qq := k _ s1
      rw [ei] at qq
      exact qq
end
end Cut
end
section
set_option Elab.async false
set_option linter.all false
set_option maxRecDepth 100000
set_option maxHeartbeats 4000000
namespace Cut
open PySem PySem.Spec PyProof.Rows L2
def spTakeLine (CB CC CR : Addr) : Sp := fun vs H Q _ => ∃ (r l a : Addr) (tl : Bool) (fa : V) (st : RS) (dx : Addr) (bv : V) (cs : List Addr) (line : List Int), vs = [.ref r, .ref a] ∧ ReadAt CB CC CR H r l tl fa st dx bv cs ∧ H a = some (.lst (line.map V.int)) ∧ line.length ≤ 20000 ∧
  st.cuts.length ≤ 64 ∧ ∀ (H' : Hp) (bv' : V) (cs' : List Addr), Kp r l H H' → ReadAt CB CC CR H' r l tl fa (takeF st line).2 dx bv' cs' → Q (.int ((takeF st line).1 : Nat)) H'
section
variable {P : Program} {w : World} {K : PySem.W.Frag} {mg : Str → Option Value} {base : Heap} {CB CC CR : Addr}
theorem sc_take_block : FnScope ["reading", "block"] ["reading", "block"] (defScope s_take_block) := ⟨rfl, rfl, rfl, by decide +kernel, rfl, by decide +kernel, by decide +kernel⟩
theorem ok_take_block {f : Addr} {fd : FuncData} (F : Fun K "take_block" "take_block" s_take_block f fd) (T : Txt mg) (C : CTxt K CB CC CR) : FnOk P w K mg base CX0 1 f fd ["reading", "block"] (spTakeBlk CB CC CR) := by
  refine F.ok sc_take_block (fun vs H Q E h => ?_) (fun cdv A outer s H vs Q E hr h => ?_)
  · obtain ⟨r, l, b, tl, fa, st, dx, bv, cs, nm, s, g, rfl, _⟩ := h
    rfl
  · obtain ⟨r, l, b, tl, fa, st, dx, bv, cs, nm, sz, g, rfl, R, hb, hs, hn, k⟩ := h
    refine ⟨_, pss_cons (ps_if (pt_cmpR op_notN (pe_fld (pv 0) rfl) pe_non (nomark _)) (pss_one (ps_ret (pe_const T.cannot))) pss_nil)
      (pss_cons (ps_fld (pv 0) (pv 1) rfl) (pss_one (ps_ret (pe_const T.right)))), ?_⟩
    refine ⟨_, rfl, r, CR, dx, _, _, rfl, R.at_, C.cR, C.rBlock, fR_block, rfl, _, rfl, ?_⟩
    obtain ⟨ob, cuts⟩ := st
    cases ob with
    | some p =>
      obtain ⟨b', e, _⟩ := R.blk
      subst e
      exact k H (.ref b') cs (Same.kp (Same.refl H)) R
    | none =>
      have e : bv = .non := R.blk
      subst e
      refine ⟨_, rfl, _, rfl, r, CR, dx, _, rfl, R.at_, C.cR, C.rBlock, (by show 4 < 1000; decide), ?_⟩
      have kp : Kp r l H (upd H r (.ins CR dx (putF "block" (.ref b) (fR tl fa .non l)))) := fun x o h h1 h2 => by rw [upd_ne h1]; exact h
      refine k _ (.ref b) cs kp ⟨?_, ?_, ⟨b, rfl, hb.kp hs hn R.at_ R.lst kp, hs, hn⟩, R.cuts.kp R.at_ R.lst kp⟩
      · rw [upd_same, fR_put_block]
      · rw [upd_ne R.ne.symm]
        exact R.lst
theorem sc_take_cut : FnScope ["reading", "cut"] ["reading", "cut"] (defScope s_take_cut) := ⟨rfl, rfl, rfl, by decide +kernel, rfl, by decide +kernel, by decide +kernel⟩
theorem ok_take_cut {f : Addr} {fd : FuncData} (F : Fun K "take_cut" "take_cut" s_take_cut f fd) (T : Txt mg) (C : CTxt K CB CC CR) (cI : Callee P w K mg base 1 "lies_within" ["cut", "block"] (spWithin CB CC)) : FnOk P w K mg base CX0 2 f fd ["reading", "cut"] (spTakeCut CB CC CR) := by
  refine F.ok sc_take_cut (fun vs H Q E h => ?_) (fun cdv A outer s H vs Q E hr h => ?_)
  · obtain ⟨r, l, c, tl, fa, st, dx, bv, cs, x, s, rfl, _⟩ := h
    rfl
  · obtain ⟨r, l, c, tl, fa, st, dx, bv, cs, x, sz, rfl, R, hc, hx, hs, h64, k⟩ := h
    refine ⟨_, pss_cons (ps_if (pt_cmpR op_isN (pe_fld (pv 0) rfl) pe_non (nomark _)) (pss_one (ps_ret (pe_const T.cannot))) pss_nil)
      (pss_cons (ps_if (pt_not (pt_val (pe_fn cI hr (pa_cons (pv 1) (pa_cons (pe_fld (pv 0) rfl) pa_nil))))) (pss_one (ps_ret (pe_const T.beyond))) pss_nil)
      (pss_cons (ps_if (pt_cmpR op_eq (pe_callB call_len_seq rfl T.len boot_len (pa_cons (pe_fld (pv 0) rfl) pa_nil)) (pe_const T.mostCuts) (nomark _)) (pss_one (ps_ret (pe_const T.tooMany))) pss_nil)
      (pss_cons (ps_expr (pe_bm PySem.F.plainAttrs_list PySem.F.slot_list_append PySem.F.type_list_append mt_append (pe_fld (pv 0) rfl) (pa_cons (pv 1) pa_nil)))
      (pss_one (ps_ret (pe_const T.right)))))), ?_⟩
    refine ⟨_, rfl, r, CR, dx, _, _, rfl, R.at_, C.cR, C.rBlock, fR_block, rfl, _, rfl, ?_⟩
    obtain ⟨ob, cuts⟩ := st
    cases ob with
    | none =>
      have e : bv = .non := R.blk
      subst e
      exact k H .non cs (Same.kp (Same.refl H)) R
    | some p =>
      obtain ⟨nm, t, g⟩ := p
      obtain ⟨b, e, hb, ht, hn⟩ := R.blk
      subst e
      refine ⟨_, rfl, _, rfl, r, CR, dx, _, _, rfl, R.at_, C.cR, C.rBlock, fR_block, c, b, x, sz, nm, t, g, rfl, hc, hb, hx, hs, ht, fun H1 s1 => ⟨_, rfl, ?_⟩⟩
      have R1 := R.same s1
      refine iteB (fun e => ?_) fun e => ?_
      · have e1 : inF x sz t = false := by simpa using e
        have et : takeCutF ⟨some (nm, t, g), cuts⟩ (x, sz) = (4, ⟨some (nm, t, g), cuts⟩) := by
          show (if inF x sz t = false then _ else _) = _
          rw [if_pos e1]
        have q := k H1 (.ref b) cs (Same.kp s1)
        rw [et] at q
        exact q R1
      have e1 : inF x sz t = true := by simpa using e
      refine ⟨_, rfl, r, CR, dx, _, _, rfl, R1.at_, C.cR, C.rCuts, fR_cuts, l, _, rfl, .inl (SqL.of R1.lst), rfl, _, rfl, ?_⟩
      have hcl : cs.length = cuts.length := Paired.length R.cuts
      refine iteB (fun e => ?_) fun e => ?_
      · have e2 : cuts.length = 64 := by
          have e3 := of_decide_eq_true e
          injection e3 with e3
          rw [List.length_map] at e3
          omega
        have et : takeCutF ⟨some (nm, t, g), cuts⟩ (x, sz) = (2, ⟨some (nm, t, g), cuts⟩) := by
          show (if inF x sz t = false then _ else if cuts.length = 64 then _ else _) = _
          rw [if_neg (by rw [e1]; simp), if_pos e2]
        have q := k H1 (.ref b) cs (Same.kp s1)
        rw [et] at q
        exact q R1
      have e2 : ¬ cuts.length = 64 := fun z => of_decide_eq_false e (by
        show V.int _ = V.int 64
        rw [List.length_map, hcl, z]
        rfl)
      have et : takeCutF ⟨some (nm, t, g), cuts⟩ (x, sz) = (0, ⟨some (nm, t, g), cuts ++ [(x, sz)]⟩) := by
        show (if inF x sz t = false then _ else if cuts.length = 64 then _ else _) = _
        rw [if_neg (by rw [e1]; simp), if_neg e2]
      refine ⟨_, rfl, r, CR, dx, _, _, rfl, R1.at_, C.cR, C.rCuts, fR_cuts, .inl ⟨rfl, _, SqL.of R1.lst⟩, _, rfl, l, _, _, rfl, rfl, R1.lst, ?_, ?_⟩
      · rw [List.length_map]
        exact small20000 (by have : cuts.length ≤ 64 := h64; omega)
      · have kp : Kp r l H1 (upd H1 l (.lst (cs.map V.ref ++ [V.ref c]))) := fun y o h h1 h2 => by rw [upd_ne h2]; exact h
        have q := k _ (.ref b) (cs ++ [c]) ((Same.kp s1).trans kp)
        rw [et] at q
        refine q ⟨?_, ?_, R1.blk.kp R1.at_ R1.lst kp, ?_⟩
        · rw [upd_ne R.ne]
          exact R1.at_
        · rw [upd_same, List.map_append]
          rfl
        · exact Paired.snoc (R1.cuts.kp R1.at_ R1.lst kp) ⟨(hc.same s1).kp hx hs R1.at_ R1.lst kp, hx, hs⟩
theorem sc_take_line : FnScope ["reading", "line", "fields", "block", "cut"] ["reading", "line"] (defScope s_take_line) := ⟨rfl, rfl, rfl, by decide +kernel, rfl, by decide +kernel, by decide +kernel⟩
theorem ok_take_line {f : Addr} {fd : FuncData} (F : Fun K "take_line" "take_line" s_take_line f fd) (T : Txt mg) (cP : Callee P w K mg base 1 "parted" ["codes", "mark"] (spParted K)) (cB : Callee P w K mg base 4 "block_from" ["fields"] (spBlockFrom K CB)) (cC : Callee P w K mg base 4 "cut_from" ["fields"] (spCutFrom K CC))
    (cTB : Callee P w K mg base 1 "take_block" ["reading", "block"] (spTakeBlk CB CC CR)) (cTC : Callee P w K mg base 2 "take_cut" ["reading", "cut"] (spTakeCut CB CC CR)) : FnOk P w K mg base CX0 5 f fd ["reading", "line"] (spTakeLine CB CC CR) := by
  refine F.ok sc_take_line (fun vs H Q E h => ?_) (fun cdv A outer s H vs Q E hr h => ?_)
  · obtain ⟨r, l, a, tl, fa, st, dx, bv, cs, line, rfl, _⟩ := h
    rfl
  · obtain ⟨r, l, a, tl, fa, st, dx, bv, cs, line, rfl, R, ha, hz, h64, k⟩ := h
    have hr1 : Room 1 _ := hr.mono (by decide)
    have hr2 : Room 2 _ := hr.mono (by decide)
    refine ⟨_, pss_cons (ps_set (i := 2) sc_take_line.nd rfl (Or.inl rfl) (pe_fn cP hr1 (pa_cons (pv 1) (pa_cons (pe_ordC (n := 32) T.ord rfl rfl) pa_nil))))
      (pss_cons (ps_set (i := 3) sc_take_line.nd rfl (Or.inl rfl) (pe_fn cB hr (pa_cons (pv 2) pa_nil)))
      (pss_cons (ps_if (pt_cmpR op_notN (pv 3) pe_non (nomark _)) (pss_one (ps_ret (pe_fn cTB hr1 (pa_cons (pv 0) (pa_cons (pv 3) pa_nil))))) pss_nil)
      (pss_cons (ps_set (i := 4) sc_take_line.nd rfl (Or.inl rfl) (pe_fn cC hr (pa_cons (pv 2) pa_nil)))
      (pss_cons (ps_if (pt_cmpR op_notN (pv 4) pe_non (nomark _)) (pss_one (ps_ret (pe_fn cTC hr2 (pa_cons (pv 0) (pa_cons (pv 4) pa_nil))))) pss_nil)
      (pss_one (ps_ret (pe_const T.notFormed))))))), ?_⟩
    refine ⟨_, rfl, a, line, 32, rfl, SqL.of ha, hz, fun H1 q as s1 N => ?_⟩
    have hpl := part_len 32 line
    have hzz : ∀ f ∈ part 32 line, f.length ≤ 20000 := fun f hf => Nat.le_trans (hpl.2 f hf) hz
    refine ⟨_, rfl, q, as, part 32 line, rfl, SqL.of N.lst, N.rows, hzz, fun en H2 s2 => ?_, fun nm sz g en H2 b s2 hb hB => ?_⟩
    · refine ⟨_, rfl, rfl, _, rfl, ?_⟩
      refine ⟨_, rfl, q, as, part 32 line, rfl, SqL.of (s2 _ _ N.lst), N.rows.same s2, hzz, fun ec H3 s3 => ?_, fun x sz ec H3 c s3 hc hC => ?_⟩
      · refine ⟨_, rfl, rfl, _, rfl, ?_⟩
        have et : takeF st line = (1, st) := by unfold takeF; rw [en, ec]
        have qq := k H3 bv cs (Same.kp ((s1.trans s2).trans s3))
        rw [et] at qq
        exact qq (R.same ((s1.trans s2).trans s3))
      · refine ⟨_, rfl, rfl, _, rfl, ?_⟩
        obtain ⟨lx, ls⟩ := cutF_three ec
        have et : takeF st line = takeCutF st (x, sz) := by unfold takeF; rw [en, ec]
        have s4 := (s1.trans s2).trans s3
        refine ⟨_, rfl, _, rfl, r, l, c, tl, fa, st, dx, bv, cs, x, sz, rfl, R.same s4, hC, lx, ls, h64, fun H4 bv' cs' kp R' => ?_⟩
        have qq := k H4 bv' cs' ((Same.kp s4).trans kp)
        rw [et] at qq
        exact qq R'
    · refine ⟨_, rfl, rfl, _, rfl, ?_⟩
      have et : takeF st line = takeBlkF st (nm, sz, g) := by unfold takeF; rw [en]
      have s4 := s1.trans s2
      refine ⟨_, rfl, _, rfl, r, l, b, tl, fa, st, dx, bv, cs, nm, sz, g, rfl, R.same s4, hB, (blkF_three en).1, (blkF_three en).2, fun H4 bv' cs' kp R' => ?_⟩
      have qq := k H4 bv' cs' ((Same.kp s4).trans kp)
      rw [et] at qq
      exact qq R'
end
end Cut
end
section
set_option Elab.async false
set_option linter.all false
set_option maxRecDepth 100000
set_option maxHeartbeats 4000000
namespace Cut
open PySem PySem.Spec PyProof.Rows L2
theorem takeF_cuts (st : RS) (line : List Int) (h : st.cuts.length ≤ 64) : (takeF st line).2.cuts.length ≤ 64 := by
  unfold takeF
  split
  · unfold takeBlkF
    split <;> exact h
  · split
    · unfold takeCutF
      split
      · exact h
      · split
        · exact h
        · split
          · exact h
          · simp
            omega
    · exact h
theorem drop_cons {α : Type} : ∀ {l : List α} {i : Nat} {x : α}, l[i]? = some x → l.drop i = x :: l.drop (i + 1)
  | [], i, x, h => by simp at h
  | a :: l, 0, x, h => by
    have e : a = x := Option.some.inj h
    subst e
    rfl
  | a :: l, i + 1, x, h => by
    show l.drop i = x :: l.drop (i + 1)
    exact drop_cons (l := l) (i := i) h
/-- kept but at r, l and q -/
def Kq (r l q : Addr) (H H' : Hp) : Prop := ∀ x o, H x = some o → x ≠ r → x ≠ l → x ≠ q → H' x = some o
theorem Kp.q {r l q : Addr} {H H' : Hp} (k : Kp r l H H') : Kq r l q H H' := fun x o h h1 h2 _ => k x o h h1 h2
theorem Kq.trans {r l q : Addr} {H H1 H2 : Hp} (a : Kq r l q H H1) (b : Kq r l q H1 H2) : Kq r l q H H2 := fun x o h h1 h2 h3 => b x o (a x o h h1 h2 h3) h1 h2 h3
def spReadLines (CB CC CR : Addr) : Sp := fun vs H Q _ => ∃ (r l q : Addr) (dx : Addr) (cs : List Addr) (as : List Addr) (fs : List (List Int)), vs = [.ref r, .ref q] ∧ ReadAt CB CC CR H r l false .non ⟨none, []⟩ dx .non cs ∧ H q = some (.lst (as.map V.ref)) ∧ Rows H as fs ∧ fs ≠ [] ∧
  q ≠ l ∧ (∀ a ∈ as, a ≠ l) ∧ (∀ a ∈ as, a ≠ q) ∧ fs.length ≤ 20001 ∧ (∀ f ∈ fs, f.length ≤ 20000) ∧
  ∀ (H' : Hp) (fa bv' : V) (cs' : List Addr), Kq r l q H H' → ReadAt CB CC CR H' r l false fa (endF fs).2 dx bv' cs' → fauV H' fa (endF fs).1 → Q .non H'
def spReadText (K : PySem.W.Frag) (CB CC CR : Addr) : Sp := fun vs H Q _ => ∃ (a : Addr) (ns : List Int), vs = [.ref a] ∧ SqL K H a (ns.map V.int) ∧ ns.length ≤ 20000 ∧
  ∀ (H' : Hp) (r l : Addr) (fa : V) (dx : Addr) (bv : V) (cs : List Addr), Same H H' → ReadAt CB CC CR H' r l (decide (16384 < ns.length)) fa (readF ns).2 dx bv cs → fauV H' fa (readF ns).1 → Q (.ref r) H'
/-- writing the fault -/
theorem ReadAt.fault {CB CC CR : Addr} {H : Hp} {r l : Addr} {tl : Bool} {fa v : V} {st : RS} {dx : Addr} {bv : V} {cs : List Addr} (R : ReadAt CB CC CR H r l tl fa st dx bv cs) :
    ReadAt CB CC CR (upd H r (.ins CR dx (putF "fault" v (fR tl fa bv l)))) r l tl v st dx bv cs ∧ Kp r l H (upd H r (.ins CR dx (putF "fault" v (fR tl fa bv l)))) := by
  have kp : Kp r l H (upd H r (.ins CR dx (putF "fault" v (fR tl fa bv l)))) := fun x o h h1 h2 => by rw [upd_ne h1]; exact h
  refine ⟨⟨?_, ?_, R.blk.kp R.at_ R.lst kp, R.cuts.kp R.at_ R.lst kp⟩, kp⟩
  · rw [upd_same, fR_put_fault]
  · rw [upd_ne R.ne.symm]
    exact R.lst
section
variable {P : Program} {w : World} {K : PySem.W.Frag} {mg : Str → Option Value} {base : Heap} {CB CC CR : Addr}
theorem sc_read_lines : FnScope ["reading", "lines", "unended", "number", "line", "why"] ["reading", "lines"] (defScope s_read_lines) := ⟨rfl, rfl, rfl, by decide +kernel, rfl, by decide +kernel, by decide +kernel⟩
theorem ok_read_lines {f : Addr} {fd : FuncData} (F : Fun K "read_lines" "read_lines" s_read_lines f fd) (T : Txt mg) (C : CTxt K CB CC CR) (cTL : Callee P w K mg base 5 "take_line" ["reading", "line"] (spTakeLine CB CC CR)) : FnOk P w K mg base CX0 6 f fd ["reading", "lines"] (spReadLines CB CC CR) := by
  refine F.ok sc_read_lines (fun vs H Q E h => ?_) (fun cdv A outer s H vs Q E hr h => ?_)
  · obtain ⟨r, l, q, dx, cs, as, fs, rfl, _⟩ := h
    rfl
  · obtain ⟨r, l, q, dx, cs, as, fs, rfl, R, hq, hR, hne, nql, nal, naq, hzl, hzz, k⟩ := h
    refine ⟨_, pss_cons (ps_set (i := 2) sc_read_lines.nd rfl (Or.inl rfl) (pe_bm0 PySem.F.plainAttrs_list PySem.F.slot_list_pop PySem.F.type_list_pop mt_pop (pv 1)))
      (pss_cons (ps_for PassesOwn.never rfl (pi_enum rfl T.enumerate (pa_cons (pv 1) pa_nil)) (pg_tup rfl (pgs_cons (pg_name (i := 3) sc_read_lines.nd rfl (Or.inl rfl)) (pgs_cons (pg_name (i := 4) sc_read_lines.nd rfl (Or.inl rfl)) pgs_nil)))
        (pss_cons (ps_set (i := 5) sc_read_lines.nd rfl (Or.inl rfl) (pe_fn cTL hr (pa_cons (pv 0) (pa_cons (pv 4) pa_nil))))
        (pss_one (ps_if (pt_cmpR op_ne (pv 5) (pe_const T.right) (nomark _)) (pss_cons (ps_fld (pv 0) (pe_tup (pa_cons (pv 3) (pa_cons (pv 5) pa_nil))) rfl) (pss_one ps_retN)) pss_nil))))
      (pss_one (ps_if (pt_truth (pv 2) (fun _ => rfl)) (pss_one (ps_fld (pv 0) (pe_tup (pa_cons (pe_callB call_len_seq rfl T.len boot_len (pa_cons (pv 1) pa_nil)) (pa_cons (pe_const T.notFormed) pa_nil))) rfl))
        (pss_one (ps_if (pt_not (pt_truth (pv 1) (fun _ => rfl))) (pss_one (ps_fld (pv 0) (pe_tup (pa_cons pe_int (pa_cons (pe_const T.cannot) pa_nil))) rfl)) pss_nil))))), ?_⟩
    have hal : as ≠ [] := fun z => hne (by
      have := Paired.length hR
      rw [z] at this
      exact List.length_eq_zero_iff.mp this.symm)
    obtain ⟨as', au, ls, un, rfl, rfl, hR', hau⟩ := hR.snoc_inv hal
    have ed : (ls ++ [un]).dropLast = ls := by simp
    have eg : (ls ++ [un]).getLastD [] = un := by simp
    have hll : as'.length = ls.length := Paired.length hR'
    have hls : ls.length ≤ 20000 := by simp at hzl; omega
    have nqr : q ≠ r := ne_of hq R.at_ (by intro z; cases z)
    have nau : au ≠ q := naq au (by simp)
    refine ⟨_, rfl, .inl ⟨rfl, _, SqL.of hq⟩, q, _, V.ref au, rfl, rfl, hq, ?_, ?_⟩
    · rw [List.map_append]
      simp
    -- the heap behind the pop
    have k1 : Kq r l q H (upd H q (.lst (((as' ++ [au]).map V.ref).dropLast))) := fun x o h h1 h2 h3 => by rw [upd_ne h3]; exact h
    have edl : ((as' ++ [au]).map V.ref).dropLast = as'.map V.ref := by rw [List.map_append]; simp
    rw [edl] at k1 ⊢
    have R1 : ReadAt CB CC CR (upd H q (.lst (as'.map V.ref))) r l false .non ⟨none, []⟩ dx .non cs := by
      refine ⟨by rw [upd_ne nqr.symm]; exact R.at_, by rw [upd_ne nql.symm]; exact R.lst, rfl, ?_⟩
      have := R.cuts
      cases this
      exact .nil
    have hR1 : Rows (upd H q (.lst (as'.map V.ref))) as' ls := hR'.keep fun a ha o ho => by rw [upd_ne (naq a (by simp [ha]))]; exact ho
    have hau1 : upd H q (.lst (as'.map V.ref)) au = some (.lst (un.map V.int)) := by rw [upd_ne nau]; exact hau
    have hq1 : upd H q (.lst (as'.map V.ref)) q = some (.lst (as'.map V.ref)) := upd_same
    generalize upd H q (.lst (as'.map V.ref)) = H1 at k1 R1 hR1 hau1 hq1 ⊢
    refine ⟨_, rfl, q, _, rfl, SqL.of hq1, for_enum (K := K) (a := q) (xs := as'.map V.ref) (fun i σ H' => ∃ (v3 v4 v5 : Option V) (st : RS) (bv : V) (cs' : List Addr), σ = [some (.ref r), some (.ref q), some (.ref au), v3, v4, v5] ∧ ReadAt CB CC CR H' r l false .non st dx bv cs' ∧
        st.cuts.length ≤ 64 ∧ linesF 0 ⟨none, []⟩ ls = linesF i st (ls.drop i) ∧ H' q = some (.lst (as'.map V.ref)) ∧ Rows H' as' ls ∧ H' au = some (.lst (un.map V.int)) ∧ Kq r l q H H')
      ⟨none, none, none, ⟨none, []⟩, .non, cs, rfl, R1, Nat.zero_le _, rfl, hq1, hR1, hau1, k1⟩ (fun i σ H' _ ⟨_, _, _, _, _, _, _, _, _, _, z, _⟩ => SqL.of z) ?_ ?_⟩
    · rintro i y σ H' T' hy ⟨v3, v4, v5, st, bv, cs', rfl, R2, h64, he, hq2, hR2, hau2, k2⟩ hT
      obtain ⟨a, ha, rfl⟩ := map_ref hy
      obtain ⟨line, hline, hal⟩ := hR2.get ha
      have s2 : Same H' (upd H' T' (.tup [.int (i : Nat), .ref a])) := Same.upd hT
      refine ⟨T', _, rfl, SqT.of upd_same, rfl, _, _, rfl, _, _, rfl, rfl, ?_⟩
      refine ⟨_, rfl, _, rfl, r, l, a, false, .non, st, dx, bv, cs', line, rfl, R2.same s2, s2 _ _ hal, hzz line (by simp [List.mem_of_getElem? hline]), h64, fun H3 bv3 cs3 kp R3 => ?_⟩
      have kp' : Kp r l H' H3 := (Same.kp s2).trans kp
      have ed3 := drop_cons hline
      have eL : linesF i st (ls.drop i) = if (takeF st line).1 = 0 then linesF (i + 1) (takeF st line).2 (ls.drop (i + 1)) else (some (i, (takeF st line).1), (takeF st line).2) := by rw [ed3]; rfl
      have keepRow : ∀ b ∈ as', ∀ o, H' b = some o → H3 b = some o := fun b hb o ho => by
        obtain ⟨j, hj⟩ := List.getElem?_of_mem hb
        obtain ⟨f, _, hf⟩ := hR2.get hj
        exact kp' b o ho (ne_of hf R2.at_ (by intro z; cases z)) (nal b (by simp [hb]))
      refine ⟨_, rfl, rfl, _, rfl, ?_⟩
      refine iteB (fun e => ?_) fun e => ?_
      · have e1 : ¬ (takeF st line).1 = 0 := fun z => by
          rw [z] at e
          exact absurd e (by decide)
        refine ⟨_, rfl, _, rfl, by show 2 ≤ sizeLine; decide, fun t ht => ?_⟩
        have s4 : Same H3 (upd H3 t (.tup [.int (i : Nat), .int ((takeF st line).1 : Nat)])) := Same.upd ht
        have R4 := R3.same s4
        refine ⟨_, rfl, r, CR, dx, _, rfl, R4.at_, C.cR, C.rFault, (by show 4 < 1000; decide), ?_⟩
        obtain ⟨R5, k5⟩ := ReadAt.fault (v := .ref t) R4
        rw [if_neg e1] at eL
        have eE : endF (ls ++ [un]) = (some (i, (takeF st line).1), (takeF st line).2) := by
          unfold endF
          rw [ed, he, eL]
        have ntr : t ≠ r := fun z => by
          rw [z, R3.at_] at ht
          cases ht
        have qq := k _ (.ref t) bv3 cs3 (((k2.trans kp'.q).trans (Same.kp s4).q).trans k5.q)
        rw [eE] at qq
        exact qq R5 ⟨t, rfl, by rw [upd_ne ntr]; exact upd_same⟩
      · have e1 : (takeF st line).1 = 0 := by
          have e2 : V.int ((takeF st line).1 : Nat) = V.int 0 := by simpa using e
          injection e2 with e2
          omega
        rw [if_pos e1] at eL
        refine ⟨_, _, _, (takeF st line).2, bv3, cs3, rfl, R3, takeF_cuts st line h64, by rw [he, eL], ?_, hR2.keep keepRow, ?_, k2.trans kp'.q⟩
        · exact kp' _ _ hq2 nqr nql
        · exact kp' _ _ hau2 (ne_of hau2 R2.at_ (by intro z; cases z)) (nal au (by simp))
    · rintro σ H' ⟨v3, v4, v5, st, bv, cs', rfl, R2, h64, he, hq2, hR2, hau2, k2⟩
      have e0 : ls.drop (as'.map V.ref).length = [] := by rw [List.length_map, hll]; simp
      rw [e0] at he
      have he : linesF 0 ⟨none, []⟩ ls = (none, st) := he
      refine ⟨_, rfl, _, .inl ⟨_, SqL.of hau2, rfl⟩, ?_⟩
      refine iteB (fun e => ?_) fun e => ?_
      · have e1 : ¬ un = [] := fun z => by
          rw [z] at e
          exact absurd e (by decide)
        refine ⟨_, rfl, q, _, rfl, .inl (SqL.of hq2), by show 2 ≤ sizeLine; decide, fun t ht => ?_⟩
        rw [List.length_map, hll] at *
        have s4 : Same H' (upd H' t (.tup [.int (ls.length : Nat), .int 1])) := Same.upd ht
        have R4 := R2.same s4
        refine ⟨_, rfl, r, CR, dx, _, rfl, R4.at_, C.cR, C.rFault, (by show 4 < 1000; decide), ?_⟩
        obtain ⟨R5, k5⟩ := ReadAt.fault (v := .ref t) R4
        have eE : endF (ls ++ [un]) = (some (ls.length, 1), st) := by
          unfold endF
          rw [ed, he, eg]
          show (if un = [] then _ else _) = _
          rw [if_neg e1]
        have ntr : t ≠ r := fun z => by
          rw [z, R2.at_] at ht
          cases ht
        have qq := k _ (.ref t) bv cs' ((k2.trans (Same.kp s4).q).trans k5.q)
        rw [eE] at qq
        exact qq R5 ⟨t, rfl, by rw [upd_ne ntr]; exact upd_same⟩
      have e1 : un = [] := by
        cases un with
        | nil => rfl
        | cons c r => exact absurd e (by simp)
      refine ⟨_, rfl, _, .inl ⟨_, SqL.of hq2, rfl⟩, ?_⟩
      refine iteB (fun e => ?_) fun e => ?_
      · have e2 : ls = [] := by
          cases as' with
          | nil => exact List.length_eq_zero_iff.mp hll.symm
          | cons c r => exact absurd e (by simp)
        refine ⟨by show 2 ≤ sizeLine; decide, fun t ht => ?_⟩
        have s4 : Same H' (upd H' t (.tup [.int 0, .int 3])) := Same.upd ht
        have R4 := R2.same s4
        refine ⟨_, rfl, r, CR, dx, _, rfl, R4.at_, C.cR, C.rFault, (by show 4 < 1000; decide), ?_⟩
        obtain ⟨R5, k5⟩ := ReadAt.fault (v := .ref t) R4
        have eE : endF (ls ++ [un]) = (some (0, 3), st) := by
          unfold endF
          rw [ed, he, eg]
          show (if un = [] then (if ls = [] then _ else _) else _) = _
          rw [if_pos e1, if_pos e2]
        have ntr : t ≠ r := fun z => by
          rw [z, R2.at_] at ht
          cases ht
        have qq := k _ (.ref t) bv cs' ((k2.trans (Same.kp s4).q).trans k5.q)
        rw [eE] at qq
        exact qq R5 ⟨t, rfl, by rw [upd_ne ntr]; exact upd_same⟩
      · have e2 : ¬ ls = [] := fun z => by
          rw [z] at hll
          have : as' = [] := List.length_eq_zero_iff.mp hll
          rw [this] at e
          exact absurd e (by decide)
        have eE : endF (ls ++ [un]) = (none, st) := by
          unfold endF
          rw [ed, he, eg]
          show (if un = [] then (if ls = [] then _ else _) else _) = _
          rw [if_pos e1, if_neg e2]
        have qq := k H' .non bv cs' k2
        rw [eE] at qq
        exact qq R2 rfl
end
end Cut
end
section
set_option Elab.async false
set_option linter.all false
set_option maxRecDepth 100000
set_option maxHeartbeats 4000000
namespace Cut
open PySem PySem.Spec PyProof.Rows L2
def spRefusal (CB CC CR : Addr) : Sp := fun vs H Q _ => ∃ (r l : Addr) (tl : Bool) (fa : V) (st : RS) (dx : Addr) (bv : V) (cs : List Addr) (fault : Option (Nat × Nat)), vs = [.ref r] ∧ ReadAt CB CC CR H r l tl fa st dx bv cs ∧ fauV H fa fault ∧
  ∀ (H' : Hp) (p : Addr), Same H H' → H p = none → H' p = some (.lst ((refF tl fault).map V.int)) → Q (.ref p) H'
theorem ReadAt.long {CB CC CR : Addr} {H : Hp} {r l : Addr} {tl b : Bool} {fa : V} {st : RS} {dx : Addr} {bv : V} {cs : List Addr} (R : ReadAt CB CC CR H r l tl fa st dx bv cs) :
    ReadAt CB CC CR (upd H r (.ins CR dx (putF "too_long" (.bl b) (fR tl fa bv l)))) r l b fa st dx bv cs := by
  have kp : Kp r l H (upd H r (.ins CR dx (putF "too_long" (.bl b) (fR tl fa bv l)))) := fun x o h h1 h2 => by rw [upd_ne h1]; exact h
  refine ⟨?_, ?_, R.blk.kp R.at_ R.lst kp, R.cuts.kp R.at_ R.lst kp⟩
  · rw [upd_same, fR_put_tl]
  · rw [upd_ne R.ne.symm]
    exact R.lst
section
variable {P : Program} {w : World} {K : PySem.W.Frag} {mg : Str → Option Value} {base : Heap} {CB CC CR : Addr}
theorem sc_read_text : FnScope ["text", "reading"] ["text"] (defScope s_read_text) := ⟨rfl, rfl, rfl, by decide +kernel, rfl, by decide +kernel, by decide +kernel⟩
theorem ok_read_text {f : Addr} {fd : FuncData} (F : Fun K "read_text" "read_text" s_read_text f fd) (T : Txt mg) (C : CTxt K CB CC CR) (mR : Maker P w K mg base 1 "Reading" CR ["self"] (spReadI CR)) (cP : Callee P w K mg base 1 "parted" ["codes", "mark"] (spParted K)) (cRL : Callee P w K mg base 6 "read_lines" ["reading", "lines"] (spReadLines CB CC CR)) :
    FnOk P w K mg base CX0 7 f fd ["text"] (spReadText K CB CC CR) := by
  refine F.ok sc_read_text (fun vs H Q E h => ?_) (fun cdv A outer s H vs Q E hr h => ?_)
  · obtain ⟨a, ns, rfl, _⟩ := h
    rfl
  · obtain ⟨a, ns, rfl, hS, hz, k⟩ := h
    have hr1 : Room 1 _ := hr.mono (by decide)
    have hr2 : Room 2 _ := hr.mono (by decide)
    refine ⟨_, pss_cons (ps_set (i := 1) sc_read_text.nd rfl (Or.inl rfl) (pe_new0 mR hr2))
      (pss_cons (ps_if (pt_cmpR op_gt (pe_callB call_len_seq rfl T.len boot_len (pa_cons (pv 0) pa_nil)) (pe_const T.mostBytes) (nomark _)) (pss_one (ps_fld (pv 1) pe_bl rfl))
        (pss_one (ps_expr (pe_fn cRL hr (pa_cons (pv 1) (pa_cons (pe_fn cP hr1 (pa_cons (pv 0) (pa_cons (pe_ordC (n := 10) T.ord rfl rfl) pa_nil))) pa_nil))))))
      (pss_one (ps_ret (pv 1)))), ?_⟩
    intro r dx hx hdx ndx
    refine ⟨r, dx, rfl, upd_same, fun H1 l hl h1 h2 kp => ⟨rfl, ?_⟩⟩
    have s1 : Same H H1 := Same.made hx hdx kp
    have sU : Same H (upd (upd H dx (.own r)) r (.ins CR dx [])) := Same.made (C := CR) hx hdx fun b o e _ => e
    have hlH : H l = none := sU.free hl
    have R1 : ReadAt CB CC CR H1 r l false .non ⟨none, []⟩ dx .non [] := ⟨h1, h2, rfl, .nil⟩
    have hS1 := s1.seq hS
    refine ⟨_, rfl, a, _, rfl, .inl hS1, _, _, rfl, rfl, _, rfl, iteB (fun e => ?_) fun e => ?_⟩
    · have e1 : 16384 < ns.length := by
        have := of_decide_eq_true e
        rw [List.length_map] at this
        omega
      refine ⟨_, rfl, r, CR, dx, _, rfl, R1.at_, C.cR, C.rTl, (by show 4 < 1000; decide), ?_⟩
      have R2 := ReadAt.long (b := true) R1
      refine ⟨_, rfl, ?_⟩
      have er : readF ns = (none, ⟨none, []⟩) := by unfold readF; rw [if_pos e1]
      have q := k (upd H1 r (.ins CR dx (putF "too_long" (.bl true) (fR false .non .non l)))) r l .non dx .non [] (s1.upd2 hx)
      rw [er, decide_eq_true e1] at q
      exact q R2 rfl
    · have e1 : ¬ 16384 < ns.length := by
        have := of_decide_eq_false e
        rw [List.length_map] at this
        omega
      refine ⟨_, rfl, _, rfl, a, ns, 10, rfl, hS1, hz, fun H2 q as s2 N => ?_⟩
      have hpl := part_len 10 ns
      have lq : l ≠ q := ne_of_none h2 N.fr
      refine ⟨r, l, q, dx, [], as, part 10 ns, rfl, R1.same s2, N.lst, N.rows, part_ne 10 ns, lq.symm, fun b hb => (ne_of_none h2 (N.frs b hb)).symm, N.apart, by have := hpl.1; omega, fun f hf => Nat.le_trans (hpl.2 f hf) hz, fun H3 fa bv' cs' kq R3 f3 => ?_⟩
      refine ⟨_, rfl, ?_⟩
      have hqH : H q = none := s1.free N.fr
      have s3 : Same H H3 := fun b o e => kq b o (s2 _ _ (s1 _ _ e)) (ne_of_none e hx) (ne_of_none e hlH) (ne_of_none e hqH)
      have er : readF ns = endF (part 10 ns) := by unfold readF; rw [if_neg e1]
      have qq := k H3 r l fa dx bv' cs' s3
      rw [er, decide_eq_false e1] at qq
      exact qq R3 f3
theorem sc_refusal_of : FnScope ["reading"] ["reading"] (defScope s_refusal_of) := ⟨rfl, rfl, rfl, by decide +kernel, rfl, by decide +kernel, by decide +kernel⟩
theorem ok_refusal_of {f : Addr} {fd : FuncData} (F : Fun K "refusal_of" "refusal_of" s_refusal_of f fd) (T : Txt mg) (C : CTxt K CB CC CR) : FnOk P w K mg base CX0 1 f fd ["reading"] (spRefusal CB CC CR) := by
  refine F.ok sc_refusal_of (fun vs H Q E h => ?_) (fun cdv A outer s H vs Q E hr h => ?_)
  · obtain ⟨r, l, tl, fa, st, dx, bv, cs, fault, rfl, _⟩ := h
    rfl
  · obtain ⟨r, l, tl, fa, st, dx, bv, cs, fault, rfl, R, hf, k⟩ := h
    refine ⟨_, pss_cons (ps_if (pt_val (pe_fld (pv 0) rfl)) (pss_one (ps_ret (pe_lst (pa_cons (pe_un un_neg pe_int) pa_nil)))) pss_nil)
      (pss_cons (ps_if (pt_cmpR op_notN (pe_fld (pv 0) rfl) pe_non (nomark _)) (pss_one (ps_ret (pe_op op_cat (pe_lst (pa_cons (pe_un un_neg pe_int) pa_nil)) (pe_callTy call_list_of rfl T.list PyProof.Rows.boot_list (pa_cons (pe_fld (pv 0) rfl) pa_nil))))) pss_nil)
      (pss_one (ps_ret (pe_lst pa_nil)))), ?_⟩
    refine ⟨_, rfl, r, CR, dx, _, _, rfl, R.at_, C.cR, C.rTl, fR_tl, _, rfl, ?_⟩
    cases tl with
    | true =>
      refine ⟨_, rfl, by show 1 ≤ sizeLine; decide, fun p hp => k _ p (Same.upd hp) hp upd_same⟩
    | false =>
      refine ⟨_, rfl, r, CR, dx, _, _, rfl, R.at_, C.cR, C.rFault, fR_fault, rfl, _, rfl, ?_⟩
      cases fault with
      | none =>
        have e : fa = .non := hf
        subst e
        exact ⟨Nat.zero_le _, fun p hp => k _ p (Same.upd hp) hp upd_same⟩
      | some ky =>
        obtain ⟨kk, y⟩ := ky
        obtain ⟨t, e, ht⟩ := hf
        subst e
        refine ⟨_, rfl, by show 1 ≤ sizeLine; decide, fun p1 hp1 => ?_⟩
        have s1 : Same H (upd H p1 (.lst [.int (-6)])) := Same.upd hp1
        refine ⟨_, rfl, r, CR, dx, _, _, rfl, s1 _ _ R.at_, C.cR, C.rFault, fR_fault, t, _, rfl, .inr (SqT.of (s1 _ _ ht)), fun p2 hp2 => ?_⟩
        have s2 : Same (upd H p1 (.lst [.int (-6)])) (upd (upd H p1 (.lst [.int (-6)])) p2 (.lst [.int (kk : Nat), .int (y : Nat)])) := Same.upd hp2
        refine ⟨p1, p2, _, _, rfl, rfl, s2 _ _ upd_same, upd_same, by show 3 ≤ sizeLine; decide, fun p3 hp3 => ?_⟩
        have s3 := s1.trans s2
        exact k _ p3 (s3.upd2 (s3.free hp3)) (s3.free hp3) upd_same
end
end Cut
end
section
set_option Elab.async false
set_option linter.all false
set_option maxRecDepth 100000
set_option maxHeartbeats 4000000
namespace Cut
open PySem PySem.Spec PyProof.Rows L2
open PySem.W (Codec)
/-- the reading, ready to be called -/
structure Reads (P : Program) (w : World) (K : PySem.W.Frag) (mg : Str → Option Value) (base : Heap) (CB CC CR : Addr) : Prop where
  txt : Txt mg
  cls : CTxt K CB CC CR
  read : Callee P w K mg base 7 "read_text" ["text"] (spReadText K CB CC CR)
  refusal : Callee P w K mg base 1 "refusal_of" ["reading"] (spRefusal CB CC CR)
structure TopIn (K : PySem.W.Frag) (CB CC CR : Addr) : Prop where
  len : PySem.W.nsIn K mainGlobals "len" = some none
  ord : PySem.W.nsIn K mainGlobals "ord" = some none
  all : PySem.W.nsIn K mainGlobals "all" = some none
  min : PySem.W.nsIn K mainGlobals "min" = some none
  enumerate : PySem.W.nsIn K mainGlobals "enumerate" = some none
  zip : PySem.W.nsIn K mainGlobals "zip" = some none
  list : PySem.W.nsIn K mainGlobals "list" = some none
  sum : PySem.W.nsIn K mainGlobals "sum" = some none
  range : PySem.W.nsIn K mainGlobals "range" = some none
  tuple : PySem.W.nsIn K mainGlobals "tuple" = some none
  mostBytes : NumIn K "MOST_BYTES" 16384
  mostCuts : NumIn K "MOST_CUTS" 64
  largest : NumIn K "LARGEST_SIZE" 16
  longest : NumIn K "LONGEST_NAME" 12
  right : NumIn K "RIGHT" 0
  notFormed : NumIn K "NOT_FORMED" 1
  tooMany : NumIn K "TOO_MANY_CUTS" 2
  cannot : NumIn K "CANNOT_STAND" 3
  beyond : NumIn K "BEYOND_BLOCK" 4
  block : ClsIn K "Block" "Block.__init__" s_Block_init CB
  cut : ClsIn K "Cut" "Cut.__init__" s_Cut_init CC
  reading : ClsIn K "Reading" "Reading.__init__" s_Reading_init CR
  bName : NoAttr K CB "name"
  bSize : NoAttr K CB "size"
  bGrain : NoAttr K CB "grain"
  cCorner : NoAttr K CC "corner"
  cSize : NoAttr K CC "size"
  rTl : NoAttr K CR "too_long"
  rFault : NoAttr K CR "fault"
  rBlock : NoAttr K CR "block"
  rCuts : NoAttr K CR "cuts"
  read_text : FnIn K "read_text" s_read_text
  read_lines : FnIn K "read_lines" s_read_lines
  take_line : FnIn K "take_line" s_take_line
  take_block : FnIn K "take_block" s_take_block
  take_cut : FnIn K "take_cut" s_take_cut
  lies_within : FnIn K "lies_within" s_lies_within
  block_from : FnIn K "block_from" s_block_from
  cut_from : FnIn K "cut_from" s_cut_from
  size_from : FnIn K "size_from" s_size_from
  grain_from : FnIn K "grain_from" s_grain_from
  number_from : FnIn K "number_from" s_number_from
  is_word : FnIn K "is_word" s_is_word
  is_name : FnIn K "is_name" s_is_name
  is_digit : FnIn K "is_digit" s_is_digit
  is_letter : FnIn K "is_letter" s_is_letter
  parted : FnIn K "parted" s_parted
  refusal_of : FnIn K "refusal_of" s_refusal_of
theorem reads_of {P : Program} {w : World} {K : PySem.W.Frag} {h base : Heap} {mg : Str → Option Value} {CB CC CR : Addr} (X : K.In h) (G : h.Ns mainGlobals mg) (I : TopIn K CB CC CR) : Reads P w K mg base CB CC CR := by
  have T : Txt mg := ⟨PySem.W.mg_none_of X G I.len, PySem.W.mg_none_of X G I.ord, PySem.W.mg_none_of X G I.all, PySem.W.mg_none_of X G I.min, PySem.W.mg_none_of X G I.enumerate, PySem.W.mg_none_of X G I.zip, PySem.W.mg_none_of X G I.list, PySem.W.mg_none_of X G I.sum, PySem.W.mg_none_of X G I.range, PySem.W.mg_none_of X G I.tuple,
    I.mostBytes.mg X G, I.mostCuts.mg X G, I.largest.mg X G, I.longest.mg X G, I.right.mg X G, I.notFormed.mg X G, I.tooMany.mg X G, I.cannot.mg X G, I.beyond.mg X G⟩
  have C : CTxt K CB CC CR := ⟨I.block.cls, I.cut.cls, I.reading.cls, I.bName, I.bSize, I.bGrain, I.cCorner, I.cSize, I.rTl, I.rFault, I.rBlock, I.rCuts⟩
  have cDig : Callee P w K mg base 1 "is_digit" ["code"] spDigit := I.is_digit.callee X G (fun _ _ F => F.binds fun _ _ _ _ _ _ us hl => match us, hl with | [_], _ => rfl) fun _ _ F => ok_is_digit F T
  have cLet : Callee P w K mg base 1 "is_letter" ["code"] spLetter := I.is_letter.callee X G (fun _ _ F => F.binds fun _ _ _ _ _ _ us hl => match us, hl with | [_], _ => rfl) fun _ _ F => ok_is_letter F T
  have cWord : Callee P w K mg base 1 "is_word" ["field", "word"] (spWord K) := I.is_word.callee X G (fun _ _ F => F.binds fun _ _ _ _ _ _ us hl => match us, hl with | [_, _], _ => rfl) fun _ _ F => ok_is_word F T
  have cName : Callee P w K mg base 2 "is_name" ["field"] (spName K) := I.is_name.callee X G (fun _ _ F => F.binds fun _ _ _ _ _ _ us hl => match us, hl with | [_], _ => rfl) fun _ _ F => ok_is_name F T cDig cLet
  have cNum : Callee P w K mg base 2 "number_from" ["field"] (spNumber K) := I.number_from.callee X G (fun _ _ F => F.binds fun _ _ _ _ _ _ us hl => match us, hl with | [_], _ => rfl) fun _ _ F => ok_number_from F T cDig
  have cGrain : Callee P w K mg base 2 "grain_from" ["field"] (spGrain K) := I.grain_from.callee X G (fun _ _ F => F.binds fun _ _ _ _ _ _ us hl => match us, hl with | [_], _ => rfl) fun _ _ F => ok_grain_from F T cWord
  have cSize : Callee P w K mg base 3 "size_from" ["fields"] (spSize K) := I.size_from.callee X G (fun _ _ F => F.binds fun _ _ _ _ _ _ us hl => match us, hl with | [_], _ => rfl) fun _ _ F => ok_size_from F T cNum
  have cPart : Callee P w K mg base 1 "parted" ["codes", "mark"] (spParted K) := I.parted.callee X G (fun _ _ F => F.binds fun _ _ _ _ _ _ us hl => match us, hl with | [_, _], _ => rfl) fun _ _ F => ok_parted F T
  have mB : Maker P w K mg base 1 "Block" CB ["self", "name", "size", "grain"] (spBlockI CB) := I.block.maker X G (fun _ _ F => F.binds fun _ _ _ _ _ _ us hl => match us, hl with | [_, _, _, _], _ => rfl) fun _ _ F => ok_Block_init F C
  have mC : Maker P w K mg base 1 "Cut" CC ["self", "corner", "size"] (spCutI CC) := I.cut.maker X G (fun _ _ F => F.binds fun _ _ _ _ _ _ us hl => match us, hl with | [_, _, _], _ => rfl) fun _ _ F => ok_Cut_init F C
  have mR : Maker P w K mg base 1 "Reading" CR ["self"] (spReadI CR) := I.reading.maker X G (fun _ _ F => F.binds fun _ _ _ _ _ _ us hl => match us, hl with | [_], _ => rfl) fun _ _ F => ok_Reading_init F C
  have cBlk : Callee P w K mg base 4 "block_from" ["fields"] (spBlockFrom K CB) := I.block_from.callee X G (fun _ _ F => F.binds fun _ _ _ _ _ _ us hl => match us, hl with | [_], _ => rfl) fun _ _ F => ok_block_from F T cWord cName cSize cGrain mB
  have cCut : Callee P w K mg base 4 "cut_from" ["fields"] (spCutFrom K CC) := I.cut_from.callee X G (fun _ _ F => F.binds fun _ _ _ _ _ _ us hl => match us, hl with | [_], _ => rfl) fun _ _ F => ok_cut_from F T cWord cNum cSize mC
  have cIn : Callee P w K mg base 1 "lies_within" ["cut", "block"] (spWithin CB CC) := I.lies_within.callee X G (fun _ _ F => F.binds fun _ _ _ _ _ _ us hl => match us, hl with | [_, _], _ => rfl) fun _ _ F => ok_lies_within F T C
  have cTB : Callee P w K mg base 1 "take_block" ["reading", "block"] (spTakeBlk CB CC CR) := I.take_block.callee X G (fun _ _ F => F.binds fun _ _ _ _ _ _ us hl => match us, hl with | [_, _], _ => rfl) fun _ _ F => ok_take_block F T C
  have cTC : Callee P w K mg base 2 "take_cut" ["reading", "cut"] (spTakeCut CB CC CR) := I.take_cut.callee X G (fun _ _ F => F.binds fun _ _ _ _ _ _ us hl => match us, hl with | [_, _], _ => rfl) fun _ _ F => ok_take_cut F T C cIn
  have cTL : Callee P w K mg base 5 "take_line" ["reading", "line"] (spTakeLine CB CC CR) := I.take_line.callee X G (fun _ _ F => F.binds fun _ _ _ _ _ _ us hl => match us, hl with | [_, _], _ => rfl) fun _ _ F => ok_take_line F T cPart cBlk cCut cTB cTC
  have cRL : Callee P w K mg base 6 "read_lines" ["reading", "lines"] (spReadLines CB CC CR) := I.read_lines.callee X G (fun _ _ F => F.binds fun _ _ _ _ _ _ us hl => match us, hl with | [_, _], _ => rfl) fun _ _ F => ok_read_lines F T C cTL
  have cRT : Callee P w K mg base 7 "read_text" ["text"] (spReadText K CB CC CR) := I.read_text.callee X G (fun _ _ F => F.binds fun _ _ _ _ _ _ us hl => match us, hl with | [_], _ => rfl) fun _ _ F => ok_read_text F T C mR cPart cRL
  have cRf : Callee P w K mg base 1 "refusal_of" ["reading"] (spRefusal CB CC CR) := I.refusal_of.callee X G (fun _ _ F => F.binds fun _ _ _ _ _ _ us hl => match us, hl with | [_], _ => rfl) fun _ _ F => ok_refusal_of F T C
  exact ⟨T, C, cRT, cRf⟩
theorem fn_of_top {P : Program} {w : World} {K : PySem.W.Frag} {h : Heap} {mg : Str → Option Value} {k : Nat} {x : Str} {st : Stmt} {fa : Addr} {ps : List Str} {sp : Sp} (X : K.In h) (G : h.Ns mainGlobals mg) (hfa : mg x = some (.ref fa)) (i : FnIn K x st)
    (hb : ∀ (kV doc pm : Value) (an : Option Addr) (cdv ct : Value) (us : List Value), us.length = ps.length → bindArgs (PySem.W.fnOf x x (defArgs st) (defBody st) (defScope st) .none kV doc pm an cdv ct) ⟨us, []⟩ = pure (ps.zip us))
    (ok : ∀ (base : Heap), K.In base → base.Ns mainGlobals mg → ∀ f fd, Fun K x x st f fd → FnOk P w K mg base CX0 k f fd ps sp) :
    ∃ fd : FuncData, (∀ (s : Shared) (us : List Value), us.length = ps.length → BindsTo s fd ⟨us, []⟩ (ps.zip us)) ∧ ∀ base : Heap, K.In base → base.Ns mainGlobals mg → FnOk P w K mg base CX0 k fa fd ps sp := by
  obtain ⟨f, fd, a, F⟩ := i
  have e := hfa.symm.trans (PySem.W.mg_of X G a)
  cases e
  refine ⟨fd, fun s us hu => ?_, fun base h1 h2 => ok base h1 h2 _ fd F⟩
  obtain ⟨oc, od, kV, doc, pm, an, cdv, ct, osl, e2, lk, hcd⟩ := F.ex
  subst e2
  exact .of_eq (hb kV doc pm an cdv ct us hu)
end Cut
end
section
set_option Elab.async false
set_option linter.all false
set_option maxRecDepth 100000
set_option maxHeartbeats 4000000
namespace Cut
open PySem PySem.Spec PyProof.Rows L2
open PySem.W (Codec)
open Jo (Part Box)
def spPlaceAt (K : PySem.W.Frag) : Sp := fun vs H Q _ => ∃ (t p : Addr) (x y z : Int) (w d h : Nat), vs = [.ref t, .ref p] ∧ SqT K H t [.int x, .int y, .int z] ∧ H p = some (.lst (vN [w, d, h])) ∧ w ≤ 16 ∧ d ≤ 16 ∧ ∃ i : Int, (z * (d : Nat) + y) * (w : Nat) + x = i ∧ Q (.int i) H
def spPlaces (CC : Addr) : Sp := fun vs H Q _ => ∃ (c pb : Addr) (y : Box) (w d h : Nat), vs = [.ref c, .ref pb] ∧ CutAt CC H c [y.x, y.y, y.z] [y.w, y.d, y.h] ∧ H pb = some (.lst (vN [w, d, h])) ∧ Small y w d h ∧
  ∀ (H' : Hp) (p : Addr), Same H H' → H p = none → H' p = some (.lst (vN (placesF y w d))) → Q (.ref p) H'
def spCells (CB CC CL : Addr) : Sp := fun vs H Q _ => ∃ (b lc : Addr) (cs : List Addr) (bs : List Box) (n : List Int) (w d h g : Nat), vs = [.ref b, .ref lc] ∧ BlkAt CB H b n [w, d, h] g ∧ H lc = some (.lst (cs.map V.ref)) ∧ CutsAt CC H cs (bs.map box2) ∧ w ≤ 16 ∧ d ≤ 16 ∧ h ≤ 16 ∧ (∀ y ∈ bs, BoxIn w d h y) ∧
  ∀ (H' : Hp) (c : Addr), Same H H' → H c = none → CelAt CL H' c [w, d, h] (cellsF w d h bs) → Q (.ref c) H'
section
variable {P : Program} {w : World} {K : PySem.W.Frag} {mg : Str → Option Value} {base : Heap} {CB CC CR CL : Addr}
theorem sc_Cells_init : FnScope ["self", "size"] ["self", "size"] (defScope s_Cells_init) := ⟨rfl, rfl, rfl, by decide +kernel, rfl, by decide +kernel, by decide +kernel⟩
theorem ok_Cells_init {f : Addr} {fd : FuncData} (F : Fun K "__init__" "Cells.__init__" s_Cells_init f fd) (L : LTxt K CL) : FnOk P w K mg base CX0 1 f fd ["self", "size"] (spCellsI CL) := by
  refine F.ok sc_Cells_init (fun vs H Q E h => ?_) (fun cdv A outer s H vs Q E hr h => ?_)
  · obtain ⟨c, dx, p, w, d, h, rfl, _⟩ := h
    rfl
  · obtain ⟨c, dx, pb, bw, bd, bh, rfl, hc, hpb, hw, hd, hh, k⟩ := h
    refine ⟨_, pss_cons (ps_fld (pv 0) (pv 1) rfl) (pss_one (ps_fld (pv 0) (pe_op op_rep (pe_lst (pa_cons pe_int pa_nil)) (pe_op op_mul (pe_op op_mul (pe_ix ix_list (pv 1) pe_int (fun _ _ => rfl)) (pe_ix ix_list (pv 1) pe_int (fun _ _ => rfl))) (pe_ix ix_list (pv 1) pe_int (fun _ _ => rfl)))) rfl)), ?_⟩
    refine ⟨_, rfl, _, rfl, c, CL, dx, [], rfl, hc, L.cls, L.size, (by show 0 < 1000; decide), ?_⟩
    rw [pf_nil]
    have npc : pb ≠ c := ne_of hpb hc (by intro z; cases z)
    have k0 : ∀ x o, H x = some o → x ≠ c → (upd H c (.ins CL dx [("size", .ref pb)])) x = some o := fun x o e hx => by rw [upd_ne hx]; exact e
    have hc0 : (upd H c (.ins CL dx [("size", .ref pb)])) c = some (.ins CL dx [("size", .ref pb)]) := upd_same
    generalize upd H c (.ins CL dx [("size", .ref pb)]) = H0 at k0 hc0
    refine ⟨by show 1 ≤ sizeLine; decide, fun l1 hl1 => ?_⟩
    have s1 : Same H0 (upd H0 l1 (.lst [V.int 1])) := Same.upd hl1
    have hl1' : (upd H0 l1 (.lst [V.int 1])) l1 = some (.lst [V.int 1]) := upd_same
    generalize upd H0 l1 (.lst [V.int 1]) = H1 at s1 hl1'
    have hN : bw * bd * bh ≤ 4096 := by
      have := len16 hw hd hh
      rw [Nat.mul_assoc]
      exact this
    have eN : ((bw : Int) * (bd : Nat) * (bh : Nat)).toNat = bw * bd * bh := by
      rw [← Int.natCast_mul, ← Int.natCast_mul]
      rfl
    have eN' : ((bw : Int) * (bd : Nat) * (bh : Nat)) = (bw * bd * bh : Nat) := by
      rw [Int.natCast_mul, Int.natCast_mul]
    have blk : H1 pb = some (.lst [.int (bw : Nat), .int (bd : Nat), .int (bh : Nat)]) := s1 _ _ (k0 _ _ hpb npc)
    refine ⟨_, rfl, pb, _, _, V.int (bw : Nat), rfl, rfl, SqL.of blk, atI_nat (j := 0) rfl, _, rfl, pb, _, _, V.int (bd : Nat), rfl, rfl, SqL.of blk, atI_nat (j := 1) rfl, _, _, rfl, rfl, .inr ⟨by omega, by omega⟩,
      _, rfl, pb, _, _, V.int (bh : Nat), rfl, rfl, SqL.of blk, atI_nat (j := 2) rfl, _, _, rfl, rfl, .inr ⟨by omega, by omega⟩, l1, _, _, rfl, rfl, hl1', by rw [eN']; omega, by rw [eN']; omega, ?_, fun l hl => ?_⟩
    · rw [eN]
      show 1 * (bw * bd * bh) ≤ sizeLine
      exact Nat.le_of_lt (small20000 (by omega))
    have hl0 : H0 l = none := s1.free hl
    have nlc : c ≠ l := ne_of_none hc0 hl0
    have hlH : H l = none := by
      cases q : H l with
      | none => rfl
      | some o => rw [k0 l o q nlc.symm] at hl0; cases hl0
    have s2 : Same H0 (upd H1 l (.lst (List.replicate ((bw : Int) * (bd : Nat) * (bh : Nat)).toNat [V.int 1]).flatten)) := s1.upd2 hl0
    have hl2 : (upd H1 l (.lst (List.replicate ((bw : Int) * (bd : Nat) * (bh : Nat)).toNat [V.int 1]).flatten)) l = some (.lst (vN (List.replicate (bw * bd * bh) 1))) := by
      rw [upd_same, eN, rep_one]
    generalize upd H1 l (.lst (List.replicate ((bw : Int) * (bd : Nat) * (bh : Nat)).toNat [V.int 1]).flatten) = H2 at s2 hl2
    refine ⟨_, rfl, c, CL, dx, _, rfl, s2 _ _ hc0, L.cls, L.marks, (by show 1 < 1000; decide), ?_⟩
    refine k _ l hlH ?_ (by rw [upd_ne nlc.symm]; exact hl2) fun x o e hx => by rw [upd_ne hx]; exact s2 _ _ (k0 x o e hx)
    rw [upd_same]
    refine congrArg (fun q => some (HO.ins CL dx q)) ?_
    rw [pf_miss (by decide +kernel), pf_nil]
    rfl
theorem sc_place_at : FnScope ["spot", "size"] ["spot", "size"] (defScope s_place_at) := ⟨rfl, rfl, rfl, by decide +kernel, rfl, by decide +kernel, by decide +kernel⟩
theorem ok_place_at {f : Addr} {fd : FuncData} (F : Fun K "place_at" "place_at" s_place_at f fd) : FnOk P w K mg base CX0 1 f fd ["spot", "size"] (spPlaceAt K) := by
  refine F.ok sc_place_at (fun vs H Q E h => ?_) (fun cdv A outer s H vs Q E hr h => ?_)
  · obtain ⟨t, p, x, y, z, w, d, h, rfl, _⟩ := h
    rfl
  · obtain ⟨t, p, x, y, z, bw, bd, bh, rfl, ht, hp, hw, hd, _, rfl, k⟩ := h
    have blk : H p = some (.lst [.int (bw : Nat), .int (bd : Nat), .int (bh : Nat)]) := hp
    refine ⟨_, pss_one (ps_ret (pe_op op_add (pe_op op_mul (pe_op op_add (pe_op op_mul (pe_ix ix_tup (pv 0) pe_int (fun _ _ => rfl)) (pe_ix ix_list (pv 1) pe_int (fun _ _ => rfl))) (pe_ix ix_tup (pv 0) pe_int (fun _ _ => rfl))) (pe_ix ix_list (pv 1) pe_int (fun _ _ => rfl))) (pe_ix ix_tup (pv 0) pe_int (fun _ _ => rfl)))), ?_⟩
    exact ⟨_, rfl, t, _, _, V.int z, rfl, rfl, ht, atI_nat (j := 2) rfl, _, rfl, p, _, _, V.int (bd : Nat), rfl, rfl, SqL.of blk, atI_nat (j := 1) rfl, _, _, rfl, rfl, .inr ⟨by omega, by omega⟩,
      _, rfl, t, _, _, V.int y, rfl, rfl, ht, atI_nat (j := 1) rfl, _, _, rfl, rfl, _, rfl, p, _, _, V.int (bw : Nat), rfl, rfl, SqL.of blk, atI_nat (j := 0) rfl, _, _, rfl, rfl, .inr ⟨by omega, by omega⟩,
      _, rfl, t, _, _, V.int x, rfl, rfl, ht, atI_nat (j := 0) rfl, _, _, rfl, rfl, k⟩
theorem sc_places_of : FnScope ["cut", "size", "places", "z", "y", "x"] ["cut", "size"] (defScope s_places_of) := ⟨rfl, rfl, rfl, by decide +kernel, rfl, by decide +kernel, by decide +kernel⟩
theorem ok_places_of {f : Addr} {fd : FuncData} (F : Fun K "places_of" "places_of" s_places_of f fd) (T : Txt mg) (C : CTxt K CB CC CR) (cA : Callee P w K mg base 1 "place_at" ["spot", "size"] (spPlaceAt K)) : FnOk P w K mg base CX0 2 f fd ["cut", "size"] (spPlaces CC) := by
  refine F.ok sc_places_of (fun vs H Q E h => ?_) (fun cdv A outer s H vs Q E hr h => ?_)
  · obtain ⟨c, b, y, w, d, h, rfl, _⟩ := h
    rfl
  · obtain ⟨c, pb, y, bw, bd, bh, rfl, ⟨dc, pc, qc, hc, hpc, hqc⟩, hpb, S, k⟩ := h
    obtain ⟨S1, S2, S3, S4, S5, S6, S7, S8, S9⟩ := S
    have S : Small y bw bd bh := ⟨S1, S2, S3, S4, S5, S6, S7, S8, S9⟩
    refine ⟨_, pss_cons (ps_set (i := 2) sc_places_of.nd rfl (Or.inl rfl) (pe_lst pa_nil))
      (pss_cons (ps_for PassesOwn.never rfl (pi_range2 rfl T.range (pa_cons (pe_ix ix_list (pe_fld (pv 0) rfl) pe_int (fun _ _ => rfl)) (pa_cons (pe_op op_add (pe_ix ix_list (pe_fld (pv 0) rfl) pe_int (fun _ _ => rfl)) (pe_ix ix_list (pe_fld (pv 0) rfl) pe_int (fun _ _ => rfl))) pa_nil))) (pg_name (i := 3) sc_places_of.nd rfl (Or.inl rfl))
        (pss_one (ps_for PassesOwn.never rfl (pi_range2 rfl T.range (pa_cons (pe_ix ix_list (pe_fld (pv 0) rfl) pe_int (fun _ _ => rfl)) (pa_cons (pe_op op_add (pe_ix ix_list (pe_fld (pv 0) rfl) pe_int (fun _ _ => rfl)) (pe_ix ix_list (pe_fld (pv 0) rfl) pe_int (fun _ _ => rfl))) pa_nil))) (pg_name (i := 4) sc_places_of.nd rfl (Or.inl rfl))
          (pss_one (ps_for PassesOwn.never rfl (pi_range2 rfl T.range (pa_cons (pe_ix ix_list (pe_fld (pv 0) rfl) pe_int (fun _ _ => rfl)) (pa_cons (pe_op op_add (pe_ix ix_list (pe_fld (pv 0) rfl) pe_int (fun _ _ => rfl)) (pe_ix ix_list (pe_fld (pv 0) rfl) pe_int (fun _ _ => rfl))) pa_nil))) (pg_name (i := 5) sc_places_of.nd rfl (Or.inl rfl))
            (pss_one (ps_expr (pe_bm PySem.F.plainAttrs_list PySem.F.slot_list_append PySem.F.type_list_append mt_append (pv 2) (pa_cons (pe_fn cA (hr.mono (by decide)) (pa_cons (pe_tup (pa_cons (pv 5) (pa_cons (pv 4) (pa_cons (pv 3) pa_nil)))) (pa_cons (pv 1) pa_nil))) pa_nil)))))))))
      (pss_one (ps_ret (pv 2)))), ?_⟩
    refine ⟨Nat.zero_le _, fun l hl => ?_⟩
    have s0 : Same H (upd H l (.lst [])) := Same.upd hl
    have hl0 : (upd H l (.lst [])) l = some (.lst (vN (gz y bw bd 0))) := upd_same
    generalize upd H l (.lst []) = H0 at s0 hl0
    have cor : ∀ {H' : Hp}, Same H H' → H' pc = some (.lst [.int (y.x : Nat), .int (y.y : Nat), .int (y.z : Nat)]) := fun s => s _ _ hpc
    have siz : ∀ {H' : Hp}, Same H H' → H' qc = some (.lst [.int (y.w : Nat), .int (y.d : Nat), .int (y.h : Nat)]) := fun s => s _ _ hqc
    refine ⟨_, rfl, c, CC, dc, _, _, rfl, s0 _ _ hc, C.cC, C.cCorner, fC_corner, pc, _, _, V.int (y.z : Nat), rfl, rfl, SqL.of (cor s0), atI_nat (j := 2) rfl,
      _, rfl, c, CC, dc, _, _, rfl, s0 _ _ hc, C.cC, C.cCorner, fC_corner, pc, _, _, V.int (y.z : Nat), rfl, rfl, SqL.of (cor s0), atI_nat (j := 2) rfl,
      _, rfl, c, CC, dc, _, _, rfl, s0 _ _ hc, C.cC, C.cSize, fC_size, qc, _, _, V.int (y.h : Nat), rfl, rfl, SqL.of (siz s0), atI_nat (j := 2) rfl, _, _, rfl, rfl, ?_⟩
    refine ⟨_, _, rfl, ⟨by omega, by omega, by omega, by omega⟩, for_range (n := ((y.z : Int) + (y.h : Nat) - (y.z : Nat)).toNat) (fun i σ H' => ∃ v3 v4 v5 : Option V, σ = [some (.ref c), some (.ref pb), some (.ref l), v3, v4, v5] ∧ Same H H' ∧ H' l = some (.lst (vN (gz y bw bd i)))) ⟨none, none, none, rfl, s0, hl0⟩ ?_ ?_⟩
    · rintro k1 σ H1 hk1 ⟨v3, v4, v5, rfl, s1, hl1⟩
      have hk1 : k1 < y.h := by omega
      refine ⟨_, rfl, c, CC, dc, _, _, rfl, s1 _ _ hc, C.cC, C.cCorner, fC_corner, pc, _, _, V.int (y.y : Nat), rfl, rfl, SqL.of (cor s1), atI_nat (j := 1) rfl,
        _, rfl, c, CC, dc, _, _, rfl, s1 _ _ hc, C.cC, C.cCorner, fC_corner, pc, _, _, V.int (y.y : Nat), rfl, rfl, SqL.of (cor s1), atI_nat (j := 1) rfl,
        _, rfl, c, CC, dc, _, _, rfl, s1 _ _ hc, C.cC, C.cSize, fC_size, qc, _, _, V.int (y.d : Nat), rfl, rfl, SqL.of (siz s1), atI_nat (j := 1) rfl, _, _, rfl, rfl, ?_⟩
      refine ⟨_, _, rfl, ⟨by omega, by omega, by omega, by omega⟩, for_range (n := ((y.y : Int) + (y.d : Nat) - (y.y : Nat)).toNat) (fun i σ H' => ∃ v4 v5 : Option V, σ = [some (.ref c), some (.ref pb), some (.ref l), some (.int ((y.z : Nat) + (k1 : Nat))), v4, v5] ∧ Same H H' ∧ H' l = some (.lst (vN (gz y bw bd k1 ++ gy y bw bd k1 i)))) ⟨_, _, rfl, s1, by rw [show gy y bw bd k1 0 = [] from rfl, List.append_nil]; exact hl1⟩ ?_ ?_⟩
      · rintro j1 σ H2 hj1 ⟨v4, v5, rfl, s2, hl2⟩
        have hj1 : j1 < y.d := by omega
        refine ⟨_, rfl, c, CC, dc, _, _, rfl, s2 _ _ hc, C.cC, C.cCorner, fC_corner, pc, _, _, V.int (y.x : Nat), rfl, rfl, SqL.of (cor s2), atI_nat (j := 0) rfl,
          _, rfl, c, CC, dc, _, _, rfl, s2 _ _ hc, C.cC, C.cCorner, fC_corner, pc, _, _, V.int (y.x : Nat), rfl, rfl, SqL.of (cor s2), atI_nat (j := 0) rfl,
          _, rfl, c, CC, dc, _, _, rfl, s2 _ _ hc, C.cC, C.cSize, fC_size, qc, _, _, V.int (y.w : Nat), rfl, rfl, SqL.of (siz s2), atI_nat (j := 0) rfl, _, _, rfl, rfl, ?_⟩
        refine ⟨_, _, rfl, ⟨by omega, by omega, by omega, by omega⟩, for_range (n := ((y.x : Int) + (y.w : Nat) - (y.x : Nat)).toNat) (fun i σ H' => ∃ v5 : Option V, σ = [some (.ref c), some (.ref pb), some (.ref l), some (.int ((y.z : Nat) + (k1 : Nat))), some (.int ((y.y : Nat) + (j1 : Nat))), v5] ∧ Same H H' ∧ H' l = some (.lst (vN (gz y bw bd k1 ++ gy y bw bd k1 j1 ++ gx y bw bd k1 j1 i)))) ⟨_, rfl, s2, by rw [show gx y bw bd k1 j1 0 = [] from rfl, List.append_nil]; exact hl2⟩ ?_ ?_⟩
        · rintro i1 σ H3 hi1 ⟨v5, rfl, s3, hl3⟩
          have hi1 : i1 < y.w := by omega
          refine ⟨_, rfl, .inl ⟨rfl, _, SqL.of hl3⟩, _, rfl, _, rfl, _, rfl, by show 3 ≤ sizeLine; decide, fun t ht => ?_⟩
          have s4 : Same H3 (upd H3 t (.tup [.int ((y.x : Nat) + (i1 : Nat)), .int ((y.y : Nat) + (j1 : Nat)), .int ((y.z : Nat) + (k1 : Nat))])) := Same.upd ht
          have ht4 : (upd H3 t (.tup [.int ((y.x : Nat) + (i1 : Nat)), .int ((y.y : Nat) + (j1 : Nat)), .int ((y.z : Nat) + (k1 : Nat))])) t = some (.tup [.int ((y.x : Nat) + (i1 : Nat)), .int ((y.y : Nat) + (j1 : Nat)), .int ((y.z : Nat) + (k1 : Nat))]) := upd_same
          generalize upd H3 t (.tup [.int ((y.x : Nat) + (i1 : Nat)), .int ((y.y : Nat) + (j1 : Nat)), .int ((y.z : Nat) + (k1 : Nat))]) = H4 at s4 ht4
          refine ⟨_, rfl, t, pb, _, _, _, bw, bd, bh, rfl, SqT.of ht4, (s3.trans s4) _ _ hpb, S7, S8, _, rfl, ?_⟩
          refine ⟨l, _, _, rfl, rfl, s4 _ _ hl3, ?_, ?_⟩
          · rw [vN_len]
            exact small20000 (S.len hk1 hj1 hi1)
          · refine ⟨_, rfl, (s3.trans s4).upd2 hl, ?_⟩
            rw [upd_same, gx_succ, ← List.append_assoc, vN_append (_ ++ gx y bw bd k1 j1 i1)]
            refine congrArg (fun q => some (HO.lst (_ ++ [V.int q]))) ?_
            push_cast
            rfl
        · rintro σ H3 ⟨v5, rfl, s3, hl3⟩
          rw [show ((y.x : Int) + (y.w : Nat) - (y.x : Nat)).toNat = y.w by omega, List.append_assoc, ← gy_succ] at hl3
          exact ⟨_, _, rfl, s3, hl3⟩
      · rintro σ H2 ⟨v4, v5, rfl, s2, hl2⟩
        rw [show ((y.y : Int) + (y.d : Nat) - (y.y : Nat)).toNat = y.d by omega, ← gz_succ] at hl2
        exact ⟨_, _, _, rfl, s2, hl2⟩
    · rintro σ H1 ⟨v3, v4, v5, rfl, s1, hl1⟩
      rw [show ((y.z : Int) + (y.h : Nat) - (y.z : Nat)).toNat = y.h by omega, gz_all] at hl1
      exact ⟨_, rfl, k H1 l s1 hl hl1⟩
theorem sc_cells_of : FnScope ["block", "cuts", "cells", "cut", "place"] ["block", "cuts"] (defScope s_cells_of) := ⟨rfl, rfl, rfl, by decide +kernel, rfl, by decide +kernel, by decide +kernel⟩
theorem ok_cells_of {f : Addr} {fd : FuncData} (F : Fun K "cells_of" "cells_of" s_cells_of f fd) (T : Txt mg) (C : CTxt K CB CC CR) (L : LTxt K CL) (mL : Maker P w K mg base 1 "Cells" CL ["self", "size"] (spCellsI CL)) (cP : Callee P w K mg base 2 "places_of" ["cut", "size"] (spPlaces CC)) :
    FnOk P w K mg base CX0 3 f fd ["block", "cuts"] (spCells CB CC CL) := by
  refine F.ok sc_cells_of (fun vs H Q E h => ?_) (fun cdv A outer s H vs Q E hr h => ?_)
  · obtain ⟨b, lc, cs, bs, n, w, d, h, g, rfl, _⟩ := h
    rfl
  · obtain ⟨b, lc, cs, bs, nm, bw, bd, bh, g, rfl, ⟨db, qb, pb, hb, hqb, hpb⟩, hlc, hcs, hw, hd, hh, hin, k⟩ := h
    refine ⟨_, pss_cons (ps_set (i := 2) sc_cells_of.nd rfl (Or.inl rfl) (pe_new mL (hr.mono (by decide)) (pa_cons (pe_fld (pv 0) rfl) pa_nil)))
      (pss_cons (ps_for PassesOwn.never rfl (pi_list (pv 1)) (pg_name (i := 3) sc_cells_of.nd rfl (Or.inl rfl))
        (pss_one (ps_for PassesOwn.never rfl (pi_list (pe_fn cP hr (pa_cons (pv 3) (pa_cons (pe_fld (pv 0) rfl) pa_nil)))) (pg_name (i := 4) sc_cells_of.nd rfl (Or.inl rfl))
          (pss_one (ps_asg pe_int (pg_sub (pe_fld (pv 2) rfl) (pv 4) set_list))))))
      (pss_one (ps_ret (pv 2)))), ?_⟩
    refine ⟨_, rfl, b, CB, db, _, _, rfl, hb, C.cB, C.bSize, fB_size, fun c dx hx hdx ndx => ?_⟩
    have sU : Same H (upd (upd H dx (.own c)) c (.ins CL dx [])) := Same.made (C := CL) hx hdx fun b o e _ => e
    refine ⟨c, dx, pb, bw, bd, bh, rfl, upd_same, sU _ _ hpb, hw, hd, hh, fun H1 q hq hc1 hq1 kp => ⟨rfl, ?_⟩⟩
    have s1 : Same H H1 := Same.made hx hdx kp
    have hqH : H q = none := sU.free hq
    have ncq : c ≠ q := ne_of hc1 hq1 (by intro z; cases z)
    have hq1 : H1 q = some (.lst (vN (wipeB bw bd (bs.take 0) (List.replicate (bw * bd * bh) 1)))) := hq1
    refine ⟨_, rfl, lc, rfl, ⟨_, SqL.of (s1 _ _ hlc)⟩, for_list (K := K) (a := lc) (xs := cs.map V.ref) (fun i σ H' => ∃ v3 v4 : Option V, σ = [some (.ref b), some (.ref lc), some (.ref c), v3, v4] ∧ Same H H' ∧ H' c = some (.ins CL dx (fL pb q)) ∧ H' q = some (.lst (vN (wipeB bw bd (bs.take i) (List.replicate (bw * bd * bh) 1))))) ⟨none, none, rfl, s1, hc1, hq1⟩ (fun i σ H' _ ⟨_, _, _, s, _⟩ => SqL.of (s _ _ hlc)) ?_ ?_⟩
    · rintro i v σ H3 hv ⟨v3, v4, rfl, s3, hc3, hq3⟩
      obtain ⟨cu, hcu, rfl⟩ := map_ref hv
      obtain ⟨x, hxx, ⟨hcut, _, _⟩⟩ := paired_get hcs hcu
      rw [List.getElem?_map] at hxx
      cases ey : bs[i]? with
      | none => rw [ey] at hxx; cases hxx
      | some y =>
        rw [ey] at hxx
        have ex : box2 y = x := Option.some.inj hxx
        subst ex
        have hy := hin y (List.mem_of_getElem? ey)
        refine ⟨_, rfl, _, rfl, b, CB, db, _, _, rfl, s3 _ _ hb, C.cB, C.bSize, fB_size, cu, pb, y, bw, bd, bh, rfl, CutAt.same hcut s3, s3 _ _ hpb, hy.small hw hd hh, fun H4 l s4 hl hl4 => ?_⟩
        have s34 := s3.trans s4
        have nl : q ≠ l := ne_of_none hq3 hl
        have hlen : (wipeB bw bd (bs.take i) (List.replicate (bw * bd * bh) 1)).length = bw * bd * bh := by
          rw [cells_len, List.length_replicate]
        refine ⟨l, rfl, ⟨_, SqL.of hl4⟩, for_list (K := K) (a := l) (xs := vN (placesF y bw bd)) (fun j σ H' => ∃ v4 : Option V, σ = [some (.ref b), some (.ref lc), some (.ref c), some (.ref cu), v4] ∧ Same H H' ∧ H' c = some (.ins CL dx (fL pb q)) ∧ H' l = some (.lst (vN (placesF y bw bd))) ∧ H' q = some (.lst (vN (wipeP ((placesF y bw bd).take j) (wipeB bw bd (bs.take i) (List.replicate (bw * bd * bh) 1)))))) ⟨v4, rfl, s34, s4 _ _ hc3, hl4, s4 _ _ hq3⟩ (fun j σ H' _ ⟨_, _, _, _, z, _⟩ => SqL.of z) ?_ ?_⟩
        · rintro j v σ H5 hv ⟨v5, rfl, s5, hc5, hl5, hq5⟩
          obtain ⟨n, hn, rfl⟩ := vN_get hv
          have hm := ((mem_placesF hy).mp (List.mem_of_getElem? hn)).1
          refine ⟨_, rfl, c, CL, dx, _, _, rfl, hc5, L.cls, L.marks, fL_marks, _, rfl, q, _, _, n, rfl, rfl, hq5, ixN_of ?_, ?_⟩
          · rw [vN_len, set_fold_len, hlen]
            exact hm
          · refine ⟨_, rfl, s5.upd2 hqH, (by rw [upd_ne ncq]; exact hc5), (by rw [upd_ne nl.symm]; exact hl5), ?_⟩
            rw [upd_same, take_snoc hn, wipeP_snoc]
            exact congrArg (fun q => some (HO.lst q)) (vN_set _ n 0)
        · rintro σ H5 ⟨v5, rfl, s5, hc5, hl5, hq5⟩
          rw [vN_len, List.take_length] at hq5
          refine ⟨_, _, rfl, s5, hc5, ?_⟩
          rw [take_snoc ey, wipeB_snoc]
          exact hq5
    · rintro σ H3 ⟨v3, v4, rfl, s3, hc3, hq3⟩
      have hlb : cs.length = bs.length := by
        have := Paired.length hcs
        rw [List.length_map] at this
        exact this
      rw [List.length_map, hlb, List.take_length] at hq3
      exact ⟨_, rfl, k H3 c s3 hx ⟨dx, pb, q, hc3, s3 _ _ hpb, hq3⟩⟩
end
end Cut
end
section
set_option Elab.async false
set_option linter.all false
set_option maxRecDepth 100000
set_option maxHeartbeats 4000000
namespace Cut
open PySem PySem.Spec PyProof.Rows L2
open PySem.W (Codec)
open Jo (Part Box)
/-- the cells, ready to be called -/
structure Cels (P : Program) (w : World) (K : PySem.W.Frag) (mg : Str → Option Value) (base : Heap) (CB CC CR CL : Addr) : Prop where
  txt : LTxt K CL
  place : Callee P w K mg base 1 "place_at" ["spot", "size"] (spPlaceAt K)
  cells : Callee P w K mg base 3 "cells_of" ["block", "cuts"] (spCells CB CC CL)
theorem cels_of {P : Program} {w : World} {K : PySem.W.Frag} {h base : Heap} {mg : Str → Option Value} {CB CC CR CL : Addr} (X : K.In h) (G : h.Ns mainGlobals mg) (R : Reads P w K mg base CB CC CR) (iL : ClsIn K "Cells" "Cells.__init__" s_Cells_init CL) (iS : NoAttr K CL "size") (iM : NoAttr K CL "marks")
    (i1 : FnIn K "cells_of" s_cells_of) (i2 : FnIn K "places_of" s_places_of) (i3 : FnIn K "place_at" s_place_at) : Cels P w K mg base CB CC CR CL := by
  have L : LTxt K CL := ⟨iL.cls, iS, iM⟩
  have mL : Maker P w K mg base 1 "Cells" CL ["self", "size"] (spCellsI CL) := iL.maker X G (fun _ _ F => F.binds fun _ _ _ _ _ _ us hl => match us, hl with | [_, _], _ => rfl) fun _ _ F => ok_Cells_init F L
  have cA : Callee P w K mg base 1 "place_at" ["spot", "size"] (spPlaceAt K) := i3.callee X G (fun _ _ F => F.binds fun _ _ _ _ _ _ us hl => match us, hl with | [_, _], _ => rfl) fun _ _ F => ok_place_at F
  have cP : Callee P w K mg base 2 "places_of" ["cut", "size"] (spPlaces CC) := i2.callee X G (fun _ _ F => F.binds fun _ _ _ _ _ _ us hl => match us, hl with | [_, _], _ => rfl) fun _ _ F => ok_places_of F R.txt R.cls cA
  exact ⟨L, cA, i1.callee X G (fun _ _ F => F.binds fun _ _ _ _ _ _ us hl => match us, hl with | [_, _], _ => rfl) fun _ _ F => ok_cells_of F R.txt R.cls L mL cP⟩
end Cut
end
section
set_option Elab.async false
set_option linter.all false
set_option maxRecDepth 100000
set_option maxHeartbeats 4000000
namespace Cut
open PySem PySem.Spec PyProof.Rows L2
open PySem.W (Codec)
open Jo (Part Box)
def spOn (K : PySem.W.Frag) : Sp := fun vs H Q _ => ∃ (t p : Addr) (x y z : Int) (w d h : Nat), vs = [.ref t, .ref p] ∧ SqT K H t [.int x, .int y, .int z] ∧ H p = some (.lst (vN [w, d, h])) ∧ ∀ H', Same H H' → Q (.bl (onF x y z w d h)) H'
def spMark (K : PySem.W.Frag) (CL : Addr) : Sp := fun vs H Q _ => ∃ (t c : Addr) (x y z : Int) (w d h : Nat) (m : List Nat), vs = [.ref t, .ref c] ∧ SqT K H t [.int x, .int y, .int z] ∧ CelAt CL H c [w, d, h] m ∧ w ≤ 16 ∧ d ≤ 16 ∧ m.length = w * d * h ∧ ∀ H', Same H H' → Q (.int ((markF x y z w d h m : Nat) : Int)) H'
section
variable {P : Program} {w : World} {K : PySem.W.Frag} {mg : Str → Option Value} {base : Heap} {CB CC CR CL : Addr}
theorem sc_is_on_block : FnScope ["spot", "size", "at", "limit"] ["spot", "size"] (defScope s_is_on_block) := ⟨rfl, rfl, rfl, by decide +kernel, rfl, by decide +kernel, by decide +kernel⟩
theorem ok_is_on_block {f : Addr} {fd : FuncData} (F : Fun K "is_on_block" "is_on_block" s_is_on_block f fd) (T : Txt mg) : FnOk P w K mg base CX0 1 f fd ["spot", "size"] (spOn K) := by
  refine F.ok sc_is_on_block (fun vs H Q E h => ?_) (fun cdv A outer s H vs Q E hr h => ?_)
  · obtain ⟨t, p, x, y, z, w, d, h, rfl, _⟩ := h
    rfl
  · obtain ⟨t, p, x, y, z, bw, bd, bh, rfl, ht, hp, k⟩ := h
    refine ⟨_, pss_one (ps_ret (pe_callB (cr_all rfl) rfl T.all boot_all (pa_cons (pe_lc rfl sc_is_on_block.nd (pi_zip2 .t .l rfl T.zip (pa_cons (pv 0) (pa_cons (pv 1) pa_nil))) (blkOk_by (own := [("at", 2), ("limit", 3)]) (by show blkC ["spot", "size", "at", "limit"] (defScope s_is_on_block) _ _ = true; decide +kernel))
      (fun _ _ _ _ _ => pg_tupB (K := K) (n := 2) rfl rfl (pgs_cons (pg_name (i := 2) sc_is_on_block.nd rfl (Or.inl rfl)) (pgs_cons (pg_name (i := 3) sc_is_on_block.nd rfl (Or.inl rfl)) pgs_nil))) (fun _ _ _ _ _ => pts_nil) (fun _ _ _ _ _ => pe_chain op_le op_lt pe_int (pv 2) (pv 3))) pa_nil))), ?_⟩
    refine ⟨_, rfl, _, rfl, t, p, _, _, rfl, ht, SqL.of hp, fun D hD => ?_⟩
    refine lc_zip2 (K := K) (k := .t) (k2 := .l) (a := t) (b := p) (xs := [.int x, .int y, .int z]) (ys := vN [bw, bd, bh]) (fun i H' => Same H H' ∧ H' D = some (.lst (([inR x bw, inR y bd, inR z bh].take i).map V.bl))) rfl ⟨Same.upd hD, upd_same⟩ (fun i H' _ q => ⟨Same.seqT q.1 ht, SqL.of (q.1 _ _ hp)⟩) ?_ ?_
    · rintro i u v H' T' hu hv ⟨s1, hq⟩ hT
      obtain ⟨a, n, rfl, rfl, hi⟩ := three_get hu hv
      have s2 : Same H' (upd H' T' (.tup [.int a, .int (n : Nat)])) := Same.upd hT
      have hT2 : (upd H' T' (.tup [.int a, .int (n : Nat)])) T' = some (.tup [.int a, .int (n : Nat)]) := upd_same
      generalize upd H' T' (.tup [.int a, .int (n : Nat)]) = H2 at s2 hT2
      refine ⟨T', _, rfl, SqT.of hT2, rfl, _, _, rfl, _, _, rfl, rfl, rfl, ?_⟩
      have fin : ∀ b : Bool, b = inR a n → ∃ acc, H2 D = some (.lst acc) ∧ acc.length < sizeLine ∧ (Same H (upd H2 D (.lst (acc ++ [V.bl b]))) ∧ upd H2 D (.lst (acc ++ [V.bl b])) D = some (.lst (([inR x bw, inR y bd, inR z bh].take (i + 1)).map V.bl))) := fun b hb => by
        subst hb
        refine ⟨_, s2 _ _ hq, ?_, (s1.trans s2).upd2 hD, ?_⟩
        · rw [List.length_map, List.length_take]
          exact small20000 (by show min i 3 ≤ 20000; omega)
        · rw [upd_same, take_snoc hi, List.map_append]
          rfl
      refine ⟨_, rfl, _, _, rfl, rfl, _, rfl, iteB (fun e => ?_) fun e => ?_⟩
      · refine ⟨_, rfl, _, _, rfl, rfl, fin _ ?_⟩
        unfold inR
        rw [show decide (0 ≤ a) = true from e, Bool.true_and]
      · refine fin false ?_
        unfold inR
        rw [show decide (0 ≤ a) = false from e, Bool.false_and]
    · rintro H' ⟨s1, hq⟩
      exact ⟨D, _, rfl, SqL.of hq, k H' s1⟩
theorem sc_mark_at : FnScope ["spot", "cells"] ["spot", "cells"] (defScope s_mark_at) := ⟨rfl, rfl, rfl, by decide +kernel, rfl, by decide +kernel, by decide +kernel⟩
theorem ok_mark_at {f : Addr} {fd : FuncData} (F : Fun K "mark_at" "mark_at" s_mark_at f fd) (L : LTxt K CL) (cA : Callee P w K mg base 1 "place_at" ["spot", "size"] (spPlaceAt K)) (cO : Callee P w K mg base 1 "is_on_block" ["spot", "size"] (spOn K)) : FnOk P w K mg base CX0 2 f fd ["spot", "cells"] (spMark K CL) := by
  refine F.ok sc_mark_at (fun vs H Q E h => ?_) (fun cdv A outer s H vs Q E hr h => ?_)
  · obtain ⟨t, c, x, y, z, w, d, h, m, rfl, _⟩ := h
    rfl
  · obtain ⟨t, c, x, y, z, bw, bd, bh, m, rfl, ht, ⟨dl, p, q, hc, hp, hq⟩, hw, hd, hm, k⟩ := h
    have hr1 : Room 1 _ := hr.mono (by decide)
    refine ⟨_, pss_cons (ps_if (pt_not (pt_val (pe_fn cO hr1 (pa_cons (pv 0) (pa_cons (pe_fld (pv 1) rfl) pa_nil))))) (pss_one (ps_ret pe_int)) pss_nil)
      (pss_one (ps_ret (pe_ix ix_list (pe_fld (pv 1) rfl) (pe_fn cA hr1 (pa_cons (pv 0) (pa_cons (pe_fld (pv 1) rfl) pa_nil))) (fun _ _ => rfl)))), ?_⟩
    refine ⟨_, rfl, _, rfl, c, CL, dl, _, _, rfl, hc, L.cls, L.size, fL_size, t, p, x, y, z, bw, bd, bh, rfl, ht, hp, fun H1 s1 => ⟨_, rfl, ?_⟩⟩
    refine iteB (fun e => ?_) fun e => ?_
    · have e1 : onF x y z bw bd bh = false := by simpa using e
      have e2 : markF x y z bw bd bh m = 0 := by unfold markF; rw [e1]; rfl
      have qq := k H1 s1
      rw [e2] at qq
      exact qq
    · have e1 : onF x y z bw bd bh = true := by simpa using e
      obtain ⟨j, ej, hj, hg⟩ := mark_in e1 hm
      exact ⟨_, rfl, c, CL, dl, _, _, rfl, s1 _ _ hc, L.cls, L.marks, fL_marks, _, rfl, _, rfl, c, CL, dl, _, _, rfl, s1 _ _ hc, L.cls, L.size, fL_size, t, p, x, y, z, bw, bd, bh, rfl, Same.seqT s1 ht, s1 _ _ hp, hw, hd, _, ej, q, _, _, _, rfl, rfl, SqL.of (s1 _ _ hq), atI_nat hg, k H1 s1⟩
end
/-- marks, ready to be called -/
theorem mark_of {P : Program} {w : World} {K : PySem.W.Frag} {h base : Heap} {mg : Str → Option Value} {CB CC CR CL : Addr} (X : K.In h) (G : h.Ns mainGlobals mg) (R : Reads P w K mg base CB CC CR) (c : Cels P w K mg base CB CC CR CL) (i1 : FnIn K "mark_at" s_mark_at) (i2 : FnIn K "is_on_block" s_is_on_block) :
    Callee P w K mg base 2 "mark_at" ["spot", "cells"] (spMark K CL) := by
  have cO : Callee P w K mg base 1 "is_on_block" ["spot", "size"] (spOn K) := i2.callee X G (fun _ _ F => F.binds fun _ _ _ _ _ _ us hl => match us, hl with | [_, _], _ => rfl) fun _ _ F => ok_is_on_block F R.txt
  exact i1.callee X G (fun _ _ F => F.binds fun _ _ _ _ _ _ us hl => match us, hl with | [_, _], _ => rfl) fun _ _ F => ok_mark_at F c.txt c.place cO
end Cut
end
section
set_option Elab.async false
set_option linter.all false
set_option maxRecDepth 100000
set_option maxHeartbeats 4000000
namespace Cut
open PySem PySem.Spec PyProof.Rows L2
open PySem.W (Codec)
open Jo (Part Box)
def spSpotAt : Sp := fun vs H Q _ => ∃ (i : Nat) (p : Addr) (w d h : Nat), vs = [.int (i : Nat), .ref p] ∧ H p = some (.lst (vN [w, d, h])) ∧ 1 ≤ w ∧ w ≤ 16 ∧ 1 ≤ d ∧ d ≤ 16 ∧ ∀ (H' : Hp) (t : Addr), Same H H' → H t = none → H' t = some (.tup (spotV w d i)) → Q (.ref t) H'
def spBeside (K : PySem.W.Frag) : Sp := fun vs H Q _ => ∃ (t u : Addr) (x y z : Int) (v : Int × Int × Int), vs = [.ref t, .ref u] ∧ SqT K H t [.int x, .int y, .int z] ∧ SqT K H u (wV v) ∧ ∀ (H' : Hp) (q : Addr), Same H H' → H q = none → H' q = some (.tup [.int (x + v.1), .int (y + v.2.1), .int (z + v.2.2)]) → Q (.ref q) H'
theorem three_add {x y z : Int} {v : Int × Int × Int} : ∀ {i : Nat} {a b : V}, ([.int x, .int y, .int z] : List V)[i]? = some a → (wV v)[i]? = some b → ∃ (m n : Int), a = .int m ∧ b = .int n ∧ [x + v.1, y + v.2.1, z + v.2.2][i]? = some (m + n)
  | 0, a, b, ha, hb => ⟨_, _, (Option.some.inj ha).symm, (Option.some.inj hb).symm, rfl⟩
  | 1, a, b, ha, hb => ⟨_, _, (Option.some.inj ha).symm, (Option.some.inj hb).symm, rfl⟩
  | 2, a, b, ha, hb => ⟨_, _, (Option.some.inj ha).symm, (Option.some.inj hb).symm, rfl⟩
  | n + 3, a, b, ha, hb => by simp at ha
section
variable {P : Program} {w : World} {K : PySem.W.Frag} {mg : Str → Option Value} {base : Heap} {CB CC CR CL : Addr}
theorem sc_spot_at : FnScope ["place", "size", "row"] ["place", "size"] (defScope s_spot_at) := ⟨rfl, rfl, rfl, by decide +kernel, rfl, by decide +kernel, by decide +kernel⟩
theorem ok_spot_at {f : Addr} {fd : FuncData} (F : Fun K "spot_at" "spot_at" s_spot_at f fd) : FnOk P w K mg base CX0 1 f fd ["place", "size"] spSpotAt := by
  refine F.ok sc_spot_at (fun vs H Q E h => ?_) (fun cdv A outer s H vs Q E hr h => ?_)
  · obtain ⟨i, p, w, d, h, rfl, _⟩ := h
    rfl
  · obtain ⟨i, p, bw, bd, bh, rfl, hp, w1, w16, d1, d16, k⟩ := h
    have blk : H p = some (.lst [.int (bw : Nat), .int (bd : Nat), .int (bh : Nat)]) := hp
    refine ⟨_, pss_cons (ps_set (i := 2) sc_spot_at.nd rfl (Or.inl rfl) (pe_op op_fdiv (pv 0) (pe_ix ix_list (pv 1) pe_int (fun _ _ => rfl))))
      (pss_one (ps_ret (pe_tup (pa_cons (pe_op op_mod (pv 0) (pe_ix ix_list (pv 1) pe_int (fun _ _ => rfl))) (pa_cons (pe_op op_mod (pv 2) (pe_ix ix_list (pv 1) pe_int (fun _ _ => rfl))) (pa_cons (pe_op op_fdiv (pv 2) (pe_ix ix_list (pv 1) pe_int (fun _ _ => rfl))) pa_nil)))))), ?_⟩
    have c1 : (0 : Int) < (bw : Nat) ∧ ((bw : Nat) : Int) < 1073741824 := ⟨by omega, by omega⟩
    have c2 : (0 : Int) < (bd : Nat) ∧ ((bd : Nat) : Int) < 1073741824 := ⟨by omega, by omega⟩
    refine ⟨_, rfl, _, rfl, p, _, _, V.int (bw : Nat), rfl, rfl, SqL.of blk, atI_nat (j := 0) rfl, _, _, rfl, rfl, c1, ?_⟩
    refine ⟨_, rfl, _, rfl, p, _, _, V.int (bw : Nat), rfl, rfl, SqL.of blk, atI_nat (j := 0) rfl, _, _, rfl, rfl, c1.1, _, rfl, _, rfl, p, _, _, V.int (bd : Nat), rfl, rfl, SqL.of blk, atI_nat (j := 1) rfl, _, _, rfl, rfl, c2.1,
      _, rfl, _, rfl, p, _, _, V.int (bd : Nat), rfl, rfl, SqL.of blk, atI_nat (j := 1) rfl, _, _, rfl, rfl, c2, by show 3 ≤ sizeLine; decide, fun t ht => k _ t (Same.upd ht) ht ?_⟩
    rw [upd_same]
    show some (HO.tup [V.int ((i : Int) % (bw : Nat)), V.int ((i : Int) / (bw : Nat) % (bd : Nat)), V.int ((i : Int) / (bw : Nat) / (bd : Nat))]) = _
    unfold spotV
    rw [show (i : Int) / (bw : Nat) = ((i / bw : Nat) : Int) by simp, show (i : Int) % (bw : Nat) = ((i % bw : Nat) : Int) by simp, show ((i / bw : Nat) : Int) % (bd : Nat) = ((i / bw % bd : Nat) : Int) by simp, show ((i / bw : Nat) : Int) / (bd : Nat) = ((i / bw / bd : Nat) : Int) by simp, Nat.div_div_eq_div_mul]
theorem sc_spot_beside : FnScope ["spot", "way", "at", "step"] ["spot", "way"] (defScope s_spot_beside) := ⟨rfl, rfl, rfl, by decide +kernel, rfl, by decide +kernel, by decide +kernel⟩
theorem ok_spot_beside {f : Addr} {fd : FuncData} (F : Fun K "spot_beside" "spot_beside" s_spot_beside f fd) (T : Txt mg) : FnOk P w K mg base CX0 1 f fd ["spot", "way"] (spBeside K) := by
  refine F.ok sc_spot_beside (fun vs H Q E h => ?_) (fun cdv A outer s H vs Q E hr h => ?_)
  · obtain ⟨t, u, x, y, z, v, rfl, _⟩ := h
    rfl
  · obtain ⟨t, u, x, y, z, v, rfl, ht, hu, k⟩ := h
    refine ⟨_, pss_one (ps_ret (pe_callTy call_tuple_of rfl T.tuple PyProof.Rows.boot_tuple (pa_cons (pe_lc rfl sc_spot_beside.nd (pi_zip2 .t .t rfl T.zip (pa_cons (pv 0) (pa_cons (pv 1) pa_nil))) (blkOk_by (own := [("at", 2), ("step", 3)]) (by show blkC ["spot", "way", "at", "step"] (defScope s_spot_beside) _ _ = true; decide +kernel))
      (fun _ _ _ _ _ => pg_tupB (K := K) (n := 2) rfl rfl (pgs_cons (pg_name (i := 2) sc_spot_beside.nd rfl (Or.inl rfl)) (pgs_cons (pg_name (i := 3) sc_spot_beside.nd rfl (Or.inl rfl)) pgs_nil))) (fun _ _ _ _ _ => pts_nil) (fun _ _ _ _ _ => pe_op op_add (pv 2) (pv 3))) pa_nil))), ?_⟩
    refine ⟨_, rfl, _, rfl, t, u, _, _, rfl, ht, hu, fun D hD => ?_⟩
    refine lc_zip2 (K := K) (k := .t) (k2 := .t) (a := t) (b := u) (xs := [.int x, .int y, .int z]) (ys := wV v) (fun i H' => Same H H' ∧ H' D = some (.lst (([x + v.1, y + v.2.1, z + v.2.2].take i).map V.int))) rfl ⟨Same.upd hD, upd_same⟩ (fun i H' _ q => ⟨Same.seqT q.1 ht, Same.seqT q.1 hu⟩) ?_ ?_
    · rintro i a b H' T' ha hb ⟨s1, hq⟩ hT
      obtain ⟨m, n, rfl, rfl, hi⟩ := three_add ha hb
      have s2 : Same H' (upd H' T' (.tup [.int m, .int n])) := Same.upd hT
      have hT2 : (upd H' T' (.tup [.int m, .int n])) T' = some (.tup [.int m, .int n]) := upd_same
      generalize upd H' T' (.tup [.int m, .int n]) = H2 at s2 hT2
      refine ⟨T', _, rfl, SqT.of hT2, rfl, _, _, rfl, _, _, rfl, rfl, rfl, ?_⟩
      refine ⟨_, rfl, _, rfl, _, _, rfl, rfl, _, s2 _ _ hq, ?_, (s1.trans s2).upd2 hD, ?_⟩
      · rw [List.length_map, List.length_take]
        exact small20000 (by show min i 3 ≤ 20000; omega)
      · rw [upd_same, take_snoc hi, List.map_append]
        rfl
    · rintro H' ⟨s1, hq⟩
      exact ⟨D, _, rfl, .inl ⟨SqL.of hq, fun q hq' => k _ q (s1.upd2 (s1.free hq')) (s1.free hq') upd_same⟩⟩
end
theorem spot_of {P : Program} {w : World} {K : PySem.W.Frag} {h base : Heap} {mg : Str → Option Value} (X : K.In h) (G : h.Ns mainGlobals mg) (T : Txt mg) (i1 : FnIn K "spot_at" s_spot_at) (i2 : FnIn K "spot_beside" s_spot_beside) :
    Callee P w K mg base 1 "spot_at" ["place", "size"] spSpotAt ∧ Callee P w K mg base 1 "spot_beside" ["spot", "way"] (spBeside K) :=
  ⟨i1.callee X G (fun _ _ F => F.binds fun _ _ _ _ _ _ us hl => match us, hl with | [_, _], _ => rfl) fun _ _ F => ok_spot_at F,
   i2.callee X G (fun _ _ F => F.binds fun _ _ _ _ _ _ us hl => match us, hl with | [_, _], _ => rfl) fun _ _ F => ok_spot_beside F T⟩
end Cut
end
section
set_option Elab.async false
set_option linter.all false
set_option maxRecDepth 100000
set_option maxHeartbeats 4000000
namespace Cut
open PySem PySem.Spec PyProof.Rows L2
open PySem.W (Codec)
open Jo (Part Box)
def spBesides (CL : Addr) : Sp := fun vs H Q _ => ∃ (i : Nat) (c : Addr) (w d h : Nat) (m : List Nat), vs = [.int (i : Nat), .ref c] ∧ CelAt CL H c [w, d, h] m ∧ 1 ≤ w ∧ w ≤ 16 ∧ 1 ≤ d ∧ d ≤ 16 ∧ m.length = w * d * h ∧
  ∀ (H' : Hp) (l : Addr), Same H H' → H l = none → H' l = some (.lst (vN (nbF w d h m i))) → Q (.ref l) H'
def spNumP (CL : Addr) : Sp := fun vs H Q _ => ∃ (p : Part) (first k : Nat) (an c dl p0 q : Addr) (nu : List Int), vs = [.int (first : Nat), .int (k : Nat), .ref an, .ref c] ∧ GoodP p ∧ H c = some (.ins CL dl (fL p0 q)) ∧ H p0 = some (.lst (vN [p.w, p.d, p.h])) ∧ H q = some (.lst (vN (mkF p))) ∧ p0 ≠ an ∧ q ≠ an ∧
  H an = some (.lst (nu.map V.int)) ∧ nu.length = cnt p ∧ Hd p first ∧ (∀ j, Rch p first j → nu[j]? = some (-1)) ∧ ∀ (H' : Hp) (cur : List Int), Ke an H H' → H' an = some (.lst (cur.map V.int)) → FlI p first k nu cur [] none → Q .non H'
section
variable {P : Program} {w : World} {K : PySem.W.Frag} {mg : Str → Option Value} {base : Heap} {CB CC CR CL : Addr}
theorem sc_places_beside : FnScope ["place", "cells", "spot", "beside", "way", "other"] ["place", "cells"] (defScope s_places_beside) := ⟨rfl, rfl, rfl, by decide +kernel, rfl, by decide +kernel, by decide +kernel⟩
theorem ok_places_beside {aW : Addr} {ws : List Addr} {f : Addr} {fd : FuncData} (F : Fun K "places_beside" "places_beside" s_places_beside f fd) (L : LTxt K CL) (W : WaysAt K mg aW ws) (cS : Callee P w K mg base 1 "spot_at" ["place", "size"] spSpotAt) (cB : Callee P w K mg base 1 "spot_beside" ["spot", "way"] (spBeside K))
    (cA : Callee P w K mg base 1 "place_at" ["spot", "size"] (spPlaceAt K)) (cM : Callee P w K mg base 2 "mark_at" ["spot", "cells"] (spMark K CL)) : FnOk P w K mg base CX0 3 f fd ["place", "cells"] (spBesides CL) := by
  refine F.ok sc_places_beside (fun vs H Q E h => ?_) (fun cdv A outer s H vs Q E hr h => ?_)
  · obtain ⟨i, c, w, d, h, m, rfl, _⟩ := h
    rfl
  · obtain ⟨i, c, bw, bd, bh, m, rfl, ⟨dl, p0, q, hc, hp0, hq⟩, w1, w16, d1, d16, hm, k⟩ := h
    have hr1 : Room 1 _ := hr.mono (by decide)
    refine ⟨_, pss_cons (ps_set (i := 2) sc_places_beside.nd rfl (Or.inr rfl) (pe_fn cS hr1 (pa_cons (pv 0) (pa_cons (pe_fld (pv 1) rfl) pa_nil))))
      (pss_cons (ps_setLc (i := 3) rfl sc_places_beside.nd rfl rfl (sw_true rfl rfl rfl rfl) (pi_tup (pe_glob rfl W.mg (v := V.ref aW) rfl)) (blkOk_by (own := [("way", 4)]) (by show blkC ["place", "cells", "spot", "beside", "way", "other"] (defScope s_places_beside) _ _ = true; decide +kernel))
        (fun _ _ _ _ _ => pg_name (i := 4) sc_places_beside.nd rfl (Or.inl rfl)) (fun _ _ _ _ _ => pts_nil) (fun _ _ _ _ _ => pe_fn cB hr1 (pa_cons (pv 2) (pa_cons (pv 4) pa_nil))))
      (pss_one (ps_ret (pe_lc rfl sc_places_beside.nd (pi_list (pv 3)) (blkOk_by (own := [("other", 5)]) (by show blkC ["place", "cells", "spot", "beside", "way", "other"] (defScope s_places_beside) _ _ = true; decide +kernel))
        (fun _ _ _ _ _ => pg_name (i := 5) sc_places_beside.nd rfl (Or.inl rfl)) (fun _ _ _ _ _ => pts_one (pt_cmpR op_eq (pe_fn cM hr (pa_cons (pv 5) (pa_cons (pv 1) pa_nil))) pe_int (nomark _))) (fun _ _ _ _ _ => pe_fn cA hr1 (pa_cons (pv 5) (pa_cons (pe_fldB (K := K) rfl (pv 1) rfl) pa_nil))))))), ?_⟩
    refine ⟨_, rfl, _, rfl, c, CL, dl, _, _, rfl, hc, L.cls, L.size, fL_size, i, p0, bw, bd, bh, rfl, hp0, w1, w16, d1, d16, fun H1 t s1 ht ht1 => ?_⟩
    refine ⟨aW, rfl, ⟨_, W.top _⟩, fun D hD => ?_⟩
    refine lc_tup (K := K) (a := aW) (xs := ws.map V.ref) (fun n H' => Same H1 H' ∧ ∃ bs : List Addr, H' D = some (.lst (bs.map V.ref)) ∧ Paired (fun b (k : Nat) => H' b = some (.tup (besV bw bd i (wayV k)))) bs (List.range n)) ⟨Same.upd hD, [], upd_same, .nil⟩ (fun n H' _ _ => W.top _) ?_ ?_
    · rintro n y H' hy ⟨s2, bs, hD2, hbs⟩
      obtain ⟨u, hu, rfl⟩ := map_ref hy
      refine ⟨rfl, ?_⟩
      refine ⟨_, rfl, _, rfl, t, u, _, _, _, wayV n, rfl, SqT.of (s2 _ _ ht1), W.each _ n u hu, fun H3 q3 s3 hq3 hq33 => ?_⟩
      have hD3 := s3 _ _ hD2
      have hi : n < 6 := by
        have := (List.getElem?_eq_some_iff.mp hu).1
        rw [W.len] at this
        exact this
      refine ⟨_, hD3, ?_, (s2.trans s3).upd2 hD, bs ++ [q3], ?_, ?_⟩
      · rw [List.length_map, Paired.length hbs, List.length_range]
        exact small20000 (by omega)
      · rw [upd_same, List.map_append]
        rfl
      · rw [List.range_succ]
        have put : ∀ {b : Addr} {v : List V}, H3 b = some (.tup v) → ∀ o, (upd H3 D o) b = some (.tup v) := fun h o => by rw [upd_ne (ne_of h hD3 (by intro z; cases z))]; exact h
        exact Paired.snoc (Paired.imp' (fun b k e => put (s3 _ _ e) _) hbs) (put hq33 _)
    · rintro H2 ⟨s2, bs, hD2, hbs⟩
      rw [List.length_map, W.len] at hbs
      have s12 := s1.trans s2
      have hbl : bs.length = 6 := by rw [Paired.length hbs, List.length_range]
      refine ⟨_, rfl, D, rfl, ⟨_, SqL.of hD2⟩, fun E' hE => ?_⟩
      have hEH : H E' = none := s12.free hE
      refine lc_list (K := K) (a := D) (xs := bs.map V.ref) (fun n H' => Same H2 H' ∧ H' E' = some (.lst (vN (nbTo bw bd bh m i n)))) ⟨Same.upd hE, upd_same⟩ (fun n H' _ z => SqL.of (z.1 _ _ hD2)) ?_ ?_
      · rintro n y H' hy ⟨s3, hE3⟩
        obtain ⟨b, hb, rfl⟩ := map_ref hy
        obtain ⟨k', hk', hbk⟩ := paired_get hbs hb
        have hlt : n < 6 := by
          have := (List.getElem?_eq_some_iff.mp hb).1
          omega
        rw [List.getElem?_range hlt] at hk'
        have ek : n = k' := Option.some.inj hk'
        subst ek
        have s13 := s12.trans s3
        refine ⟨rfl, ?_⟩
        refine ⟨_, rfl, _, rfl, b, c, _, _, _, bw, bd, bh, m, rfl, SqT.of (s3 _ _ hbk), ⟨dl, p0, q, s13 _ _ hc, s13 _ _ hp0, s13 _ _ hq⟩, w16, d16, hm, fun H4 s4 => ?_⟩
        have s14 := s13.trans s4
        have hE4 := s4 _ _ hE3
        refine ⟨rfl, _, rfl, iteB (fun e => ?_) fun e => ?_⟩
        · have e1 : besideM bw bd bh m (wayV n) i = 1 := by
            have e2 := of_decide_eq_true e
            injection e2 with e2
            unfold besideM
            exact Int.ofNat.inj e2
          refine ⟨_, rfl, _, rfl, c, CL, dl, _, _, rfl, s14 _ _ hc, L.cls, L.size, fL_size, b, p0, _, _, _, bw, bd, bh, rfl, SqT.of (s4 _ _ (s3 _ _ hbk)), s14 _ _ hp0, w16, d16, _, pl_nat e1 hm, ?_⟩
          refine ⟨_, hE4, ?_, (s3.trans s4).upd2 hE, ?_⟩
          · rw [vN_len]
            have := nbTo_len bw bd bh m i n
            exact small20000 (by omega)
          · rw [upd_same, nbTo_succ, if_pos e1, vN_append]
            rfl
        · have e1 : ¬ besideM bw bd bh m (wayV n) i = 1 := fun z => of_decide_eq_false e (by
            show V.int ((besideM bw bd bh m (wayV n) i : Nat) : Int) = V.int 1
            rw [z]
            rfl)
          refine ⟨s3.trans s4, ?_⟩
          rw [nbTo_succ, if_neg e1, List.append_nil]
          exact hE4
      · rintro H3 ⟨s3, hE3⟩
        rw [List.length_map, hbl] at hE3
        exact k H3 E' (s12.trans s3) hEH hE3
theorem sc_number_piece : FnScope ["first", "number", "numbers", "cells", "waiting", "place", "other"] ["first", "number", "numbers", "cells"] (defScope s_number_piece) := ⟨rfl, rfl, rfl, by decide +kernel, rfl, by decide +kernel, by decide +kernel⟩
theorem ok_number_piece {f : Addr} {fd : FuncData} (F : Fun K "number_piece" "number_piece" s_number_piece f fd) (hNo : ∃ u, mg "NO_PIECE" = some (.int (-1) u)) (cBs : Callee P w K mg base 3 "places_beside" ["place", "cells"] (spBesides CL)) : FnOk P w K mg base CX0 4 f fd ["first", "number", "numbers", "cells"] (spNumP CL) := by
  refine F.ok sc_number_piece (fun vs H Q E h => ?_) (fun cdv A outer s H vs Q E hr h => ?_)
  · obtain ⟨p, first, k, an, c, dl, p0, q, nu, rfl, _⟩ := h
    rfl
  · obtain ⟨p, first, kk, an, c, dl, p0, q, nu, rfl, G, hc, hp0, hq, np0, nq, han, hnl, hf, hfree, k⟩ := h
    refine ⟨_, pss_cons (ps_asg (pv 1) (pg_sub (pv 2) (pv 0) set_list))
      (pss_cons (ps_set (i := 4) sc_number_piece.nd rfl (Or.inl rfl) (pe_lst (pa_cons (pv 0) pa_nil)))
      (pss_one (ps_while PassesOwn.never (pt_truth (pv 4) (fun _ => rfl))
        (pss_cons (ps_set (i := 5) sc_number_piece.nd rfl (Or.inl rfl) (pe_bm0 PySem.F.plainAttrs_list PySem.F.slot_list_pop PySem.F.type_list_pop mt_pop (pv 4)))
        (pss_one (ps_for PassesOwn.never rfl (pi_list (pe_fn cBs hr (pa_cons (pv 5) (pa_cons (pv 3) pa_nil)))) (pg_name (i := 6) sc_number_piece.nd rfl (Or.inl rfl))
          (pss_one (ps_if (pt_cmpR op_eq (pe_ix ix_list (pv 2) (pv 6) (fun _ _ => rfl)) (pe_const hNo) (nomark _))
            (pss_cons (ps_asg (pv 1) (pg_sub (pv 2) (pv 6) set_list))
            (pss_one (ps_expr (pe_bm PySem.F.plainAttrs_list PySem.F.slot_list_append PySem.F.type_list_append mt_append (pv 4) (pa_cons (pv 6) pa_nil))))) pss_nil)))))))), ?_⟩
    have ncan : c ≠ an := ne_of hc han (by intro z; cases z)
    refine ⟨_, rfl, _, rfl, _, rfl, an, _, _, first, rfl, rfl, han, ixN_of (by rw [List.length_map, hnl]; exact hf.1), ?_⟩
    rw [int_set]
    have k0 : Ke an H (upd H an (.lst ((nu.set first (kk : Int)).map V.int))) := (Ke.refl an H).put
    have h0 : (upd H an (.lst ((nu.set first (kk : Int)).map V.int))) an = some (.lst ((nu.set first (kk : Int)).map V.int)) := upd_same
    generalize upd H an (.lst ((nu.set first (kk : Int)).map V.int)) = H0 at k0 h0
    refine ⟨_, rfl, by show 1 ≤ sizeLine; decide, fun aw haw => ?_⟩
    have naw : an ≠ aw := ne_of_none h0 haw
    have hawH : H aw = none := by
      cases e : H aw with
      | none => rfl
      | some o => rw [k0 aw o e naw.symm] at haw; cases haw
    have k1 : Ke an H (upd H0 aw (.lst [V.int (first : Nat)])) := k0.put2 hawH
    have h1 : (upd H0 aw (.lst [V.int (first : Nat)])) an = some (.lst ((nu.set first (kk : Int)).map V.int)) := by rw [upd_ne naw]; exact h0
    have h1w : (upd H0 aw (.lst [V.int (first : Nat)])) aw = some (.lst (vN [first])) := upd_same
    generalize upd H0 aw (.lst [V.int (first : Nat)]) = H1 at k1 h1 h1w
    have hcnt := G.cnt
    refine ⟨WnP p first kk nu an c aw H, ⟨2 * negs (nu.set first (kk : Int)) + 1, nu.set first (kk : Int), [first], none, none, rfl, k1, h1, h1w, FlI.start hf hnl hfree, rfl, ?_⟩, ?_⟩
    · have := negs_le (nu.set first (kk : Int))
      rw [List.length_set, hnl] at this
      omega
    rintro m σ H2 ⟨cur, stk, v5, v6, rfl, k2, ha2, hw2, FL, hm, hm2⟩
    refine ⟨_, rfl, _, .inl ⟨_, SqL.of hw2, rfl⟩, ?_⟩
    refine iteB (fun e => ?_) fun e => ?_
    · have hne : stk ≠ [] := fun z => by
        subst z
        exact absurd e (by decide)
      obtain ⟨s', i, es⟩ : ∃ (s' : List Nat) (i : Nat), stk = s' ++ [i] := ⟨stk.dropLast, stk.getLast hne, (List.dropLast_concat_getLast hne).symm⟩
      subst es
      refine ⟨fun σ' H' => ∃ m', m' < m ∧ WnP p first kk nu an c aw H m' σ' H', fun _ _ h => h, ?_⟩
      have hir := FL.b i (by simp)
      refine ⟨_, rfl, .inl ⟨rfl, _, SqL.of hw2⟩, aw, _, V.int (i : Nat), rfl, rfl, hw2, ?_, ?_⟩
      · rw [vN_append, List.length_append]
        show (vN s' ++ [V.int (i : Nat)])[(vN s').length + 1 - 1]? = _
        rw [Nat.add_sub_cancel, List.getElem?_append_right (Nat.le_refl _), Nat.sub_self]
        rfl
      · have ed : (vN (s' ++ [i])).dropLast = vN s' := by
          rw [vN_append]
          show (vN s' ++ [V.int (i : Nat)]).dropLast = vN s'
          rw [List.dropLast_concat]
        rw [ed]
        have k3 : Ke an H (upd H2 aw (.lst (vN s'))) := k2.put2 hawH
        have ha3 : (upd H2 aw (.lst (vN s'))) an = some (.lst (cur.map V.int)) := by rw [upd_ne naw]; exact ha2
        have hw3 : (upd H2 aw (.lst (vN s'))) aw = some (.lst (vN s')) := upd_same
        generalize upd H2 aw (.lst (vN s')) = H3 at k3 ha3 hw3
        refine ⟨_, rfl, _, rfl, i, c, p.w, p.d, p.h, mkF p, rfl, ⟨dl, p0, q, k3 _ _ hc ncan, k3 _ _ hp0 np0, k3 _ _ hq nq⟩, G.w1, G.w16, G.d1, G.d16, mkF_len, fun H4 lo s4 hlo hlo4 => ?_⟩
        have nla : lo ≠ an := (ne_of_none ha3 hlo).symm
        have nlw : lo ≠ aw := (ne_of_none hw3 hlo).symm
        refine ⟨lo, rfl, ⟨_, SqL.of hlo4⟩, for_list (K := K) (a := lo) (xs := vN (nbF p.w p.d p.h (mkF p) i)) (fun t σ H' => ∃ (cur' : List Int) (stk' : List Nat) (v6 : Option V), σ = [some (.int (first : Nat)), some (.int (kk : Nat)), some (.ref an), some (.ref c), some (.ref aw), some (.int (i : Nat)), v6] ∧ Ke an H H' ∧ H' an = some (.lst (cur'.map V.int)) ∧ H' aw = some (.lst (vN stk')) ∧
          H' lo = some (.lst (vN (nbF p.w p.d p.h (mkF p) i))) ∧ FlI p first kk nu cur' stk' (some i) ∧ (∀ j ∈ (nbF p.w p.d p.h (mkF p) i).take t, cur'[j]? = some (kk : Int)) ∧ 2 * negs cur' + stk'.length + 1 ≤ m)
          ⟨cur, s', _, rfl, k3.same s4, s4 _ _ ha3, s4 _ _ hw3, hlo4, FL.pop, fun j hj => absurd hj (by simp), ?_⟩ (fun t σ H' _ ⟨_, _, _, _, _, _, _, z, _⟩ => SqL.of z) ?_ ?_⟩
        · rw [hm, List.length_append]
          show _ ≤ _ + (_ + 1)
          omega
        · rintro t v σ H5 hv ⟨cur', stk', v6, rfl, k5, ha5, hw5, hl5, F5, ht5, hm5⟩
          obtain ⟨j, hj, rfl⟩ := vN_get hv
          have hnb := (mem_nb G.w1 G.d1 G.ins).mp (List.mem_of_getElem? hj)
          have hrj : Rch p first j := hir.1.step hnb.1 hnb.2
          have et := take_snoc hj
          rcases F5.a1 j hrj with hval | hval
          · refine ⟨_, rfl, _, rfl, an, _, _, _, rfl, rfl, SqL.of ha5, atI_nat (int_get hval), rfl, _, rfl, iteB (fun z => ?_) fun _ => ?_⟩
            · exfalso
              have z2 := of_decide_eq_true z
              injection z2 with z2
              omega
            refine ⟨cur', stk', _, rfl, k5, ha5, hw5, hl5, F5, fun j' hj' => ?_, hm5⟩
            rw [et] at hj'
            rcases List.mem_append.mp hj' with z | z
            · exact ht5 j' z
            · rw [List.mem_singleton.mp z]
              exact hval
          · refine ⟨_, rfl, _, rfl, an, _, _, _, rfl, rfl, SqL.of ha5, atI_nat (int_get hval), rfl, _, rfl, iteB (fun _ => ?_) fun z => ?_⟩
            rotate_left
            · exact absurd rfl (of_decide_eq_false z)
            have hjl : j < cur'.length := (List.getElem?_eq_some_iff.mp hval).1
            refine ⟨_, rfl, _, rfl, _, rfl, an, _, _, j, rfl, rfl, ha5, ixN_of (by rw [List.length_map]; exact hjl), ?_⟩
            rw [int_set]
            have k6 : Ke an H (upd H5 an (.lst ((cur'.set j (kk : Int)).map V.int))) := k5.put
            have ha6 : (upd H5 an (.lst ((cur'.set j (kk : Int)).map V.int))) an = some (.lst ((cur'.set j (kk : Int)).map V.int)) := upd_same
            have hw6 : (upd H5 an (.lst ((cur'.set j (kk : Int)).map V.int))) aw = some (.lst (vN stk')) := by rw [upd_ne naw.symm]; exact hw5
            have hl6 : (upd H5 an (.lst ((cur'.set j (kk : Int)).map V.int))) lo = some (.lst (vN (nbF p.w p.d p.h (mkF p) i))) := by rw [upd_ne nla]; exact hl5
            generalize upd H5 an (.lst ((cur'.set j (kk : Int)).map V.int)) = H6 at k6 ha6 hw6 hl6
            refine ⟨_, rfl, .inl ⟨rfl, _, SqL.of hw6⟩, _, rfl, aw, _, _, rfl, rfl, hw6, ?_, ?_⟩
            · rw [vN_len]
              exact small20000 (by omega)
            · have hns := negs_set (k := kk) hval
              refine ⟨cur'.set j (kk : Int), stk' ++ [j], _, rfl, k6.put2 hawH, (by rw [upd_ne naw]; exact ha6), (by rw [upd_same, vN_append]; rfl), (by rw [upd_ne nlw]; exact hl6), F5.mark hrj hval, fun j' hj' => ?_, ?_⟩
              · rw [et] at hj'
                by_cases ej : j = j'
                · subst ej
                  exact List.getElem?_set_self hjl
                · rw [List.getElem?_set_ne ej]
                  rcases List.mem_append.mp hj' with z | z
                  · exact ht5 j' z
                  · exact absurd (List.mem_singleton.mp z).symm ej
              · rw [List.length_append]
                show _ + (_ + 1) + 1 ≤ _
                omega
        · rintro σ H5 ⟨cur', stk', v6, rfl, k5, ha5, hw5, hl5, F5, ht5, hm5⟩
          rw [vN_len, List.take_length] at ht5
          exact ⟨2 * negs cur' + stk'.length, by omega, cur', stk', _, _, rfl, k5, ha5, hw5, F5.done fun j h1 h2 => ht5 j ((mem_nb G.w1 G.d1 G.ins).mpr ⟨h1, h2⟩), rfl, by omega⟩
    · have hst : stk = [] := by
        cases stk with
        | nil => rfl
        | cons a b => exact absurd e (by simp [vN])
      subst hst
      exact k H2 cur k2 ha2 FL
end
end Cut
end
section
set_option Elab.async false
set_option linter.all false
set_option maxRecDepth 100000
set_option maxHeartbeats 4000000
namespace Cut
open PySem PySem.Spec PyProof.Rows L2
open PySem.W (Codec)
open Jo (Part Box)
def spJoined (CL : Addr) : Sp := fun vs H Q _ => ∃ (p : Part) (c : Addr), vs = [.ref c] ∧ GoodP p ∧ CelAt CL H c [p.w, p.d, p.h] (mkF p) ∧
  ∀ (H' : Hp) (lg : Addr) (gs : List Addr), Same H H' → H lg = none → H' lg = some (.lst (gs.map V.ref)) → Grp p.w p.d H' gs ((rootsTo p (cnt p)).map (compI p)) → Q (.ref lg) H'
theorem rep_neg (n : Nat) : (List.replicate n [V.int (-1)]).flatten = (List.replicate n (-1)).map V.int := by
  induction n with
  | zero => rfl
  | succ n ih =>
    rw [List.replicate_succ, List.flatten_cons, ih, List.replicate_succ]
    rfl
section
variable {P : Program} {w : World} {K : PySem.W.Frag} {mg : Str → Option Value} {base : Heap} {CB CC CR CL : Addr}
theorem sc_joined : FnScope ["cells", "numbers", "count", "place", "mark", "groups", "number"] ["cells"] (defScope s_joined) := ⟨rfl, rfl, rfl, by decide +kernel, rfl, by decide +kernel, by decide +kernel⟩
theorem ok_joined {f : Addr} {fd : FuncData} (F : Fun K "joined" "joined" s_joined f fd) (T : Txt mg) (L : LTxt K CL) (hNo : ∃ u, mg "NO_PIECE" = some (.int (-1) u)) (cS : Callee P w K mg base 1 "spot_at" ["place", "size"] spSpotAt) (cN : Callee P w K mg base 4 "number_piece" ["first", "number", "numbers", "cells"] (spNumP CL)) : FnOk P w K mg base CX0 5 f fd ["cells"] (spJoined CL) := by
  refine F.ok sc_joined (fun vs H Q E h => ?_) (fun cdv A outer s H vs Q E hr h => ?_)
  · obtain ⟨p, c, rfl, _⟩ := h
    rfl
  · obtain ⟨p, c, rfl, G, ⟨dl, p0, q, hc, hp0, hq⟩, k⟩ := h
    have hr1 : Room 1 _ := hr.mono (by decide)
    have hcnt := G.cnt
    refine ⟨_, pss_cons (ps_set (i := 1) sc_joined.nd rfl (Or.inl rfl) (pe_op op_rep (pe_lst (pa_cons (pe_const hNo) pa_nil)) (pe_callB call_len_seq rfl T.len boot_len (pa_cons (pe_fld (pv 0) rfl) pa_nil))))
      (pss_cons (ps_set (i := 2) sc_joined.nd rfl (Or.inl rfl) pe_int)
      (pss_cons (ps_for PassesOwn.never rfl (pi_enum rfl T.enumerate (pa_cons (pe_fld (pv 0) rfl) pa_nil)) (pg_tup rfl (pgs_cons (pg_name (i := 3) sc_joined.nd rfl (Or.inl rfl)) (pgs_cons (pg_name (i := 4) sc_joined.nd rfl (Or.inl rfl)) pgs_nil)))
        (pss_one (ps_if (PW.pt (pw_and (pt_cmpR op_eq (pv 4) pe_int (nomark _)) (pw_and1 (pt_cmpR op_eq (pe_ix ix_list (pv 1) (pv 3) (fun _ _ => rfl)) (pe_const hNo) (nomark _)))))
          (pss_cons (ps_expr (pe_fn cN hr (pa_cons (pv 3) (pa_cons (pv 2) (pa_cons (pv 1) (pa_cons (pv 0) pa_nil))))))
          (pss_one (ps_aug (i := 2) sc_joined.nd rfl (Or.inl rfl) pe_int ip_add))) pss_nil)))
      (pss_cons (ps_setLc (i := 5) rfl sc_joined.nd rfl rfl (sw_true rfl rfl rfl rfl) (pi_range1 rfl T.range (pa_cons (pv 2) pa_nil)) (blkOk_by (own := [("number", 6)]) (by show blkC ["cells", "numbers", "count", "place", "mark", "groups", "number"] (defScope s_joined) _ _ = true; decide +kernel))
        (fun _ _ _ _ _ => pg_name (i := 6) sc_joined.nd rfl (Or.inl rfl)) (fun _ _ _ _ _ => pts_nil) (fun _ _ _ _ _ => pe_lst pa_nil))
      (pss_cons (ps_for PassesOwn.never rfl (pi_enum rfl T.enumerate (pa_cons (pv 1) pa_nil)) (pg_tup rfl (pgs_cons (pg_name (i := 3) sc_joined.nd rfl (Or.inl rfl)) (pgs_cons (pg_name (i := 6) sc_joined.nd rfl (Or.inl rfl)) pgs_nil)))
        (pss_one (ps_if (pt_cmpR op_ne (pv 6) (pe_const hNo) (nomark _))
          (pss_one (ps_expr (pe_bm PySem.F.plainAttrs_list PySem.F.slot_list_append PySem.F.type_list_append mt_append (pe_ix ix_list (pv 5) (pv 6) (fun _ _ => rfl)) (pa_cons (pe_fn cS hr1 (pa_cons (pv 3) (pa_cons (pe_fld (pv 0) rfl) pa_nil))) pa_nil)))) pss_nil)))
      (pss_one (ps_ret (pv 5))))))), ?_⟩
    -- numbers = [NO_PIECE] * len(cells.marks)
    refine ⟨by show 1 ≤ sizeLine; decide, fun l1 hl1 => ?_⟩
    have s0 : Same H (upd H l1 (.lst [V.int (-1)])) := Same.upd hl1
    have h01 : (upd H l1 (.lst [V.int (-1)])) l1 = some (.lst [V.int (-1)]) := upd_same
    generalize upd H l1 (.lst [V.int (-1)]) = H0 at s0 h01
    have eN : (vN (mkF p)).length = cnt p := by rw [vN_len, mkF_len]
    refine ⟨_, rfl, c, CL, dl, _, _, rfl, s0 _ _ hc, L.cls, L.marks, fL_marks, q, _, rfl, .inl (SqL.of (s0 _ _ hq)), l1, _, _, rfl, rfl, h01, by rw [eN]; omega, by rw [eN]; omega, ?_, fun an han => ?_⟩
    · rw [Int.toNat_natCast, eN]
      show 1 * cnt p ≤ sizeLine
      exact Nat.le_of_lt (small20000 (by omega))
    rw [Int.toNat_natCast, eN, rep_neg]
    have hanH : H an = none := s0.free han
    have s1 : Same H (upd H0 an (.lst ((List.replicate (cnt p) (-1)).map V.int))) := s0.upd2 hanH
    have ha1 : (upd H0 an (.lst ((List.replicate (cnt p) (-1)).map V.int))) an = some (.lst ((List.replicate (cnt p) (-1)).map V.int)) := upd_same
    generalize upd H0 an (.lst ((List.replicate (cnt p) (-1)).map V.int)) = H1 at s1 ha1
    have np0 : p0 ≠ an := ne_of_none hp0 hanH
    have nq : q ≠ an := ne_of_none hq hanH
    -- the first walk
    refine ⟨_, rfl, c, CL, dl, _, _, rfl, s1 _ _ hc, L.cls, L.marks, fL_marks, q, _, rfl, SqL.of (s1 _ _ hq), ?_⟩
    refine for_enum (K := K) (a := q) (xs := vN (mkF p)) (fun i σ H' => ∃ (cur : List Int) (v3 v4 : Option V), σ = [some (.ref c), some (.ref an), some (.int (((rootsTo p i).length : Nat) : Int)), v3, v4, none, none] ∧ Same H H' ∧ H' an = some (.lst (cur.map V.int)) ∧ Nums p i cur) ⟨_, none, none, rfl, s1, ha1, Nums.start⟩ (fun i σ H' _ ⟨_, _, _, _, z, _⟩ => SqL.of (z _ _ hq)) ?_ ?_
    · rintro i v σ H2 T' hv ⟨cur, v3, v4, rfl, s2, ha2, N⟩ hT
      obtain ⟨n, hn, rfl⟩ := vN_get hv
      have hi : i < cnt p := by
        have := (List.getElem?_eq_some_iff.mp hn).1
        rw [mkF_len] at this
        exact this
      have hnb : n = bit (p.has (cellAt p.w p.d i)) := by
        have := mkF_get G.w1 G.d1 G.ins hi
        rw [hn] at this
        exact Option.some.inj this
      have s3 : Same H2 (upd H2 T' (.tup [.int (i : Nat), .int (n : Nat)])) := Same.upd hT
      have hT3 : (upd H2 T' (.tup [.int (i : Nat), .int (n : Nat)])) T' = some (.tup [.int (i : Nat), .int (n : Nat)]) := upd_same
      generalize upd H2 T' (.tup [.int (i : Nat), .int (n : Nat)]) = H3 at s3 hT3
      have s23 := s2.trans s3
      have ha3 := s3 _ _ ha2
      refine ⟨T', _, rfl, SqT.of hT3, rfl, _, _, rfl, _, _, rfl, rfl, ?_⟩
      have skip : ¬ Root p i → ∃ (cur : List Int) (v3' v4' : Option V), [some (V.ref c), some (V.ref an), some (V.int (((rootsTo p i).length : Nat) : Int)), some (V.int (i : Nat)), some (V.int (n : Nat)), none, none] = [some (V.ref c), some (V.ref an), some (V.int (((rootsTo p (i + 1)).length : Nat) : Int)), v3', v4', none, none] ∧ Same H H3 ∧ H3 an = some (.lst (cur.map V.int)) ∧ Nums p (i + 1) cur := fun hno => by
        have e : rootsTo p (i + 1) = rootsTo p i := by
          classical
          rw [rootsTo_succ, if_neg hno, List.append_nil]
        exact ⟨cur, _, _, by rw [e], s23, ha3, N.skip hno⟩
      have hcl : i < cur.length := by rw [N.len]; exact hi
      refine ⟨_, rfl, rfl, _, rfl, iteB (fun e => ?_) fun e => ?_⟩
      · have e1 : n = 1 := by
          have e2 := of_decide_eq_true e
          injection e2 with e2
          omega
        have hh : Hd p i := ⟨hi, bit_one.mp (hnb.symm.trans e1)⟩
        have hg : cur[i]? = some cur[i] := List.getElem?_eq_getElem hcl
        refine ⟨_, rfl, _, rfl, an, _, _, _, rfl, rfl, SqL.of ha3, atI_nat (int_get hg), rfl, _, rfl, iteB (fun e => ?_) fun e => ?_⟩
        · have e2 : cur[i] = -1 := by
            have e3 := of_decide_eq_true e
            injection e3 with e3
          rw [e2] at hg
          have hroot := (N.at hi hh).mp hg
          refine ⟨_, rfl, _, rfl, _, rfl, _, rfl, p, i, (rootsTo p i).length, an, c, dl, p0, q, cur, rfl, G, s23 _ _ hc, s23 _ _ hp0, s23 _ _ hq, np0, nq, ha3, N.len, hh, N.free hroot, fun H4 cur' k4 ha4 F4 => ?_⟩
          refine ⟨_, rfl, _, _, rfl, rfl, ?_⟩
          have e : rootsTo p (i + 1) = rootsTo p i ++ [i] := by
            classical
            rw [rootsTo_succ, if_pos hroot]
          refine ⟨cur', some (.int (i : Nat)), some (.int (n : Nat)), ?_, Same.ke s23 k4 hanH, ha4, N.next hroot F4⟩
          rw [e, List.length_append]
          rfl
        · have e2 : ¬ cur[i] = -1 := fun z => of_decide_eq_false e (by rw [z])
          exact skip fun hroot => e2 (by
            have := (N.at hi hh).mpr hroot
            rw [hg] at this
            exact Option.some.inj this)
      · have e1 : ¬ n = 1 := fun z => of_decide_eq_false e (by rw [z]; rfl)
        exact skip fun hroot => e1 (by rw [hnb, bit_one.mpr hroot.1.2])
    · rintro σ H2 ⟨cur, v3, v4, rfl, s2, ha2, N⟩
      rw [eN] at N ⊢
      -- groups = [[] for number in range(count)]
      have hrl := roots_len p (cnt p)
      refine ⟨_, rfl, _, rfl, by omega, by omega, fun lg hlg => ?_⟩
      have nal : an ≠ lg := ne_of_none ha2 hlg
      have hlgH : H lg = none := s2.free hlg
      refine lc_range (lo := 0) (n := (rootsTo p (cnt p)).length) (fun i H' => Same H2 H' ∧ ∃ gs : List Addr, gs.length = i ∧ H' lg = some (.lst (gs.map V.ref)) ∧ gs.Nodup ∧ ∀ g ∈ gs, H2 g = none ∧ g ≠ lg ∧ H' g = some (.lst [])) ⟨Same.upd hlg, [], rfl, upd_same, List.nodup_nil, fun g hg => absurd hg (by simp)⟩ ?_ ?_
      · rintro i H3 hi ⟨s3, gs, hl, hlg3, hnd, hgs⟩
        refine ⟨rfl, Nat.zero_le _, fun g hg => ?_⟩
        have ngl : lg ≠ g := ne_of_none hlg3 hg
        have hg2 : H2 g = none := s3.free hg
        refine ⟨_, (by rw [upd_ne ngl]; exact hlg3), ?_, (s3.upd2 hg2).upd2 hlg, gs ++ [g], by rw [List.length_append, hl]; rfl, ?_, ?_, ?_⟩
        · rw [List.length_map, hl]
          exact small20000 (by omega)
        · rw [upd_same, List.map_append]
          rfl
        · rw [List.nodup_append]
          refine ⟨hnd, by simp, fun a ha b hb => ?_⟩
          rw [List.mem_singleton.mp hb]
          intro z
          have := (hgs a ha).2.2
          rw [z, hg] at this
          cases this
        · intro g' hg'
          rcases List.mem_append.mp hg' with z | z
          · obtain ⟨a1, a2, a3⟩ := hgs g' z
            exact ⟨a1, a2, by rw [upd_ne a2, upd_ne (ne_of_none a3 hg)]; exact a3⟩
          · rw [List.mem_singleton.mp z]
            exact ⟨hg2, ngl.symm, by rw [upd_ne ngl.symm]; exact upd_same⟩
      · rintro H3 ⟨s3, gs, hl, hlg3, hnd, hgs⟩
        have s23 := s2.trans s3
        have hgH : ∀ g ∈ gs, H g = none := fun g hg => s2.free (hgs g hg).1
        have nag : ∀ g ∈ gs, an ≠ g := fun g hg => ne_of_none ha2 (hgs g hg).1
        have nlg : ∀ g ∈ gs, lg ≠ g := fun g hg => (hgs g hg).2.1.symm
        have G0 : Grp p.w p.d H3 gs ((rootsTo p (cnt p)).map fun r => compTo p r 0) := by
          refine ⟨by rw [hl, List.length_map], fun t g is h1 h2 => ?_⟩
          rw [List.getElem?_map] at h2
          cases er : (rootsTo p (cnt p))[t]? with
          | none => rw [er] at h2; cases h2
          | some r =>
            rw [er] at h2
            have e2 : compTo p r 0 = is := Option.some.inj h2
            subst e2
            exact ⟨[], (hgs g (List.mem_of_getElem? h1)).2.2, .nil⟩
        -- the second walk
        refine ⟨_, rfl, an, _, rfl, SqL.of (s3 _ _ ha2), ?_⟩
        refine for_enum (K := K) (a := an) (xs := cur.map V.int) (fun j σ H' => ∃ v3 v4 v6 : Option V, σ = [some (.ref c), some (.ref an), some (.int (((rootsTo p (cnt p)).length : Nat) : Int)), v3, v4, some (.ref lg), v6] ∧ Same H H' ∧ H' an = some (.lst (cur.map V.int)) ∧ H' lg = some (.lst (gs.map V.ref)) ∧ Grp p.w p.d H' gs ((rootsTo p (cnt p)).map fun r => compTo p r j))
          ⟨_, _, _, rfl, s23, s3 _ _ ha2, hlg3, G0⟩ (fun j σ H' _ ⟨_, _, _, _, _, z, _⟩ => SqL.of z) ?_ ?_
        · rintro j v σ H4 T' hv ⟨v3, v4, v6, rfl, s4, ha4, hlg4, G4⟩ hT
          obtain ⟨n, hn, rfl⟩ := map_int hv
          have hj : j < cnt p := by
            have := (List.getElem?_eq_some_iff.mp hn).1
            rw [N.len] at this
            exact this
          have s5 : Same H4 (upd H4 T' (.tup [.int (j : Nat), .int n])) := Same.upd hT
          have hT5 : (upd H4 T' (.tup [.int (j : Nat), .int n])) T' = some (.tup [.int (j : Nat), .int n]) := upd_same
          generalize upd H4 T' (.tup [.int (j : Nat), .int n]) = H5 at s5 hT5
          have s45 := s4.trans s5
          refine ⟨T', _, rfl, SqT.of hT5, rfl, _, _, rfl, _, _, rfl, rfl, ?_⟩
          refine ⟨_, rfl, rfl, _, rfl, ?_⟩
          rcases N.tells hj with ⟨hm1, hnone⟩ | ⟨t, r, ht, hr, hrj, huniq⟩
          · rw [hn] at hm1
            have en : n = -1 := Option.some.inj hm1
            refine iteB (fun e => ?_) fun e => ?_
            · rw [en] at e
              exact absurd e (by simp)
            · exact ⟨_, _, _, rfl, s45, s5 _ _ ha4, s5 _ _ hlg4, (G4.same s5).skip hnone⟩
          · rw [hn] at ht
            have en : n = (t : Int) := Option.some.inj ht
            subst en
            refine iteB (fun e => ?_) fun e => ?_
            · have htl : t < gs.length := by
                rw [hl]
                exact (List.getElem?_eq_some_iff.mp hr).1
              have hg : gs[t]? = some gs[t] := List.getElem?_eq_getElem htl
              have hgm : gs[t] ∈ gs := List.getElem_mem htl
              generalize gs[t] = g at hg hgm
              obtain ⟨ts, hts, hsp⟩ := (G4.same s5).each t g (compTo p r j) hg (by rw [List.getElem?_map, hr]; rfl)
              refine ⟨_, rfl, _, rfl, lg, _, _, V.ref g, rfl, rfl, SqL.of (s5 _ _ hlg4), atI_nat (by rw [List.getElem?_map, hg]; rfl), .inl ⟨rfl, _, SqL.of hts⟩, _, rfl, _, rfl, c, CL, dl, _, _, rfl, s45 _ _ hc, L.cls, L.size, fL_size, j, p0, p.w, p.d, p.h, rfl, s45 _ _ hp0, G.w1, G.w16, G.d1, G.d16, fun H6 tp s6 htp htp6 => ?_⟩
              refine ⟨g, _, _, rfl, rfl, s6 _ _ hts, ?_, ?_⟩
              · rw [List.length_map, Paired.length hsp]
                have := compTo_len p r j
                exact small20000 (by omega)
              · refine ⟨_, _, _, rfl, (s45.trans s6).upd2 (hgH g hgm), (by rw [upd_ne (nag g hgm)]; exact s6 _ _ (s5 _ _ ha4)), (by rw [upd_ne (nlg g hgm)]; exact s6 _ _ (s5 _ _ hlg4)), ?_⟩
                exact (G4.same (s5.trans s6)).put hnd hg hr hrj huniq (s6 _ _ hts) (hsp.same s6) htp6
            · exfalso
              have e1 : V.int (t : Int) = V.int (-1) := by simpa using e
              injection e1 with e1
              omega
        · rintro σ H4 ⟨v3, v4, v6, rfl, s4, ha4, hlg4, G4⟩
          rw [List.length_map, N.len] at G4
          exact ⟨_, rfl, k H4 lg gs s4 hlgH hlg4 G4⟩
end
/-- pieces, ready to be called -/
theorem joined_of {P : Program} {w : World} {K : PySem.W.Frag} {h base : Heap} {mg : Str → Option Value} {CB CC CR CL : Addr} (X : K.In h) (G : h.Ns mainGlobals mg) (R : Reads P w K mg base CB CC CR) (c : Cels P w K mg base CB CC CR CL) (cM : Callee P w K mg base 2 "mark_at" ["spot", "cells"] (spMark K CL))
    (i1 : FnIn K "spot_at" s_spot_at) (i2 : FnIn K "spot_beside" s_spot_beside) (i3 : FnIn K "places_beside" s_places_beside) (i4 : FnIn K "number_piece" s_number_piece) (i5 : FnIn K "joined" s_joined) (iN : NumIn K "NO_PIECE" (-1)) (iW : WaysIn K) : Callee P w K mg base 5 "joined" ["cells"] (spJoined CL) := by
  obtain ⟨cS, cB⟩ := spot_of (P := P) (w := w) (base := base) X G R.txt i1 i2
  obtain ⟨aW, ws, W⟩ := iW.at X G
  have hNo := iN.mg X G
  have cBs : Callee P w K mg base 3 "places_beside" ["place", "cells"] (spBesides CL) := i3.callee X G (fun _ _ F => F.binds fun _ _ _ _ _ _ us hl => match us, hl with | [_, _], _ => rfl) fun _ _ F => ok_places_beside F c.txt W cS cB c.place cM
  have cN : Callee P w K mg base 4 "number_piece" ["first", "number", "numbers", "cells"] (spNumP CL) := i4.callee X G (fun _ _ F => F.binds fun _ _ _ _ _ _ us hl => match us, hl with | [_, _, _, _], _ => rfl) fun _ _ F => ok_number_piece F hNo cBs
  exact i5.callee X G (fun _ _ F => F.binds fun _ _ _ _ _ _ us hl => match us, hl with | [_], _ => rfl) fun _ _ F => ok_joined F R.txt c.txt hNo cS cN
end Cut
end
section
set_option Elab.async false
set_option linter.all false
set_option maxRecDepth 100000
set_option maxHeartbeats 4000000
namespace Cut
open PySem PySem.Spec PyProof.Rows L2
open PySem.W (Codec)
open Jo (Part Box)
def spBottom : Sp := fun vs H Q _ => ∃ (g t : Addr) (ts : List Addr) (w d i : Nat), vs = [.ref g] ∧ H g = some (.lst ((t :: ts).map V.ref)) ∧ H t = some (.tup (spotV w d i)) ∧ Q (.int (((if i / (w * d) = 0 then 1 else 0 : Nat) : Nat) : Int)) H
section
variable {P : Program} {w : World} {K : PySem.W.Frag} {mg : Str → Option Value} {base : Heap} {CB CC CR CL : Addr}
theorem sc_lies_on_bottom : FnScope ["spots"] ["spots"] (defScope s_lies_on_bottom) := ⟨rfl, rfl, rfl, by decide +kernel, rfl, by decide +kernel, by decide +kernel⟩
theorem ok_lies_on_bottom {f : Addr} {fd : FuncData} (F : Fun K "lies_on_bottom" "lies_on_bottom" s_lies_on_bottom f fd) : FnOk P w K mg base CX0 1 f fd ["spots"] spBottom := by
  refine F.ok sc_lies_on_bottom (fun vs H Q E h => ?_) (fun cdv A outer s H vs Q E hr h => ?_)
  · obtain ⟨g, t, ts, w, d, i, rfl, _⟩ := h
    rfl
  · obtain ⟨g, t, ts, bw, bd, i, rfl, hg, ht, k⟩ := h
    refine ⟨_, pss_one (ps_ret (pe_ifExp (pt_cmpR op_eq (pe_ix ix_tup (pe_ix ix_list (pv 0) pe_int (fun _ _ => rfl)) pe_int (fun _ _ => rfl)) pe_int (nomark _)) pe_int pe_int)), ?_⟩
    refine ⟨_, rfl, g, _, _, V.ref t, rfl, rfl, SqL.of hg, atI_nat (j := 0) rfl, t, _, _, V.int ((i / (bw * bd) : Nat) : Int), rfl, rfl, SqT.of ht, atI_nat (j := 2) rfl, rfl, _, rfl, iteB (fun e => ?_) fun e => ?_⟩
    · have e1 := of_decide_eq_true e
      injection e1 with e1
      rw [if_pos (by omega)] at k
      exact k
    · have e1 : ¬ i / (bw * bd) = 0 := fun z => of_decide_eq_false e (by rw [z]; rfl)
      rw [if_neg e1] at k
      exact k
end
def spPieces (K : PySem.W.Frag) : Sp := fun vs H Q _ => ∃ (a : Addr) (ns : List Int), vs = [.ref a] ∧ SqL K H a (ns.map V.int) ∧ ns.length ≤ 20000 ∧ (∀ x ∈ ns, 0 ≤ x ∧ x ≤ 255) ∧ ∀ (H' : Hp) (p : Addr), H' p = some (.lst ((PyWqatdc.pieces ns).map V.int)) → Q (.ref p) H'
section
variable {P : Program} {w : World} {K : PySem.W.Frag} {mg : Str → Option Value} {base : Heap} {CB CC CR CL : Addr}
theorem sc_pieces : FnScope ["text", "reading", "refusal", "groups", "answer", "spots"] ["text"] (defScope s_pieces) := ⟨rfl, rfl, rfl, by decide +kernel, rfl, by decide +kernel, by decide +kernel⟩
theorem ok_pieces {f : Addr} {fd : FuncData} (F : Fun K "pieces" "pieces" s_pieces f fd) (R : Reads P w K mg base CB CC CR) (L : LTxt K CL) (cC : Callee P w K mg base 3 "cells_of" ["block", "cuts"] (spCells CB CC CL)) (cJ : Callee P w K mg base 5 "joined" ["cells"] (spJoined CL)) (cLB : Callee P w K mg base 1 "lies_on_bottom" ["spots"] spBottom) : FnOk P w K mg base CX0 8 f fd ["text"] (spPieces K) := by
  refine F.ok sc_pieces (fun vs H Q E h => ?_) (fun cdv A outer s H vs Q E hr h => ?_)
  · obtain ⟨a, ns, rfl, _⟩ := h
    rfl
  · obtain ⟨a, ns, rfl, hS, hz, hby, k⟩ := h
    have hr1 : Room 1 _ := hr.mono (by decide)
    have hr2 : Room 2 _ := hr.mono (by decide)
    have hr3 : Room 3 _ := hr.mono (by decide)
    have hr5 : Room 5 _ := hr.mono (by decide)
    have T := R.txt
    have C := R.cls
    refine ⟨_, pss_cons (ps_set (i := 1) sc_pieces.nd rfl (Or.inl rfl) (pe_fn R.read hr (pa_cons (pv 0) pa_nil)))
      (pss_cons (ps_set (i := 2) sc_pieces.nd rfl (Or.inl rfl) (pe_fn R.refusal hr1 (pa_cons (pv 1) pa_nil)))
      (pss_cons (ps_if (pt_truth (pv 2) (fun _ => rfl)) (pss_one (ps_ret (pv 2))) pss_nil)
      (pss_cons (ps_set (i := 3) sc_pieces.nd rfl (Or.inl rfl) (pe_fn cJ hr5 (pa_cons (pe_fn cC hr3 (pa_cons (pe_fld (pv 1) rfl) (pa_cons (pe_fld (pv 1) rfl) pa_nil))) pa_nil)))
      (pss_cons (ps_set (i := 4) sc_pieces.nd rfl (Or.inl rfl) (pe_lst (pa_cons (pe_callB call_len_seq rfl T.len boot_len (pa_cons (pv 3) pa_nil)) pa_nil)))
      (pss_cons (ps_for PassesOwn.never rfl (pi_list (pv 3)) (pg_name (i := 5) sc_pieces.nd rfl (Or.inl rfl))
        (pss_one (ps_expr (pe_bm PySem.F.plainAttrs_list PySem.F.slot_list_extend PySem.F.type_list_extend mt_extend (pv 4) (pa_cons (pe_op op_cat (pe_op op_cat (pe_lst (pa_cons (pe_callB call_len_seq rfl T.len boot_len (pa_cons (pv 5) pa_nil)) pa_nil))
          (pe_callTy call_list_of rfl T.list PyProof.Rows.boot_list (pa_cons (pe_ix ix_list (pv 5) pe_int (fun _ _ => rfl)) pa_nil))) (pe_lst (pa_cons (pe_fn cLB hr1 (pa_cons (pv 5) pa_nil)) pa_nil))) pa_nil)))))
      (pss_one (ps_ret (pv 4)))))))), ?_⟩
    refine ⟨_, rfl, a, ns, rfl, hS, hz, fun H1 r l fa dx bv cs s1 R1 f1 => ?_⟩
    refine ⟨_, rfl, r, l, _, fa, _, dx, bv, cs, _, rfl, R1, f1, fun H2 p s2 hp hpl => ?_⟩
    refine ⟨_, rfl, _, .inl ⟨_, SqL.of hpl, rfl⟩, ?_⟩
    have du := due hby (fun p => ⟨(p.pieces.length : Int), p.pieces.flatMap fun (q : List Jo.Cell) => q.length :: Wqatdc.cellNums (q.headD (0, 0, 0)) ++ [Wqatdc.onBottom q]⟩)
    refine iteB (fun e => ?_) fun e => ?_
    · have e1 : ¬ refN ns = [] := fun z => by
        rw [show refF (decide (16384 < ns.length)) (readF ns).1 = [] from z] at e
        exact absurd e (by decide)
      rcases du with ⟨_, d2⟩ | ⟨d1, _⟩
      · refine ⟨_, rfl, k H2 p ?_⟩
        rw [show PyWqatdc.pieces ns = refN ns from d2]
        exact hpl
      · exact absurd d1 e1
    · have e1 : refN ns = [] := by
        show refF (decide (16384 < ns.length)) (readF ns).1 = []
        cases e2 : refF (decide (16384 < ns.length)) (readF ns).1 with
        | nil => rfl
        | cons c r => rw [e2] at e; exact absurd e (by simp)
      rcases du with ⟨d1, _⟩ | ⟨_, _, pt, PR, d2⟩
      · exact absurd e1 d1
      have R2 := R1.same s2
      generalize (readF ns).2 = st at R1 R2 PR
      obtain ⟨blk, cuts⟩ := st
      have eb : blk = some (ib pt.name, [pt.w, pt.d, pt.h], pt.grain) := PR.blk
      have ec : cuts = pt.cuts.map box2 := PR.cuts
      subst eb ec
      obtain ⟨b, ebv, hblk, _⟩ := R2.blk
      subst ebv
      have GP := PR.good
      have hcnt := GP.cnt
      refine ⟨_, rfl, r, CR, dx, _, _, rfl, R2.at_, C.cR, C.rBlock, fR_block, _, rfl, r, CR, dx, _, _, rfl, R2.at_, C.cR, C.rCuts, fR_cuts, b, l, cs, pt.cuts, _, pt.w, pt.d, pt.h, pt.grain, rfl, hblk, R2.lst, R2.cuts, PR.w.2, PR.d.2, PR.h.2, PR.ins, fun H3 c s3 hc hcel => ?_⟩
      refine ⟨pt, c, rfl, GP, hcel, fun H4 lg gs s4 hlg hlg4 G4 => ?_⟩
      have hgl : gs.length = (rootsTo pt (cnt pt)).length := by rw [G4.len, List.length_map]
      have hrl := roots_len pt (cnt pt)
      refine ⟨_, rfl, lg, _, rfl, .inl (SqL.of hlg4), by show 1 ≤ sizeLine; decide, fun la hla => ?_⟩
      have s5 : Same H4 (upd H4 la (.lst [V.int (((gs.map V.ref).length : Nat) : Int)])) := Same.upd hla
      have ha5 : (upd H4 la (.lst [V.int (((gs.map V.ref).length : Nat) : Int)])) la = some (.lst (vN ([(rootsTo pt (cnt pt)).length] ++ ((rootsTo pt (cnt pt)).take 0).flatMap (pieceN pt)))) := by
        rw [upd_same, List.length_map, hgl]
        rfl
      generalize upd H4 la (.lst [V.int (((gs.map V.ref).length : Nat) : Int)]) = H5 at s5 ha5
      refine ⟨_, rfl, lg, rfl, ⟨_, SqL.of (s5 _ _ hlg4)⟩, for_list (K := K) (a := lg) (xs := gs.map V.ref) (fun i σ H' => ∃ v5 : Option V, σ = [some (.ref a), some (.ref r), some (.ref p), some (.ref lg), some (.ref la), v5] ∧ Same H4 H' ∧ H' la = some (.lst (vN ([(rootsTo pt (cnt pt)).length] ++ ((rootsTo pt (cnt pt)).take i).flatMap (pieceN pt))))) ⟨none, rfl, s5, ha5⟩ (fun i σ H' _ ⟨_, _, z, _⟩ => SqL.of (z _ _ hlg4)) ?_ ?_⟩
      · rintro i v σ H6 hv ⟨v5, rfl, s6, ha6⟩
        obtain ⟨g, hg, rfl⟩ := map_ref hv
        have hil : i < (rootsTo pt (cnt pt)).length := by
          have := (List.getElem?_eq_some_iff.mp hg).1
          omega
        have hri : (rootsTo pt (cnt pt))[i]? = some (rootsTo pt (cnt pt))[i] := List.getElem?_eq_getElem hil
        generalize (rootsTo pt (cnt pt))[i] = ri at hri
        have hroot := (mem_roots.mp (List.mem_of_getElem? hri)).2
        obtain ⟨ts, hts, hsp⟩ := (G4.same s6).each i g (compI pt ri) hg (by rw [List.getElem?_map, hri]; rfl)
        obtain ⟨rest, er⟩ := compI_head hroot
        have htl := Paired.length hsp
        rw [er] at hsp
        cases hsp with
        | @cons t0 _ ts' _ h0 hrest =>
        have h0 : H6 t0 = some (.tup (spotV pt.w pt.d ri)) := h0
        have hlen5 : ([(rootsTo pt (cnt pt)).length] ++ ((rootsTo pt (cnt pt)).take i).flatMap (pieceN pt)).length ≤ 30000 := by
          rw [List.length_append, flat5, List.length_take]
          show 1 + _ ≤ _
          omega
        refine ⟨_, rfl, .inl ⟨rfl, _, SqL.of ha6⟩, _, rfl, g, _, rfl, .inl (SqL.of hts), by show 1 ≤ sizeLine; decide, fun l1 hl1 => ?_⟩
        have s7 : Same H6 (upd H6 l1 (.lst [V.int ((((t0 :: ts').map V.ref).length : Nat) : Int)])) := Same.upd hl1
        have h71 : (upd H6 l1 (.lst [V.int ((((t0 :: ts').map V.ref).length : Nat) : Int)])) l1 = some (.lst (vN [(compI pt ri).length])) := by
          rw [upd_same, List.length_map, htl]
          rfl
        generalize upd H6 l1 (.lst [V.int ((((t0 :: ts').map V.ref).length : Nat) : Int)]) = H7 at s7 h71
        refine ⟨_, rfl, g, _, _, V.ref t0, rfl, rfl, SqL.of (s7 _ _ hts), atI_nat (j := 0) rfl, t0, _, rfl, .inr (SqT.of (s7 _ _ h0)), fun l2 hl2 => ?_⟩
        have s8 : Same H7 (upd H7 l2 (.lst (spotV pt.w pt.d ri))) := Same.upd hl2
        have h82 : (upd H7 l2 (.lst (spotV pt.w pt.d ri))) l2 = some (.lst (vN [ri % pt.w, ri / pt.w % pt.d, ri / (pt.w * pt.d)])) := upd_same
        generalize upd H7 l2 (.lst (spotV pt.w pt.d ri)) = H8 at s8 h82
        refine ⟨l1, l2, _, _, rfl, rfl, s8 _ _ h71, h82, by show 1 + 3 ≤ sizeLine; decide, fun l3 hl3 => ?_⟩
        have s9 : Same H8 (upd H8 l3 (.lst (vN [(compI pt ri).length] ++ vN [ri % pt.w, ri / pt.w % pt.d, ri / (pt.w * pt.d)]))) := Same.upd hl3
        have h93 : (upd H8 l3 (.lst (vN [(compI pt ri).length] ++ vN [ri % pt.w, ri / pt.w % pt.d, ri / (pt.w * pt.d)]))) l3 = some (.lst (vN ([(compI pt ri).length] ++ [ri % pt.w, ri / pt.w % pt.d, ri / (pt.w * pt.d)]))) := upd_same
        generalize upd H8 l3 (.lst (vN [(compI pt ri).length] ++ vN [ri % pt.w, ri / pt.w % pt.d, ri / (pt.w * pt.d)])) = H9 at s9 h93
        have s69 := (s7.trans s8).trans s9
        refine ⟨_, rfl, g, t0, ts', pt.w, pt.d, ri, rfl, s69 _ _ hts, s69 _ _ h0, by show 1 ≤ sizeLine; decide, fun l4 hl4 => ?_⟩
        have sA : Same H9 (upd H9 l4 (.lst [V.int (((if ri / (pt.w * pt.d) = 0 then 1 else 0 : Nat) : Nat) : Int)])) := Same.upd hl4
        have hA4 : (upd H9 l4 (.lst [V.int (((if ri / (pt.w * pt.d) = 0 then 1 else 0 : Nat) : Nat) : Int)])) l4 = some (.lst (vN [if ri / (pt.w * pt.d) = 0 then 1 else 0])) := upd_same
        generalize upd H9 l4 (.lst [V.int (((if ri / (pt.w * pt.d) = 0 then 1 else 0 : Nat) : Nat) : Int)]) = HA at sA hA4
        refine ⟨l3, l4, _, _, rfl, rfl, sA _ _ h93, hA4, by show 4 + 1 ≤ sizeLine; decide, fun l5 hl5 => ?_⟩
        have sB : Same HA (upd HA l5 (.lst (vN ([(compI pt ri).length] ++ [ri % pt.w, ri / pt.w % pt.d, ri / (pt.w * pt.d)]) ++ vN [if ri / (pt.w * pt.d) = 0 then 1 else 0]))) := Same.upd hl5
        have hB5 : (upd HA l5 (.lst (vN ([(compI pt ri).length] ++ [ri % pt.w, ri / pt.w % pt.d, ri / (pt.w * pt.d)]) ++ vN [if ri / (pt.w * pt.d) = 0 then 1 else 0]))) l5 = some (.lst (vN (pieceN pt ri))) := by
          rw [upd_same, ← vN_append]
          rfl
        generalize upd HA l5 (.lst (vN ([(compI pt ri).length] ++ [ri % pt.w, ri / pt.w % pt.d, ri / (pt.w * pt.d)]) ++ vN [if ri / (pt.w * pt.d) = 0 then 1 else 0])) = HB at sB hB5
        have s6B := (s69.trans sA).trans sB
        have hlaH : H4 la = none := hla
        refine ⟨la, l5, _, _, rfl, rfl, s6B _ _ ha6, hB5, ?_, ?_⟩
        · rw [vN_len, vN_len]
          have : (pieceN pt ri).length = 5 := rfl
          exact Nat.le_of_lt (Nat.lt_of_le_of_lt (show _ ≤ 40000 by omega) (by decide))
        · refine ⟨_, rfl, (s6.trans s6B).upd2 hlaH, ?_⟩
          rw [upd_same, take_snoc hri, List.flatMap_append, ← List.append_assoc, vN_append (_ ++ _)]
          simp
      · rintro σ H6 ⟨v5, rfl, s6, ha6⟩
        rw [List.length_map, hgl, List.take_length] at ha6
        refine ⟨_, rfl, k H6 la ?_⟩
        rw [ha6, show PyWqatdc.pieces ns = flat ⟨(pt.pieces.length : Int), pt.pieces.flatMap fun (q : List Jo.Cell) => q.length :: Wqatdc.cellNums (q.headD (0, 0, 0)) ++ [Wqatdc.onBottom q]⟩ from d2, pieces_nums GP.w1 GP.d1, pieces_len GP.w1 GP.d1, vN_int]
        rfl
end
theorem pieces_mk {P : Program} {w : World} {K : PySem.W.Frag} {h : Heap} {mg : Str → Option Value} {fa CB CC CR CL : Addr} (X : K.In h) (G : h.Ns mainGlobals mg) (hfa : mg "pieces" = some (.ref fa)) (I : TopIn K CB CC CR) (i : FnIn K "pieces" s_pieces)
    (iL : ClsIn K "Cells" "Cells.__init__" s_Cells_init CL) (iS : NoAttr K CL "size") (iM : NoAttr K CL "marks") (i1 : FnIn K "cells_of" s_cells_of) (i2 : FnIn K "places_of" s_places_of) (i3 : FnIn K "place_at" s_place_at) (i4 : FnIn K "mark_at" s_mark_at) (i5 : FnIn K "is_on_block" s_is_on_block) (i6 : FnIn K "spot_at" s_spot_at) (i7 : FnIn K "spot_beside" s_spot_beside) (i8 : FnIn K "places_beside" s_places_beside) (i9 : FnIn K "number_piece" s_number_piece) (iA : FnIn K "joined" s_joined) (iN : NumIn K "NO_PIECE" (-1)) (iW : WaysIn K) (iB : FnIn K "lies_on_bottom" s_lies_on_bottom) :
    ∃ fd : FuncData, (∀ (s : Shared) (us : List Value), us.length = (["text"] : List Str).length → BindsTo s fd ⟨us, []⟩ ((["text"] : List Str).zip us)) ∧ ∀ base : Heap, K.In base → base.Ns mainGlobals mg → FnOk P w K mg base CX0 8 fa fd ["text"] (spPieces K) :=
  fn_of_top X G hfa i (fun _ _ _ _ _ _ us hl => match us, hl with | [_], _ => rfl) fun base _ _ f fd F => by
    have R : Reads P w K mg base CB CC CR := reads_of X G I
    have c := cels_of X G R iL iS iM i1 i2 i3
    have cM := mark_of X G R c i4 i5
    have cJ := joined_of X G R c cM i6 i7 i8 i9 iA iN iW
    have cLB : Callee P w K mg base 1 "lies_on_bottom" ["spots"] spBottom := iB.callee X G (fun _ _ F => F.binds fun _ _ _ _ _ _ us hl => match us, hl with | [_], _ => rfl) fun _ _ F => ok_lies_on_bottom F
    exact ok_pieces F R c.txt c.cells cJ cLB
end Cut
end
set_option Elab.async false
open PySem PySem.W PyProof.Rows
open PySem.W (Codec)
set_option maxRecDepth 100000 in
set_option maxHeartbeats 0 in
theorem PySem.Challenge.cw_cutparts_s06_pieces_holds : PySem.Challenge.rw_cutparts_s06_pieces.Holds := by
  w_on; k_headS; (case hw => exact ⟨[.list []], by decide +kernel, by decide +kernel⟩)
  k_fillS
  refine L2.walk_specK (r := PySem.Challenge.rw_cutparts_s06_pieces) (k := 8) (CX := L2.CX0) (ps := ["text"]) (sp := Cut.spPieces) (by decide +kernel) rfl rfl ⟨rfl, by decide, by decide⟩ (fun w h Y => PySem.W.kIn_of Y) ?F ?S (fun _ _ _ _ z => z)
  case F =>
    intro w mg fa h Y KX G hmg
    refine' Cut.pieces_mk KX G hmg ?I ?i0 ?iL ?iS ?iM ?i2 ?i3 ?i4 ?i5 ?i6 ?i7 ?i8 ?i9 ?i10 ?i11 ?i12 ?iW ?i14
    (case i0 => (refine' L2.fn_in ?a ?l ?c ?k; (case a => k_is); (case l => k_is); (case c => k_is); (case k => k_is)))
    (case iL => (refine' L2.cls_in ?aC ?a ?i ?l ?c ?k ?pg ?hd ?po ?sa ?mk ?kc; (case aC => k_is); (case a => k_is); (case i => k_is); (case l => k_is); (case c => k_is); (case k => k_is); (case pg => k_is); (case hd => k_is); (case po => k_is); (case sa => k_is); (case mk => k_is); (case kc => k_is)))
    (case iS => (show PySem.W.findIn _ _ _ = some none; k_is))
    (case iM => (show PySem.W.findIn _ _ _ = some none; k_is))
    (case i2 => (refine' L2.fn_in ?a ?l ?c ?k; (case a => k_is); (case l => k_is); (case c => k_is); (case k => k_is)))
    (case i3 => (refine' L2.fn_in ?a ?l ?c ?k; (case a => k_is); (case l => k_is); (case c => k_is); (case k => k_is)))
    (case i4 => (refine' L2.fn_in ?a ?l ?c ?k; (case a => k_is); (case l => k_is); (case c => k_is); (case k => k_is)))
    (case i5 => (refine' L2.fn_in ?a ?l ?c ?k; (case a => k_is); (case l => k_is); (case c => k_is); (case k => k_is)))
    (case i6 => (refine' L2.fn_in ?a ?l ?c ?k; (case a => k_is); (case l => k_is); (case c => k_is); (case k => k_is)))
    (case i7 => (refine' L2.fn_in ?a ?l ?c ?k; (case a => k_is); (case l => k_is); (case c => k_is); (case k => k_is)))
    (case i8 => (refine' L2.fn_in ?a ?l ?c ?k; (case a => k_is); (case l => k_is); (case c => k_is); (case k => k_is)))
    (case i9 => (refine' L2.fn_in ?a ?l ?c ?k; (case a => k_is); (case l => k_is); (case c => k_is); (case k => k_is)))
    (case i10 => (refine' L2.fn_in ?a ?l ?c ?k; (case a => k_is); (case l => k_is); (case c => k_is); (case k => k_is)))
    (case i11 => (refine' L2.fn_in ?a ?l ?c ?k; (case a => k_is); (case l => k_is); (case c => k_is); (case k => k_is)))
    (case i12 => (refine' L2.num_in ?a; (case a => k_is)))
    (case iW => (refine' Cut.ways_in ?a ?l ?l0 ?l1 ?l2 ?l3 ?l4 ?l5; (case a => k_is); (case l => k_is); (case l0 => k_is); (case l1 => k_is); (case l2 => k_is); (case l3 => k_is); (case l4 => k_is); (case l5 => k_is)))
    (case i14 => (refine' L2.fn_in ?a ?l ?c ?k; (case a => k_is); (case l => k_is); (case c => k_is); (case k => k_is)))
    case I =>
      refine' { len := ?z0, ord := ?z1, all := ?z2, min := ?z3, enumerate := ?z4, zip := ?z5, list := ?z6, sum := ?z7, range := ?z8, tuple := ?z9, mostBytes := ?n0, mostCuts := ?n1, largest := ?n2, longest := ?n3, right := ?n4, notFormed := ?n5, tooMany := ?n6, cannot := ?n7, beyond := ?n8, block := ?c0, cut := ?c1, reading := ?c2, bName := ?a0, bSize := ?a1, bGrain := ?a2, cCorner := ?a3, cSize := ?a4, rTl := ?a5, rFault := ?a6, rBlock := ?a7, rCuts := ?a8, read_text := ?f0, read_lines := ?f1, take_line := ?f2, take_block := ?f3, take_cut := ?f4, lies_within := ?f5, block_from := ?f6, cut_from := ?f7, size_from := ?f8, grain_from := ?f9, number_from := ?f10, is_word := ?f11, is_name := ?f12, is_digit := ?f13, is_letter := ?f14, parted := ?f15, refusal_of := ?f16 }
      (case c0 => (refine' L2.cls_in ?aC ?a ?i ?l ?c ?k ?pg ?hd ?po ?sa ?mk ?kc; (case aC => k_is); (case a => k_is); (case i => k_is); (case l => k_is); (case c => k_is); (case k => k_is); (case pg => k_is); (case hd => k_is); (case po => k_is); (case sa => k_is); (case mk => k_is); (case kc => k_is)))
      (case c1 => (refine' L2.cls_in ?aC ?a ?i ?l ?c ?k ?pg ?hd ?po ?sa ?mk ?kc; (case aC => k_is); (case a => k_is); (case i => k_is); (case l => k_is); (case c => k_is); (case k => k_is); (case pg => k_is); (case hd => k_is); (case po => k_is); (case sa => k_is); (case mk => k_is); (case kc => k_is)))
      (case c2 => (refine' L2.cls_in ?aC ?a ?i ?l ?c ?k ?pg ?hd ?po ?sa ?mk ?kc; (case aC => k_is); (case a => k_is); (case i => k_is); (case l => k_is); (case c => k_is); (case k => k_is); (case pg => k_is); (case hd => k_is); (case po => k_is); (case sa => k_is); (case mk => k_is); (case kc => k_is)))
      (case z0 => k_is)
      (case z1 => k_is)
      (case z2 => k_is)
      (case z3 => k_is)
      (case z4 => k_is)
      (case z5 => k_is)
      (case z6 => k_is)
      (case z7 => k_is)
      (case z8 => k_is)
      (case z9 => k_is)
      (case n0 => (refine' L2.num_in ?a; (case a => k_is)))
      (case n1 => (refine' L2.num_in ?a; (case a => k_is)))
      (case n2 => (refine' L2.num_in ?a; (case a => k_is)))
      (case n3 => (refine' L2.num_in ?a; (case a => k_is)))
      (case n4 => (refine' L2.num_in ?a; (case a => k_is)))
      (case n5 => (refine' L2.num_in ?a; (case a => k_is)))
      (case n6 => (refine' L2.num_in ?a; (case a => k_is)))
      (case n7 => (refine' L2.num_in ?a; (case a => k_is)))
      (case n8 => (refine' L2.num_in ?a; (case a => k_is)))
      (case a0 => (show PySem.W.findIn _ _ _ = some none; k_is))
      (case a1 => (show PySem.W.findIn _ _ _ = some none; k_is))
      (case a2 => (show PySem.W.findIn _ _ _ = some none; k_is))
      (case a3 => (show PySem.W.findIn _ _ _ = some none; k_is))
      (case a4 => (show PySem.W.findIn _ _ _ = some none; k_is))
      (case a5 => (show PySem.W.findIn _ _ _ = some none; k_is))
      (case a6 => (show PySem.W.findIn _ _ _ = some none; k_is))
      (case a7 => (show PySem.W.findIn _ _ _ = some none; k_is))
      (case a8 => (show PySem.W.findIn _ _ _ = some none; k_is))
      all_goals (refine' L2.fn_in ?a ?l ?c ?k; (case a => k_is); (case l => k_is); (case c => k_is); (case k => k_is))
  case S =>
    intro K H xs a hO hwi hask hx
    cases hx with
    | cons h1 h2 =>
      cases h2
      cases h1 with
      | lst hs ha =>
        have e := L2.ints_dw a.1 _ ha
        subst e
        have q : (((Codec.inLen 0 17000 a.1 && a.1.all (Codec.inInt 0 255)) && true)) = true := hwi
        rw [Bool.and_eq_true, Bool.and_eq_true] at q
        have hl : a.1.length ≤ 17000 := (Codec.inNat_iff.mp q.1.1).2
        have hin : ∀ x ∈ a.1, 0 ≤ x ∧ x ≤ 255 := fun x hx => Codec.inInt_iff.mp (List.all_eq_true.mp q.1.2 x hx)
        refine ⟨_, a.1, rfl, hs, by omega, hin, fun H' p hp => ?_⟩
        show L2.Dw K H' (.ref p) (.list ((PyWqatdc.pieces a.1).map WData.int))
        exact .lst (L2.SqL.of hp) (L2.dw_ints _)
#print axioms PySem.Challenge.cw_cutparts_s06_pieces_holds
