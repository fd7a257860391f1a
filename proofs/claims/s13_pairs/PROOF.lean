import PyProof.Rows.All
import Wide.All
import OpenK.AllK
import Wide.FinOn
import PyProof.EqAt
import PyProof.EqKinds
import PyProof.TupleCall
import KE.BitLaws
import Open.SpecLaws
import KE.OsHead
import KE.OsGo
import PyProof.ListRange
import PyProof.Rows.SortShellAny
import KE.KDictSum
import KE.KItemsList
import KE.KSortTupG
import PySem.Challenge.RW_exactrows_s13_pairs
section
set_option Elab.async false
set_option linter.all false
set_option maxRecDepth 100000
namespace L2
open PySem PySem.Spec PyProof.Rows

/-- a key: an int or a str -/
abbrev Key := Sum Int Str
def keyIs : Key → Value → Bool
  | .inl k, v => Value.isInt k v
  | .inr x, v => Value.isStrOf x v
def keyH (w : World) : Key → Int
  | .inl k => hashInt k
  | .inr x => hashStr w x
theorem keyIs_shape : ∀ {k : Key} {v : Value}, keyIs k v = true → (∃ i t, k = Sum.inl i ∧ v = Value.int i t) ∨ (∃ x t, k = Sum.inr x ∧ v = Value.str x t)
  | .inl i, v, h => by
    obtain ⟨t, e⟩ := Value.isInt_shape (k := i) (v := v) h
    exact .inl ⟨i, t, rfl, e⟩
  | .inr x, v, h => by
    obtain ⟨t, e⟩ := Value.isStrOf_shape (x := x) (v := v) h
    exact .inr ⟨x, t, rfl, e⟩
theorem keyIs_int (i : Int) (t : Tok) : keyIs (.inl i) (.int i t) = true := by simp [keyIs, Value.isInt]
theorem keyIs_str (x : Str) (t : Tok) : keyIs (.inr x) (.str x t) = true := by simp [keyIs, Value.isStrOf]
theorem key_ll (a b : Int) : decide ((Sum.inl a : Key) = Sum.inl b) = (a == b) := by
  by_cases e : a = b
  · subst e; simp
  · have h : ¬ (Sum.inl a : Key) = Sum.inl b := fun q => e (Sum.inl.inj q)
    rw [decide_eq_false h]
    exact (beq_eq_false_iff_ne.mpr e).symm
theorem key_rr (a b : Str) : decide ((Sum.inr a : Key) = Sum.inr b) = decide (a = b) := by
  by_cases e : a = b
  · subst e; simp
  · have h : ¬ (Sum.inr a : Key) = Sum.inr b := fun q => e (Sum.inr.inj q)
    rw [decide_eq_false h, decide_eq_false e]
theorem key_lr (a : Int) (b : Str) : decide ((Sum.inl a : Key) = Sum.inr b) = false := decide_eq_false (fun q => nomatch q)
theorem key_rl (a : Str) (b : Int) : decide ((Sum.inr a : Key) = Sum.inl b) = false := decide_eq_false (fun q => nomatch q)

def mixKind (prog : Program) (w : World) : PySem.KeyKind prog w Key where
  is := keyIs
  hash := keyH w
  inj := fun v a b ha hb => by
    rcases keyIs_shape ha with ⟨i, t, rfl, rfl⟩ | ⟨x, t, rfl, rfl⟩
    · rcases keyIs_shape hb with ⟨j, u, rfl, e⟩ | ⟨y, u, rfl, e⟩
      · injection e with e1 _; rw [e1]
      · exact nomatch e
    · rcases keyIs_shape hb with ⟨j, u, rfl, e⟩ | ⟨y, u, rfl, e⟩
      · exact nomatch e
      · injection e with e1 _; rw [e1]
  byValue := fun k v h => by
    rcases keyIs_shape h with ⟨i, t, rfl, rfl⟩ | ⟨x, t, rfl, rfl⟩ <;> rfl
  pyHash := fun hv h => by
    rcases keyIs_shape hv with ⟨i, t, rfl, rfl⟩ | ⟨x, t, rfl, rfl⟩
    · exact wpAny_pyHash_int h
    · exact wpAny_pyHash_str h
  eqBool := fun hu hv h => by
    rcases keyIs_shape hu with ⟨i, t, rfl, rfl⟩ | ⟨x, t, rfl, rfl⟩
    · rcases keyIs_shape hv with ⟨j, u, rfl, rfl⟩ | ⟨y, u, rfl, rfl⟩
      · rw [key_ll] at h; exact wpAny_eqBool_int h
      · rw [key_lr] at h; exact SeqAt.EqAt.int_str i t y u _ _ _ _ h
    · rcases keyIs_shape hv with ⟨j, u, rfl, rfl⟩ | ⟨y, u, rfl, rfl⟩
      · rw [key_rl] at h; exact SeqAt.EqAt.str_int x t j u _ _ _ _ h
      · rw [key_rr] at h; exact wpAny_eqBool_str h
  «strs» := fun k x t v h => by
    rcases keyIs_shape h with ⟨i, u, rfl, e⟩ | ⟨y, u, rfl, e⟩
    · exact nomatch e
    · injection e with e1 _
      subst e1
      cases v <;> rfl

theorem mixKind_int (prog : Program) (w : World) (i : Int) (t : Tok) : (mixKind prog w).is (.inl i) (.int i t) = true := keyIs_int i t
theorem mixKind_str (prog : Program) (w : World) (x : Str) (t : Tok) : (mixKind prog w).is (.inr x) (.str x t) = true := keyIs_str x t
end L2

namespace L2
open PySem PySem.Spec PyProof.Rows

/-- a value, without the heap -/
inductive V where
  | non | bl (b : Bool) | int (i : Int) | str (x : Str) | byt (b : Array UInt8) | flt (b : UInt64) | ref (a : Addr) | ty (n : String)
  deriving DecidableEq

def RelV : V → Value → Prop
  | .non, u => u = Value.none
  | .bl b, u => u = Value.bool b
  | .int i, u => ∃ t, u = Value.int i t
  | .str x, u => ∃ t, u = Value.str x t
  | .byt b, u => ∃ t, u = Value.bytes b t
  | .flt b, u => ∃ t, u = Value.float b t
  | .ref a, u => u = Value.ref a
  | .ty n, u => u = Value.type n

abbrev Vals : List V → List Value → Prop := Paired RelV
theorem Vals.length {xs : List V} {us : List Value} (r : Vals xs us) : xs.length = us.length := Paired.length r
theorem Vals.get : ∀ {xs : List V} {us : List Value} {i : Nat} {x : V}, Vals xs us → xs[i]? = some x → ∃ u, us[i]? = some u ∧ RelV x u
  | _, _, _, _, .nil, e => by simp at e
  | _, _, 0, _, .cons r _, e => by simp at e; subst e; exact ⟨_, rfl, r⟩
  | _, _, i + 1, x, .cons _ t, e => by
    obtain ⟨u, h1, h2⟩ := Vals.get (i := i) (x := x) t (by simpa using e)
    exact ⟨u, by simpa using h1, h2⟩
theorem Vals.append : ∀ {xs ys : List V} {us ws : List Value}, Vals xs us → Vals ys ws → Vals (xs ++ ys) (us ++ ws)
  | _, _, _, _, .nil, s => s
  | _, _, _, _, .cons r t, s => .cons r (Vals.append t s)
theorem Vals.take : ∀ {xs : List V} {us : List Value} (n : Nat), Vals xs us → Vals (xs.take n) (us.take n)
  | _, _, 0, _ => .nil
  | _, _, _ + 1, .nil => .nil
  | _, _, n + 1, .cons r t => .cons r (Vals.take n t)
theorem Vals.drop : ∀ {xs : List V} {us : List Value} (n : Nat), Vals xs us → Vals (xs.drop n) (us.drop n)
  | _, _, 0, r => r
  | _, _, _ + 1, .nil => .nil
  | _, _, n + 1, .cons _ t => Vals.drop n t
def RelO : Option V → Option Value → Prop
  | some v, some u => RelV v u
  | none, none => True
  | _, _ => False
def KV {κ : Type} : List (κ × V) → List (κ × Value) → Prop := Paired fun (p : κ × V) (q : κ × Value) => p.1 = q.1 ∧ RelV p.2 q.2

/-- a key of a dict (00_mix): an int or a text -/
def kV : Key → V
  | .inl i => .int i
  | .inr x => .str x

/-- what stands at a tracked address -/
inductive HO where
  /-- a list -/
  | lst (xs : List V)
  /-- a tuple (never changes) -/
  | tup (xs : List V)
  /-- a dict whose keys are natInts and texts; one whose keys are tuples of natInts and texts (the empty one is both) -/
  | dK (kvs : List (Key × V)) | dT (kvs : List (List Key × V))
  /-- a set of natInts: its members, its size -/
  | set (S : Int → Bool) (n : Nat)
  /-- an instance of the class at C, its dict at dx, its attributes -/
  | ins (C dx : Addr) (fs : List (Str × V))
  /-- the dict of the instance at x -/
  | own (x : Addr)
  /-- the dict of an exception -/
  | xd (fs : List (Str × V))
  /-- a bound method, f of x -/
  | met (f x : Addr)
  /-- a range object lo, lo + 1, .. below hi -/
  | rng (lo hi : Int)
  /-- a thing that is known to the object (the script; a dict while a loop walks it): read, never written while it is so -/
  | frz (o : Obj) (u : HO)
  /-- a code object's table -/
  | tbl (ps : Array Value)
  /-- any other thing, by what is true of its one object (a def of one's own: SetO a S n := HO.ext fun h => ..) -/
  | ext (φ : Heap → Prop)

abbrev Hp := Addr → Option HO
def upd (H : Hp) (a : Addr) (o : HO) : Hp := fun b => if b = a then some o else H b
theorem upd_same {H : Hp} {a : Addr} {o : HO} : upd H a o a = some o := by unfold upd; rw [if_pos rfl]
theorem upd_ne {H : Hp} {a b : Addr} {o : HO} (h : b ≠ a) : upd H a o b = H b := by unfold upd; rw [if_neg h]
/-- two objects of different content stand apart -/
theorem ne_of {H : Hp} {a b : Addr} {o u : HO} (h : H a = some o) (h' : H b = some u) (d : o ≠ u) : a ≠ b := by
  intro e; subst e; rw [h] at h'; exact d (Option.some.inj h')
theorem ne_of_none {H : Hp} {a b : Addr} {o : HO} (h : H a = some o) (h' : H b = none) : a ≠ b := by
  intro e; subst e; rw [h] at h'; cases h'

section
variable (P : Program) (w : World)
def ObjOk (H : Hp) (h : Heap) (a : Addr) : HO → Prop
  | .lst xs => xs.length ≤ sizeLine ∧ ∃ (its : List Value) (n : Nat), Vals xs its ∧ h.get? a = some { cls := .type "list", data := .seq its.toArray n }
  | .tup xs => xs.length ≤ sizeLine ∧ ∃ its : List Value, Vals xs its ∧ IsTup h a its.toArray
  | .dK kvs => kvs.length ≤ sizeLine ∧ (a == sysModules) = false ∧ ∃ vs, KV kvs vs ∧ h.DictOf (mixKind P w) a vs
  | .dT kvs => kvs.length ≤ sizeLine ∧ (a == sysModules) = false ∧ ∃ xs : List (List Key × Addr × Value),
      Paired (fun (p : List Key × V) (q : List Key × Addr × Value) => p.1 = q.1 ∧ H q.2.1 = some (.tup (p.1.map kV)) ∧ RelV p.2 q.2.2) kvs xs ∧
      ∃ o es ep, h.get? a = some o ∧ o.ExactDict ∧ o.data = .dict es ep ∧ es.toList = xs.map (entryOfKey (tupleKind (mixKind P w))) ∧ (xs.map (·.1)).Nodup
  | .set S n => h.SetOf (intKind P w) a S n
  | .ins C dx fs => H dx = some (.own a) ∧ fs.length ≤ 1000 ∧ dx ≠ a ∧ h.get? a = some (PySem.W.instObj C dx) ∧
      ∃ mA, h.Ns1 dx mA ∧ (∀ f, RelO (fs.lookup f) (mA f)) ∧ PySem.Within mA (fs.map (·.1))
  | .own _ => ∃ o, h.get? a = some o
  | .xd fs => ∃ mA, h.Ns1 a mA ∧ ∀ f, RelO (fs.lookup f) (mA f)
  | .rng lo hi => ∃ t u v, h.get? a = some { cls := .type "range", data := .fields #[.int lo t, .int hi u, .int 1 v] }
  | .frz o u => h.get? a = some o ∧ ObjOk H h a u
  | .tbl ps => h.get? a = some { cls := .none, data := .fields ps }
  | .met f x => h.get? a = some (PySem.W.methodObj (.ref f) (.ref x))
  | .ext φ => φ h ∧ (∃ o, h.get? a = some o) ∧ ∀ h1 h2 : Heap, φ h1 → (∀ o, h1.get? a = some o → h2.get? a = some o) → φ h2
/-- the abstract heap is held -/
def HOk (H : Hp) (h : Heap) : Prop := ∀ a o, H a = some o → ObjOk P w H h a o
end

section
variable {P : Program} {w : World} {H H' : Hp} {h h' : Heap} {a : Addr} {o : HO}
theorem ObjOk.lt (x : ObjOk P w H h a o) : a < h.objs.size := by
  cases o with
  | lst xs => obtain ⟨_, _, _, _, e⟩ := x; exact Heap.lt_size e
  | tup xs => obtain ⟨_, _, _, p⟩ := x; exact p.lt
  | dK kvs => obtain ⟨_, _, _, _, o, _, _, e, _⟩ := x; exact Heap.lt_size e
  | dT kvs => obtain ⟨_, _, _, _, o, _, _, e, _⟩ := x; exact Heap.lt_size e
  | set S n => obtain ⟨o, _, _, _, e, _⟩ := x; exact Heap.lt_size e
  | ins C dx fs => obtain ⟨_, _, _, e, _⟩ := x; exact Heap.lt_size e
  | own y => obtain ⟨_, e⟩ := x; exact Heap.lt_size e
  | xd fs => obtain ⟨_, ⟨_, _, _, e, _⟩, _⟩ := x; exact Heap.lt_size e
  | rng lo hi => obtain ⟨_, _, _, e⟩ := x; exact Heap.lt_size e
  | frz ob u => obtain ⟨e, _⟩ := x; exact Heap.lt_size e
  | tbl ps => exact Heap.lt_size (show h.get? a = some _ from x)
  | met f y => exact Heap.lt_size (show h.get? a = some _ from x)
  | ext φ => obtain ⟨_, ⟨_, e⟩, _⟩ := x; exact Heap.lt_size e
theorem Paired.mapP {α β : Type} {F G : α → β → Prop} : ∀ {l₁ : List α} {l₂ : List β}, Paired F l₁ l₂ → (∀ a b, F a b → G a b) → Paired G l₁ l₂
  | _, _, .nil, _ => .nil
  | _, _, .cons r t, f => .cons (f _ _ r) (Paired.mapP t f)
/-- what an object's description leans on: its own object, its own dict, the tuples -/
theorem ObjOk.stay (x : ObjOk P w H h a o) (k : ∀ b u, (b = a ∨ H b = some (.own a)) → h.get? b = some u → h'.get? b = some u)
    (ho : ∀ b, H b = some (.own a) → H' b = some (.own a)) (ht : ∀ b xs, H b = some (.tup xs) → H' b = some (.tup xs)) : ObjOk P w H' h' a o := by
  induction o with
  | lst xs => obtain ⟨z, its, n, r, e⟩ := x; exact ⟨z, its, n, r, k _ _ (.inl rfl) e⟩
  | tup xs => obtain ⟨z, its, r, ob, e, c⟩ := x; exact ⟨z, its, r, ob, k _ _ (.inl rfl) e, c⟩
  | dK kvs => obtain ⟨z, y, vs, r, ob, es, ep, e, c⟩ := x; exact ⟨z, y, vs, r, ob, es, ep, k _ _ (.inl rfl) e, c⟩
  | dT kvs =>
    obtain ⟨z, y, xs, r, ob, es, ep, e, c⟩ := x
    exact ⟨z, y, xs, Paired.mapP r fun p q z => ⟨z.1, ht _ _ z.2.1, z.2.2⟩, ob, es, ep, k _ _ (.inl rfl) e, c⟩
  | set S n => obtain ⟨ob, es, ep, t, e, c⟩ := x; exact ⟨ob, es, ep, t, k _ _ (.inl rfl) e, c⟩
  | ins C dx fs =>
    obtain ⟨d, z, ne, e, mA, ⟨od, es, ep, e2, c⟩, r⟩ := x
    exact ⟨ho _ d, z, ne, k _ _ (.inl rfl) e, mA, ⟨od, es, ep, k _ _ (.inr d) e2, c⟩, r⟩
  | own y => obtain ⟨ob, e⟩ := x; exact ⟨ob, k _ _ (.inl rfl) e⟩
  | xd fs => obtain ⟨mA, ⟨od, es, ep, e, c⟩, r⟩ := x; exact ⟨mA, ⟨od, es, ep, k _ _ (.inl rfl) e, c⟩, r⟩
  | rng lo hi => obtain ⟨t, u, v, e⟩ := x; exact ⟨t, u, v, k _ _ (.inl rfl) e⟩
  | frz ob u ih => obtain ⟨e, q⟩ := x; exact ⟨k _ _ (.inl rfl) e, ih q⟩
  | tbl ps =>
    have e : h.get? a = some { cls := .none, data := .fields ps } := x
    show h'.get? a = some { cls := .none, data := .fields ps }
    exact k a _ (.inl rfl) e
  | met f y =>
    have e : h.get? a = some (PySem.W.methodObj (.ref f) (.ref y)) := x
    show h'.get? a = some (PySem.W.methodObj (.ref f) (.ref y))
    exact k a _ (.inl rfl) e
  | ext φ => obtain ⟨p, ⟨o, e⟩, st⟩ := x; exact ⟨st _ _ p fun o q => k _ _ (.inl rfl) q, ⟨o, k _ _ (.inl rfl) e⟩, st⟩
theorem HOk.lt (x : HOk P w H h) (e : H a = some o) : a < h.objs.size := (x a o e).lt
theorem HOk.fresh (x : HOk P w H h) (e : h.objs.size ≤ a) : H a = none := by
  cases q : H a with
  | none => rfl
  | some u => exact absurd (Nat.lt_of_lt_of_le (x.lt q) e) (Nat.lt_irrefl _)
/-- every object of the heap is kept -/
theorem HOk.kept (x : HOk P w H h) (k : ∀ b u, h.get? b = some u → h'.get? b = some u) : HOk P w H h' := fun a o e =>
  (x a o e).stay (fun b u _ q => k b u q) (fun _ q => q) fun _ _ q => q
/-- a new object is laid and tracked -/
theorem HOk.laid (x : HOk P w H h) (k : ∀ b u, h.get? b = some u → h'.get? b = some u) (hp : h.objs.size ≤ a) (new : ObjOk P w (upd H a o) h' a o) : HOk P w (upd H a o) h' := fun b u e => by
  have hn := x.fresh hp
  by_cases hb : b = a
  · subst hb; rw [upd_same] at e; cases e; exact new
  · rw [upd_ne hb] at e
    exact (x b u e).stay (fun c v _ q => k c v q) (fun c q => by rw [upd_ne (ne_of_none q hn)]; exact q) fun c xs q => by rw [upd_ne (ne_of_none q hn)]; exact q
end

/-- what may be read as u: it is u, or a known u -/
def Rd (H : Hp) (a : Addr) (u : HO) : Prop := H a = some u ∨ ∃ o, H a = some (.frz o u)
theorem Rd.of {H : Hp} {a : Addr} {u : HO} (h : H a = some u) : Rd H a u := .inl h
theorem Rd.ok {P : Program} {w : World} {H : Hp} {h : Heap} {a : Addr} {u : HO} (r : Rd H a u) (x : HOk P w H h) : ObjOk P w H h a u := by
  rcases r with r | ⟨o, r⟩
  · exact x a u r
  · obtain ⟨_, q⟩ := x a _ r
    exact q
/-- what may be written -/
def Mut : Option HO → Prop
  | some (.lst _) => True
  | some (.dK _) => True
  | some (.dT _) => True
  | some (.set _ _) => True
  | some (.ins _ _ _) => True
  | some (.ext _) => True
  | _ => False
section
variable {P : Program} {w : World} {H : Hp} {h h' : Heap} {x e : Addr} {o' : HO}
/-- the object at e is changed: x itself, or the dict of the instance x -/
theorem HOk.write (ok : HOk P w H h) (mu : Mut (H x)) (he : e = x ∨ H e = some (.own x)) (k : ∀ b u, b ≠ e → h.get? b = some u → h'.get? b = some u) (heo : ∃ u, h'.get? e = some u)
    (new : ObjOk P w (upd H x o') h' x o') : HOk P w (upd H x o') h' := fun b u q => by
  have nown : ∀ c y, H c = some (.own y) → c ≠ x := fun c y r z => by subst z; rw [r] at mu; exact mu
  have ntup : ∀ c xs, H c = some (.tup xs) → c ≠ x := fun c xs r z => by subst z; rw [r] at mu; exact mu
  by_cases hb : b = x
  · subst hb; rw [upd_same] at q; cases q; exact new
  · rw [upd_ne hb] at q
    by_cases hbe : b = e
    · have q' : H b = some (.own x) := by
        rcases he with z | z
        · exact absurd (hbe.trans z) hb
        · rw [hbe]; exact z
      rw [q] at q'; cases q'
      obtain ⟨v, hv⟩ := heo
      exact ⟨v, by rw [hbe]; exact hv⟩
    · refine (ok b u q).stay (fun c v hc r => k c v ?_ r) (fun c r => by rw [upd_ne (nown c b r)]; exact r) fun c xs r => by rw [upd_ne (ntup c xs r)]; exact r
      rcases hc with rfl | hc
      · exact hbe
      · rintro rfl
        rcases he with z | z
        · exact nown c b hc z
        · rw [hc] at z; cases z; exact hb rfl
end

structure Un (fs ex : List Addr) (H H' : Hp) (h h' : Heap) : Prop where
  keep : ∀ b o, h.get? b = some o → H b = none → b ∉ fs → b ∉ ex → h'.get? b = some o
  slot : ∀ b o, h.get? b = some o → H b = none → b ∈ fs → b ∉ ex → ∃ sl, h'.get? b = some { o with slots := sl }
  free : ∀ b o, h.get? b = some o → H b = none → b ∉ ex → H' b = none
  there : ∀ b o, h.get? b = some o → b ∉ ex → ∃ o', h'.get? b = some o'
  tups : ∀ b xs, H b = some (.tup xs) → H' b = some (.tup xs)
  frzs : ∀ b o u, H b = some (.frz o u) → H' b = some (.frz o u)
  tbls : ∀ b ps, H b = some (.tbl ps) → ∃ more, H' b = some (.tbl (ps ++ more))
section
variable {fs fs' ex ex' : List Addr} {H H1 H2 : Hp} {h h1 h2 h' : Heap} {a x e : Addr} {o : HO}
theorem Un.any (u : Un fs ex H H1 h h1) {b : Addr} {ob : Obj} (q : h.get? b = some ob) (n : H b = none) (hx : b ∉ ex) : ∃ sl, h1.get? b = some { ob with slots := sl } := by
  by_cases hb : b ∈ fs
  · exact u.slot b ob q n hb hx
  · exact ⟨ob.slots, u.keep b ob q n hb hx⟩
theorem Un.kept (k : ∀ b u, h.get? b = some u → h'.get? b = some u) : Un fs ex H H h h' :=
  ⟨fun b ob q _ _ _ => k b ob q, fun b ob q _ _ _ => ⟨ob.slots, k b ob q⟩, fun _ _ _ n _ => n, fun b ob q _ => ⟨ob, k b ob q⟩, fun _ _ q => q, fun _ _ _ q => q, fun _ ps q => ⟨#[], by rw [q]; simp⟩⟩
theorem Un.refl : Un fs ex H H h h := Un.kept fun _ _ q => q
theorem Un.laid (k : ∀ b u, h.get? b = some u → h'.get? b = some u) (hp : h.objs.size ≤ a) (hn : H a = none) : Un fs ex H (upd H a o) h h' where
  keep := fun b u q _ _ _ => k b u q
  slot := fun b u q _ _ _ => ⟨u.slots, k b u q⟩
  free := fun b u q n _ => by rw [upd_ne (Nat.ne_of_lt (Nat.lt_of_lt_of_le (Heap.lt_size q) hp))]; exact n
  there := fun b u q _ => ⟨u, k b u q⟩
  tups := fun b xs q => by rw [upd_ne (ne_of_none q hn)]; exact q
  frzs := fun b u xs q => by rw [upd_ne (ne_of_none q hn)]; exact q
  tbls := fun b ps q => ⟨#[], by rw [upd_ne (ne_of_none q hn), q]; simp⟩
theorem Un.write (mu : Mut (H x)) (he : e = x ∨ H e = some (.own x)) (k : ∀ b u, b ≠ e → h.get? b = some u → h'.get? b = some u) (heo : ∃ u, h'.get? e = some u) : Un fs ex H (upd H x o) h h' := by
  have hx : ∀ b, H b = none → b ≠ x := fun b n z => by subst z; rw [n] at mu; exact mu
  have hb : ∀ b, H b = none → b ≠ e := fun b n z => by
    subst z
    rcases he with r | r
    · exact hx b n r
    · rw [n] at r; cases r
  have hm : ∀ b u, H b = some u → ¬ Mut (some u) → b ≠ x := fun b u q nm z => by subst z; rw [q] at mu; exact nm mu
  refine ⟨fun b u q n _ _ => k b u (hb b n) q, fun b u q n _ _ => ⟨u.slots, k b u (hb b n) q⟩, fun b u q n _ => by rw [upd_ne (hx b n)]; exact n, fun b u q _ => ?_,
    fun b xs q => by rw [upd_ne (hm b _ q fun z => z)]; exact q, fun b u xs q => by rw [upd_ne (hm b _ q fun z => z)]; exact q, fun b ps q => ⟨#[], by rw [upd_ne (hm b _ q fun z => z), q]; simp⟩⟩
  by_cases hbe : b = e
  · subst hbe; exact heo
  · exact ⟨u, k b u hbe q⟩
end

def trk (h : Heap) (H : Hp) : List Addr := (List.range h.objs.size).filter fun a => (H a).isSome
def hidT (h : Heap) (H : Hp) : Heap := PySem.W.hideAll h (trk h H)
theorem hidT_size (h : Heap) (H : Hp) : (hidT h H).objs.size = h.objs.size := PySem.W.hideAll_size _ _
theorem hidT_get {h : Heap} {H : Hp} {b : Addr} {o : Obj} (e : h.get? b = some o) (n : H b = none) : (hidT h H).get? b = some o :=
  PySem.W.hideAll_get _ e fun hm => by
    have q : (H b).isSome = true := (List.mem_filter.mp hm).2
    rw [n] at q; simp at q
theorem of_hidT {h : Heap} {H : Hp} {b : Addr} {o : Obj} (e : (hidT h H).get? b = some o) : h.get? b = some o ∧ H b = none := by
  have e' : h.get? b = some o := PySem.W.of_hideAll (trk h H) e
  refine ⟨e', ?_⟩
  cases q : H b with
  | none => rfl
  | some x =>
    have hm : b ∈ trk h H := List.mem_filter.mpr ⟨List.mem_range.mpr (Heap.lt_size e'), by simp [q]⟩
    have z : (hidT h H).get? b = none := PySem.W.hideAll_none (trk h H) hm
    rw [z] at e; cases e

end L2

namespace L2
open PySem PySem.Spec PyProof.Rows

/-- the module's facts, over the base: the heap at the law's entry without what is tracked there -/
structure Mod (K : PySem.W.Frag) (mg : Str → Option Value) (base : Heap) : Prop where
  kin : K.In base
  glob : base.Ns mainGlobals mg
  blt : ∃ mb, base.Ns builtinsNs mb ∧ ∀ x : Str, x ≠ "__name__" → mb x = bootBuiltins x
  nolimit : base.NoLimit

/-- the context: a def's body (or a comprehension's block) running. base: fixed through the whole law; s₀, H₀: the entry; outer: the frames whose slots others may change (a def's callers); stack: all frames that run;
   ex: iterators that were made ahead of the entry and are walked here (a comprehension's); fn: the names whose cells were made at the entry (a def: all; a comprehension's block: its own); calm: not within an except suite; pn: pins that every state bears; xe: what is wanted of an exception that leaves the code -/
structure Cx where
  prog : Program
  w : World
  K : PySem.W.Frag
  mg : Str → Option Value
  base : Heap
  A : Around
  N : List Str
  s_0 : Shared
  H_0 : Hp
  env : Env
  outer : List Env
  stack : List Env
  ex : List Addr
  fn : Str → Bool
  calm : Bool
  pn : List (Addr × Obj)
  xe : Value → Shared → Prop
/-- the callers' frames -/
def frs (l : List Env) : List Addr := l.filterMap (·.frame)
abbrev Cx.fs (X : Cx) : List Addr := frs X.outer

def Vis (sc : Scope) (x : Str) : Prop := sc.names.lookup x = some .local ∨ sc.names.lookup x = some .cell ∨ sc.names.lookup x = some .free
def Loc (sc : Scope) (x : Str) : Prop := sc.names.lookup x = some .local ∨ sc.names.lookup x = some .cell
def Look (env : Env) (h : Heap) (m : Str → Option Value) (x : Str) (u : Value) : Prop :=
  (env.kindOf x = some .local ∧ m x = some u) ∨ ((env.kindOf x = some .cell ∨ env.kindOf x = some .free) ∧ ∃ c, env.cells.lookup x = some c ∧ h.IsCell c (some u))

structure Cx.Ok (X : Cx) : Prop where
  mod : Mod X.K X.mg X.base
  kind : X.env.scope.kind = .function
  glob : X.env.globals = mainGlobals
  blt : X.env.builtins = builtinsNs
  above : X.s_0.heap.objs.size ≤ X.env.locals
  inj : ∀ x y c, X.env.cells.lookup x = some c → X.env.cells.lookup y = some c → x = y
  has : ∀ x, (X.env.kindOf x = some .cell ∨ X.env.kindOf x = some .free) → ∃ c, X.env.cells.lookup x = some c
  cab : ∀ x c, X.fn x = true → X.env.cells.lookup x = some c → X.s_0.heap.objs.size ≤ c
  hd : X.calm = true → X.A.handled = none
  frames : X.A.frames = some X.stack
  stk : X.stack = X.outer ∨ (X.stack = X.env :: X.outer ∧ X.env.frame = some X.env.locals)
  exf : ∀ b ∈ X.ex, b ≠ X.env.locals ∧ ∀ x c, X.env.cells.lookup x = some c → c ≠ b
  bs : ∀ b o, X.base.get? b = some o → X.s_0.heap.get? b = some o ∧ X.H_0 b = none
  bsz : X.base.objs.size ≤ X.s_0.heap.objs.size
  noex : ∀ b o, X.base.get? b = some o → b ∉ X.ex
  exfs : ∀ b ∈ X.ex, b ∉ X.fs
  funs : X.s_0.heap.FunFrames X.base X.outer
  frf : ∀ b ∈ X.fs, X.H_0 b = none

structure Inv (X : Cx) (pins : List (Addr × Obj)) (σ : List (Option V)) (H : Hp) (s : Shared) : Prop where
  ok : X.Ok
  os : s.os = X.s_0.os
  bare : AllBare s.gens
  base : Un X.fs X.ex X.H_0 H X.s_0.heap s.heap
  loc : ∃ m, s.heap.Ns X.env.locals m ∧ ∀ (i : Nat) (x : Str) (v : V), X.N[i]? = some x → σ[i]? = some (some v) → Vis X.env.scope x → ∃ u, RelV v u ∧ Look X.env s.heap m x u
  cell : ∀ x c, X.env.cells.lookup x = some c → ∃ v, s.heap.IsCell c v
  free : H X.env.locals = none
  freeC : ∀ x c, X.env.cells.lookup x = some c → H c = none
  pin : ∀ p ∈ X.pn ++ pins, s.heap.get? p.1 = some p.2 ∧ H p.1 = none ∧ p.1 ≠ X.env.locals ∧ p.1 ∉ X.fs ∧ ∀ v, p.2.data ≠ .cell v
  hok : HOk X.prog X.w H s.heap
  len : σ.length = X.N.length

section
variable {X : Cx} {pins : List (Addr × Obj)} {σ : List (Option V)} {H H' : Hp} {s : Shared} {h' : Heap}

theorem Cx.Ok.nofr (ok : X.Ok) {b : Addr} {o : Obj} (e : X.base.get? b = some o) : b ∉ X.fs := fun hb => by
  have := (ok.funs.mem hb).1
  rw [e] at this; cases this
theorem Inv.bs (I : Inv X pins σ H s) : ∀ b o, X.base.get? b = some o → s.heap.get? b = some o ∧ H b = none := fun b o e =>
  ⟨I.base.keep b o (I.ok.bs b o e).1 (I.ok.bs b o e).2 (I.ok.nofr e) (I.ok.noex b o e), I.base.free b o (I.ok.bs b o e).1 (I.ok.bs b o e).2 (I.ok.noex b o e)⟩
theorem Inv.bk (I : Inv X pins σ H s) : ∀ b o, X.base.get? b = some o → s.heap.get? b = some o := fun b o e => (I.bs b o e).1
theorem Inv.mod (I : Inv X pins σ H s) : Mod X.K X.mg X.base := I.ok.mod
theorem Inv.kIn (I : Inv X pins σ H s) : X.K.In s.heap := I.ok.mod.kin.keeps I.bk
theorem Inv.lt (I : Inv X pins σ H s) : X.env.locals < s.heap.objs.size := let ⟨_, hn, _⟩ := I.loc; hn.lt
theorem Inv.sz (I : Inv X pins σ H s) : X.s_0.heap.objs.size ≤ s.heap.objs.size := Nat.le_trans I.ok.above (Nat.le_of_lt I.lt)
theorem Inv.nofs (I : Inv X pins σ H s) {a : Addr} (h : s.heap.objs.size ≤ a) : a ∉ X.fs := fun hb => by
  obtain ⟨_, o, ho, _⟩ := I.ok.funs.mem hb
  exact absurd (Nat.lt_of_lt_of_le (Heap.lt_size ho) (Nat.le_trans I.sz h)) (Nat.lt_irrefl _)
theorem Inv.cne (I : Inv X pins σ H s) : ∀ x c, X.env.cells.lookup x = some c → c ≠ X.env.locals := fun x c e z => by
  obtain ⟨v, o, ho, hd⟩ := I.cell x c e
  obtain ⟨m, ⟨o', es, ep, ho', hd', _⟩, _⟩ := I.loc
  rw [z, ho'] at ho; cases ho; rw [hd'] at hd; cases hd
theorem Inv.funs (I : Inv X pins σ H s) : s.heap.FunFrames X.base X.outer := by
  have all : ∀ (l : List Env), (∀ b ∈ frs l, b ∈ X.fs) → X.s_0.heap.FunFrames X.base l → s.heap.FunFrames X.base l := by
    intro l
    induction l with
    | nil => intro _ _; trivial
    | cons env r ih =>
      intro hs hl
      obtain ⟨hk, ⟨L, o, hf, hn, ho, hd⟩, hr⟩ := hl
      have hL : L ∈ X.fs := hs L (by unfold frs; rw [List.filterMap_cons, hf]; exact List.mem_cons_self)
      obtain ⟨sl, e⟩ := I.base.slot L o ho (I.ok.frf L hL) hL fun z => I.ok.exfs L z hL
      exact ⟨hk, ⟨L, _, hf, hn, e, hd⟩, ih (fun b hb => hs b (by unfold frs; rw [List.filterMap_cons, hf]; exact List.mem_cons_of_mem _ hb)) hr⟩
  exact all X.outer (fun _ hb => hb) I.ok.funs

/-- the frames that run, for a call -/
theorem Inv.stack (I : Inv X pins σ H s) : s.heap.FunFrames X.base X.stack := by
  rcases I.ok.stk with e | ⟨e, hf⟩
  · rw [e]; exact I.funs
  · rw [e]
    obtain ⟨m, hn, _⟩ := I.loc
    refine .cons (by rw [I.ok.kind]; decide) hf hn ?_ I.funs
    exact Heap.get?_none_of_le (Nat.le_trans I.ok.bsz I.ok.above)
theorem Inv.stkSub (I : Inv X pins σ H s) : ∀ b ∈ frs X.stack, b ∈ X.env.locals :: X.fs := fun b hb => by
  rcases I.ok.stk with e | ⟨e, hf⟩
  · rw [e] at hb; exact List.mem_cons_of_mem _ hb
  · rw [e] at hb
    unfold frs at hb
    rw [List.filterMap_cons, hf] at hb
    exact hb
theorem Inv.stkFree (I : Inv X pins σ H s) : ∀ b ∈ frs X.stack, H b = none := fun b hb => by
  rcases List.mem_cons.mp (I.stkSub b hb) with e | hb
  · rw [e]; exact I.free
  · obtain ⟨_, o, ho, _⟩ := I.ok.funs.mem hb
    exact I.base.free b o ho (I.ok.frf b hb) fun z => I.ok.exfs b z hb

/-- THE STEP: the untracked objects but the frame and the records at ch are kept (the callers' frames up to slots), the frame's map is kept, the new abstract heap is held -/
theorem Inv.step {g' : Array GenState} {t' : Nat} {d' : Drawn} {ch : List Addr} (I : Inv X pins σ H s)
    (hch : ∀ b ∈ ch, (b ∈ X.ex ∨ X.s_0.heap.objs.size ≤ b) ∧ b ≠ X.env.locals ∧ (∀ x c, X.env.cells.lookup x = some c → c ≠ b) ∧ ∀ p ∈ X.pn ++ pins, p.1 ≠ b)
    (keep : ∀ b o, b ≠ X.env.locals → b ∉ X.fs → b ∉ ch → s.heap.get? b = some o → H b = none → h'.get? b = some o)
    (slot : ∀ b o, b ≠ X.env.locals → b ∈ X.fs → b ∉ ch → s.heap.get? b = some o → H b = none → ∃ sl, h'.get? b = some { o with slots := sl }) (free : ∀ b o, b ∉ ch → s.heap.get? b = some o → H b = none → H' b = none)
    (there : ∀ b o, b ∉ ch → s.heap.get? b = some o → ∃ o', h'.get? b = some o')
    (tups : ∀ b xs, H b = some (.tup xs) → H' b = some (.tup xs)) (frzs : ∀ b o u, H b = some (.frz o u) → H' b = some (.frz o u)) (tbls : ∀ b ps, H b = some (.tbl ps) → ∃ more, H' b = some (.tbl (ps ++ more)))
    (ns : ∀ m, s.heap.Ns X.env.locals m → h'.Ns X.env.locals m) (hok : HOk X.prog X.w H' h') (hg : AllBare g') :
    Inv X pins σ H' { s with heap := h', gens := g', drawn := d', toks := t' } := by
  have neL : ∀ b o, X.s_0.heap.get? b = some o → b ≠ X.env.locals := fun b o e => Nat.ne_of_lt (Nat.lt_of_lt_of_le (Heap.lt_size e) I.ok.above)
  have neC : ∀ b o, X.s_0.heap.get? b = some o → b ∉ X.ex → b ∉ ch := fun b o e hx hb => by
    rcases (hch b hb).1 with z | z
    · exact hx z
    · exact absurd (Nat.lt_of_lt_of_le (Heap.lt_size e) z) (Nat.lt_irrefl _)
  have cellK : ∀ x c, X.env.cells.lookup x = some c → ∀ v, s.heap.IsCell c v → h'.IsCell c v := fun x c e v ⟨o, ho, hd⟩ => by
    have nch : c ∉ ch := fun z => (hch c z).2.2.1 x c e rfl
    by_cases hc : c ∈ X.fs
    · obtain ⟨sl, q⟩ := slot c o (I.cne x c e) hc nch ho (I.freeC x c e)
      exact ⟨_, q, hd⟩
    · exact ⟨o, keep c o (I.cne x c e) hc nch ho (I.freeC x c e), hd⟩
  refine ⟨I.ok, I.os, hg, ⟨fun b o e n hb hx => ?_, fun b o e n hb hx => ?_, fun b o e n hx => ?_, fun b o e hx => ?_, fun b xs e => tups b xs (I.base.tups b xs e), fun b o xs e => frzs b o xs (I.base.frzs b o xs e), fun b ps e => ?_⟩, ?_, fun x c e => ?_, ?_, fun x c e => ?_, fun p hp => ?_, hok, I.len⟩
  · exact keep b o (neL b o e) hb (neC b o e hx) (I.base.keep b o e n hb hx) (I.base.free b o e n hx)
  · obtain ⟨sl, e1⟩ := I.base.slot b o e n hb hx
    obtain ⟨sl', e2⟩ := slot b _ (neL b o e) hb (neC b o e hx) e1 (I.base.free b o e n hx)
    exact ⟨sl', e2⟩
  · obtain ⟨o', e1⟩ := I.base.there b o e hx
    exact free b o' (neC b o e hx) e1 (I.base.free b o e n hx)
  · obtain ⟨o', e1⟩ := I.base.there b o e hx
    exact there b o' (neC b o e hx) e1
  · obtain ⟨m1, e1⟩ := I.base.tbls b ps e
    obtain ⟨m2, e2⟩ := tbls b _ e1
    exact ⟨m1 ++ m2, by rw [e2, Array.append_assoc]⟩
  · obtain ⟨m, hn, hl⟩ := I.loc
    refine ⟨m, ns m hn, fun i x v e1 e2 e3 => ?_⟩
    obtain ⟨u, r, l⟩ := hl i x v e1 e2 e3
    refine ⟨u, r, ?_⟩
    rcases l with l | ⟨k, c, e, z⟩
    · exact .inl l
    · exact .inr ⟨k, c, e, cellK x c e _ z⟩
  · obtain ⟨v, z⟩ := I.cell x c e
    exact ⟨v, cellK x c e v z⟩
  · obtain ⟨m, ⟨o, _, _, ho, _⟩, _⟩ := I.loc
    exact free _ o (fun z => (hch _ z).2.1 rfl) ho I.free
  · obtain ⟨v, o, ho, hd⟩ := I.cell x c e
    exact free c o (fun z => (hch c z).2.2.1 x c e rfl) ho (I.freeC x c e)
  · obtain ⟨e, n, ne, nf, d⟩ := I.pin p hp
    have nch : p.1 ∉ ch := fun z => (hch p.1 z).2.2.2 p hp rfl
    exact ⟨keep p.1 p.2 ne nf nch e n, free p.1 p.2 nch e n, ne, nf, d⟩
/-- .. where the frame's own object is kept too -/
theorem Inv.un {t' : Nat} (I : Inv X pins σ H s) (u : Un X.fs [] H H' s.heap h') (hok : HOk X.prog X.w H' h') : Inv X pins σ H' { s with heap := h', toks := t' } := by
  obtain ⟨m, ⟨o, es, ep, ho, r⟩, _⟩ := id I.loc
  obtain ⟨sl, hL⟩ := u.any ho I.free (by simp)
  exact I.step (g' := s.gens) (d' := s.drawn) (ch := []) (fun _ z => nomatch z) (fun b o _ hb _ e n => u.keep b o e n hb (by simp)) (fun b o _ hb _ e n => u.slot b o e n hb (by simp)) (fun b o _ e n => u.free b o e n (by simp)) (fun b o _ e => u.there b o e (by simp)) u.tups u.frzs u.tbls (fun m' hm => by
    obtain ⟨o', es', ep', ho', r'⟩ := hm
    rw [ho] at ho'; cases ho'
    exact ⟨_, es', ep', hL, r'⟩) hok I.bare
/-- behind a call (or a comprehension's block): the slots of this frame may have changed too, the records at ch may have turned -/
theorem Inv.call {g' : Array GenState} {t' : Nat} {d' : Drawn} {ch : List Addr} (I : Inv X pins σ H s) (u : Un (frs X.stack) ch H H' s.heap h') (hok : HOk X.prog X.w H' h') (hg : AllBare g')
    (hch : ∀ b ∈ ch, (b ∈ X.ex ∨ X.s_0.heap.objs.size ≤ b) ∧ b ≠ X.env.locals ∧ (∀ x c, X.env.cells.lookup x = some c → c ≠ b) ∧ ∀ p ∈ X.pn ++ pins, p.1 ≠ b) :
    Inv X pins σ H' { s with heap := h', gens := g', drawn := d', toks := t' } := by
  obtain ⟨m, ⟨o, es, ep, ho, r⟩, _⟩ := id I.loc
  obtain ⟨sl, hL⟩ := u.any ho I.free fun z => (hch _ z).2.1 rfl
  exact I.step (ch := ch) hch (fun b o hL hb hc e n => u.keep b o e n (fun z => (List.mem_cons.mp (I.stkSub b z)).elim hL hb) hc) (fun b o _ _ hc e n => u.any e n hc) (fun b o hc e n => u.free b o e n hc) (fun b o hc e => u.there b o e hc) u.tups u.frzs u.tbls (fun m' hm => by
    obtain ⟨o', es', ep', ho', r'⟩ := hm
    rw [ho] at ho'; cases ho'
    exact ⟨_, es', ep', hL, r'⟩) hok hg
/-- an untracked record of ours (an iterator) has turned -/
theorem Inv.turned {t' : Nat} {it : Addr} (I : Inv X pins σ H s) (k : ∀ b o, b ≠ it → s.heap.get? b = some o → h'.get? b = some o) (hn : H it = none) (hL : it ≠ X.env.locals)
    (h1 : it ∈ X.ex ∨ X.s_0.heap.objs.size ≤ it) (h2 : ∀ x c, X.env.cells.lookup x = some c → c ≠ it) (h3 : ∀ p ∈ X.pn ++ pins, p.1 ≠ it) : Inv X pins σ H { s with heap := h', toks := t' } := by
  have nit : ∀ b u, H b = some u → b ≠ it := fun b u e z => by rw [z, hn] at e; cases e
  refine I.step (g' := s.gens) (d' := s.drawn) (ch := [it]) (fun b hb => ?_) (fun b o _ _ hc e _ => k b o (fun z => hc (by simp [z])) e) (fun b o _ _ hc e _ => ⟨o.slots, k b o (fun z => hc (by simp [z])) e⟩) (fun _ _ _ _ n => n)
    (fun b o hc e => ⟨o, k b o (fun z => hc (by simp [z])) e⟩) (fun _ _ e => e) (fun _ _ _ e => e) (fun b ps e => ⟨#[], by rw [e]; simp⟩) (fun m hm => ?_) (fun b u e => ?_) I.bare
  · have e : b = it := by simpa using hb
    subst e
    exact ⟨h1, hL, h2, h3⟩
  · obtain ⟨o, es, ep, ho, r⟩ := hm
    exact ⟨o, es, ep, k _ o (Ne.symm hL) ho, r⟩
  · refine (I.hok b u e).stay (fun c v hc q => k c v ?_ q) (fun _ q => q) fun _ _ q => q
    rcases hc with z | z
    · rw [z]; exact nit b u e
    · exact nit c _ z
theorem Inv.tok (I : Inv X pins σ H s) (t : Nat) : Inv X pins σ H { s with toks := t } := I.un (h' := s.heap) (t' := t) Un.refl I.hok
/-- all objects kept -/
theorem Inv.kept {t' : Nat} (I : Inv X pins σ H s) (k : ∀ b u, s.heap.get? b = some u → h'.get? b = some u) : Inv X pins σ H { s with heap := h', toks := t' } := I.un (Un.kept k) (I.hok.kept k)
/-- a new object laid and tracked -/
theorem Inv.laid {a : Addr} {o : HO} {t' : Nat} (I : Inv X pins σ H s) (k : ∀ b u, s.heap.get? b = some u → h'.get? b = some u) (hp : s.heap.objs.size ≤ a) (new : ObjOk X.prog X.w (upd H a o) h' a o) :
    Inv X pins σ (upd H a o) { s with heap := h', toks := t' } := I.un (Un.laid k hp (I.hok.fresh hp)) (I.hok.laid k hp new)
/-- an object written -/
theorem Inv.write {x e : Addr} {o : HO} {t' : Nat} (I : Inv X pins σ H s) (mu : Mut (H x)) (he : e = x ∨ H e = some (.own x)) (k : ∀ b u, b ≠ e → s.heap.get? b = some u → h'.get? b = some u) (heo : ∃ u, h'.get? e = some u)
    (new : ObjOk X.prog X.w (upd H x o) h' x o) : Inv X pins σ (upd H x o) { s with heap := h', toks := t' } := I.un (Un.write mu he k heo) (I.hok.write mu he k heo new)
/-- forgetting slots, pins -/
theorem Inv.weak {σ' : List (Option V)} (I : Inv X pins σ H s) (hl : σ'.length = σ.length) (w : ∀ (i : Nat) v, σ'[i]? = some (some v) → σ[i]? = some (some v)) : Inv X pins σ' H s :=
  ⟨I.ok, I.os, I.bare, I.base, let ⟨m, hn, hl'⟩ := I.loc; ⟨m, hn, fun i x v e1 e2 e3 => hl' i x v e1 (w i v e2) e3⟩, I.cell, I.free, I.freeC, I.pin, I.hok, hl.trans I.len⟩
theorem Inv.pins_of {pins' : List (Addr × Obj)} (I : Inv X pins σ H s) (h : ∀ p ∈ pins', s.heap.get? p.1 = some p.2 ∧ H p.1 = none ∧ p.1 ≠ X.env.locals ∧ p.1 ∉ X.fs ∧ ∀ v, p.2.data ≠ .cell v) : Inv X pins' σ H s :=
  ⟨I.ok, I.os, I.bare, I.base, I.loc, I.cell, I.free, I.freeC, fun p hp => (List.mem_append.mp hp).elim (fun z => I.pin p (List.mem_append_left _ z)) (h p), I.hok, I.len⟩

theorem nodup_ix {N : List Str} (hN : N.Nodup) {i j : Nat} {x : Str} (a : N[i]? = some x) (b : N[j]? = some x) : i = j := by
  obtain ⟨h1, e1⟩ := List.getElem?_eq_some_iff.mp a
  obtain ⟨h2, e2⟩ := List.getElem?_eq_some_iff.mp b
  exact (List.getElem_inj hN).mp (e1.trans e2.symm)

/-- a name is stored; what changed -/
theorem store_ok2 {M : Model} {A : Around} {E : Value → Shared → Prop} {i : Nat} {x : Str} {v : V} {u : Value} {Q : Unit → Shared → Prop} (I : Inv X pins σ H s) (hN : X.N.Nodup) (hi : X.N[i]? = some x) (hx : Loc X.env.scope x) (r : RelV v u)
    (h : ∀ s', Inv X pins (σ.set i (some v)) H s' → (∃ a, Heap.SameBut a s.heap s'.heap ∧ (a = X.env.locals ∨ X.env.cells.lookup x = some a)) → Q () s') (hf : X.fn x = true ∨ X.env.scope.names.lookup x = some .local := by first | exact .inl rfl | exact .inr rfl | assumption) : wpAny M A (storeName X.env x u) Q E s := by
  obtain ⟨m, hn, hl⟩ := id I.loc
  have hcls : (X.env.scope.kind == .class || (X.env.scope.kind == .module && X.env.locals != X.env.globals)) = false := by rw [I.ok.kind]; rfl
  have hiσ : i < σ.length := by rw [I.len]; exact (List.getElem?_eq_some_iff.mp hi).1
  have cne := I.cne
  have tracked : ∀ {a : Addr} {h' : Heap}, (∃ o, s.heap.get? a = some o ∧ H a = none) → Heap.SameBut a s.heap h' → HOk X.prog X.w H h' := fun {a h'} ha hs b ob e => by
    obtain ⟨_, _, hfree⟩ := ha
    refine (I.hok b ob e).stay (fun c w' hc q => (hs.2 c ?_).trans q) (fun _ q => q) fun _ _ q => q
    rintro rfl
    rcases hc with rfl | hc
    · rw [hfree] at e; cases e
    · rw [hfree] at hc; cases hc
  rcases hx with hk | hk
  · refine wpAny_storeName_local hk hn (fun h' hn' hs => ?_) hcls
    obtain ⟨oL, _, _, hoL, _⟩ := id hn
    refine h _ ⟨I.ok, I.os, I.bare, ⟨fun b o e n hb hx => ?_, fun b o e n hb hx => ?_, I.base.free, fun b o e hx => ?_, I.base.tups, I.base.frzs, I.base.tbls⟩, ⟨_, hn', fun j y v' e1 e2 e3 => ?_⟩, fun y c e => ?_, I.free, I.freeC, fun p hp => ?_, tracked ⟨oL, hoL, I.free⟩ hs, by simpa using I.len⟩ ⟨_, hs, .inl rfl⟩
    · exact (hs.2 b (Nat.ne_of_lt (Nat.lt_of_lt_of_le (Heap.lt_size e) I.ok.above))).trans (I.base.keep b o e n hb hx)
    · obtain ⟨sl, e1⟩ := I.base.slot b o e n hb hx
      exact ⟨sl, (hs.2 b (Nat.ne_of_lt (Nat.lt_of_lt_of_le (Heap.lt_size e) I.ok.above))).trans e1⟩
    · obtain ⟨o', e1⟩ := I.base.there b o e hx
      exact ⟨o', (hs.2 b (Nat.ne_of_lt (Nat.lt_of_lt_of_le (Heap.lt_size e) I.ok.above))).trans e1⟩
    · by_cases hj : j = i
      · subst hj
        rw [hi] at e1; cases e1
        rw [List.getElem?_set_self hiσ] at e2
        cases e2
        exact ⟨u, r, .inl ⟨hk, by simp⟩⟩
      · rw [List.getElem?_set_ne (Ne.symm hj)] at e2
        obtain ⟨u', r', q⟩ := hl j y v' e1 e2 e3
        refine ⟨u', r', ?_⟩
        rcases q with ⟨k, e⟩ | ⟨k, c, e, z⟩
        · refine .inl ⟨k, ?_⟩
          have : y ≠ x := fun e => hj (nodup_ix hN e1 (e ▸ hi))
          simp [this, e]
        · exact .inr ⟨k, c, e, z.sameBut hs (cne y c e)⟩
    · obtain ⟨w', z⟩ := I.cell y c e
      exact ⟨w', z.sameBut hs (cne y c e)⟩
    · obtain ⟨e, n, ne, nf, d⟩ := I.pin p hp
      exact ⟨(hs.2 p.1 ne).trans e, n, ne, nf, d⟩
  · have hfn : X.fn x = true := by
      rcases hf with z | z
      · exact z
      · rw [z] at hk; cases hk
    obtain ⟨c, hc⟩ := I.ok.has x (.inl hk)
    obtain ⟨w', z⟩ := I.cell x c hc
    refine wpAny_storeName_cell I.ok.kind hk hc z (fun h' hc' hs => ?_)
    obtain ⟨oc, hoc, hocd⟩ := id z
    refine h { s with heap := h' } ⟨I.ok, I.os, I.bare, ⟨fun b o e n hb hx => ?_, fun b o e n hb hx => ?_, I.base.free, fun b o e hx => ?_, I.base.tups, I.base.frzs, I.base.tbls⟩, ⟨m, hn.sameBut hs (Ne.symm (cne x c hc)), fun j y v' e1 e2 e3 => ?_⟩, fun y c' e => ?_, I.free, I.freeC, fun p hp => ?_, tracked ⟨oc, hoc, I.freeC x c hc⟩ hs, by simpa using I.len⟩ ⟨c, hs, .inr hc⟩
    · exact (hs.2 b (Nat.ne_of_lt (Nat.lt_of_lt_of_le (Heap.lt_size e) (I.ok.cab x c hfn hc)))).trans (I.base.keep b o e n hb hx)
    · obtain ⟨sl, e1⟩ := I.base.slot b o e n hb hx
      exact ⟨sl, (hs.2 b (Nat.ne_of_lt (Nat.lt_of_lt_of_le (Heap.lt_size e) (I.ok.cab x c hfn hc)))).trans e1⟩
    · obtain ⟨o', e1⟩ := I.base.there b o e hx
      exact ⟨o', (hs.2 b (Nat.ne_of_lt (Nat.lt_of_lt_of_le (Heap.lt_size e) (I.ok.cab x c hfn hc)))).trans e1⟩
    · by_cases hj : j = i
      · subst hj
        rw [hi] at e1; cases e1
        rw [List.getElem?_set_self hiσ] at e2
        cases e2
        exact ⟨u, r, .inr ⟨.inl hk, c, hc, hc'⟩⟩
      · rw [List.getElem?_set_ne (Ne.symm hj)] at e2
        obtain ⟨u', r', q⟩ := hl j y v' e1 e2 e3
        refine ⟨u', r', ?_⟩
        rcases q with q | ⟨k, c', e, z'⟩
        · exact .inl q
        · refine .inr ⟨k, c', e, z'.sameBut hs ?_⟩
          rintro rfl
          exact hj (nodup_ix hN e1 (I.ok.inj _ _ _ e hc ▸ hi))
    · by_cases hcc : c' = c
      · subst hcc; exact ⟨_, hc'⟩
      · obtain ⟨w2, z2⟩ := I.cell y c' e
        exact ⟨w2, z2.sameBut hs hcc⟩
    · obtain ⟨e, n, ne, nf, d⟩ := I.pin p hp
      refine ⟨(hs.2 p.1 ?_).trans e, n, ne, nf, d⟩
      intro q
      rw [q, hoc] at e
      have q' : oc = p.2 := Option.some.inj e
      exact d w' (by rw [← q']; exact hocd)
theorem store_ok {M : Model} {A : Around} {E : Value → Shared → Prop} {i : Nat} {x : Str} {v : V} {u : Value} {Q : Unit → Shared → Prop} (I : Inv X pins σ H s) (hN : X.N.Nodup) (hi : X.N[i]? = some x) (hx : Loc X.env.scope x) (r : RelV v u)
    (h : ∀ s', Inv X pins (σ.set i (some v)) H s' → Q () s') (hf : X.fn x = true ∨ X.env.scope.names.lookup x = some .local := by first | exact .inl rfl | exact .inr rfl | assumption) : wpAny M A (storeName X.env x u) Q E s :=
  store_ok2 I hN hi hx r (fun s' I' _ => h s' I') hf
/-- behind a call or a block, the state as it is -/
theorem Inv.call' {s' : Shared} {ch : List Addr} (I : Inv X pins σ H s) (ho : s'.os = s.os) (u : Un (frs X.stack) ch H H' s.heap s'.heap) (hok : HOk X.prog X.w H' s'.heap) (hg : AllBare s'.gens)
    (hch : ∀ b ∈ ch, (b ∈ X.ex ∨ X.s_0.heap.objs.size ≤ b) ∧ b ≠ X.env.locals ∧ (∀ x c, X.env.cells.lookup x = some c → c ≠ b) ∧ ∀ p ∈ X.pn ++ pins, p.1 ≠ b) : Inv X pins σ H' s' := by
  obtain ⟨h', g', d', t', o'⟩ := s'
  have e : o' = s.os := ho
  subst e
  exact I.call (g' := g') (t' := t') (d' := d') u hok hg hch
end

/-- an exception: its class, its own dict's address (where it has one), the abstract heap behind it -/
abbrev XK := Value → Option Addr → Hp → Prop
abbrev St := List (Option V)
abbrev VK := V → Hp → Prop
/-- an expression's reading; a test's; an argument list's -/
abbrev TE := St → Hp → VK → Prop
abbrev TT := St → Hp → (Bool → Hp → Prop) → Prop
abbrev TA := St → Hp → (List V → Hp → Prop) → Prop
/-- what is wanted behind a statement -/
structure Ends where
  nx : St → Hp → Prop
  rt : VK
  bk : St → Hp → Prop := fun _ _ => False
  ct : St → Hp → Prop := fun _ _ => False
abbrev TS := Ends → St → Hp → Prop

def EP (X : Cx) (pins : List (Addr × Obj)) (σ : St) (Q : VK) (u : Value) (s' : Shared) : Prop := ∃ v H', Inv X pins σ H' s' ∧ RelV v u ∧ Q v H'
def TP (X : Cx) (pins : List (Addr × Obj)) (σ : St) (Q : Bool → Hp → Prop) (b : Bool) (s' : Shared) : Prop := ∃ H', Inv X pins σ H' s' ∧ Q b H'
def AP (X : Cx) (pins : List (Addr × Obj)) (σ : St) (Q : List V → Hp → Prop) (us : List Value) (s' : Shared) : Prop := ∃ vs H', Inv X pins σ H' s' ∧ Vals vs us ∧ Q vs H'
def SP (X : Cx) (pins : List (Addr × Obj)) (D : Ends) (f : Flow) (s' : Shared) : Prop :=
  match f with
  | .next => ∃ σ' H', Inv X pins σ' H' s' ∧ D.nx σ' H'
  | .brk => ∃ σ' H', Inv X pins σ' H' s' ∧ D.bk σ' H'
  | .cont => ∃ σ' H', Inv X pins σ' H' s' ∧ D.ct σ' H'
  | .ret u => ∃ v σ' H', Inv X pins σ' H' s' ∧ RelV v u ∧ D.rt v H'

def PE (X : Cx) (e : Expr) (t : TE) : Prop :=
  ∀ (pins : List (Addr × Obj)) (s : Shared) (σ : St) (H : Hp) (Q : VK), Inv X pins σ H s → t σ H Q → wpAny (model X.prog X.w) X.A (eval e X.env) (EP X pins σ Q) X.xe s
def PT (X : Cx) (e : Expr) (t : TT) : Prop :=
  ∀ (pins : List (Addr × Obj)) (s : Shared) (σ : St) (H : Hp) (Q : Bool → Hp → Prop), Inv X pins σ H s → t σ H Q → wpAny (model X.prog X.w) X.A (isTrue e X.env (eval e X.env)) (TP X pins σ Q) X.xe s
/-- a test whatever its 'whole' is (and, or) -/
def PW (X : Cx) (e : Expr) (t : TT) : Prop :=
  ∀ (whole : Sem Value) (pins : List (Addr × Obj)) (s : Shared) (σ : St) (H : Hp) (Q : Bool → Hp → Prop), Inv X pins σ H s → t σ H Q → wpAny (model X.prog X.w) X.A (isTrue e X.env whole) (TP X pins σ Q) X.xe s
theorem PW.pt {X : Cx} {e : Expr} {t : TT} (h : PW X e t) : PT X e t := h _
/-- an argument list (no star), from the left -/
def PA (X : Cx) (es : List Expr) (t : TA) : Prop :=
  ∀ (pos : Pos) (pins : List (Addr × Obj)) (s : Shared) (σ : St) (H : Hp) (Q : List V → Hp → Prop), Inv X pins σ H s → t σ H Q → wpAny (model X.prog X.w) X.A (spliced (backTo pos (starEach es X.env))) (AP X pins σ Q) X.xe s
def PS (X : Cx) (st : Stmt) (t : TS) : Prop :=
  ∀ (pins : List (Addr × Obj)) (s : Shared) (σ : St) (H : Hp) (D : Ends), Inv X pins σ H s → t D σ H → wpAny (model X.prog X.w) X.A (exec st X.env) (SP X pins D) X.xe s
def PSs (X : Cx) (st : List Stmt) (t : TS) : Prop :=
  ∀ (pins : List (Addr × Obj)) (s : Shared) (σ : St) (H : Hp) (D : Ends), Inv X pins σ H s → t D σ H → wpAny (model X.prog X.w) X.A (execs st X.env) (SP X pins D) X.xe s
/-- weaken the end -/
theorem thn {α : Type} {t : Sem α} {Q Q' : α → Shared → Prop} {M : Model} {A : Around} {E : Value → Shared → Prop} {s : Shared} (h : wpAny M A t Q E s) (hQ : ∀ a s, Q a s → Q' a s) : wpAny M A t Q' E s := wpAny_mono h hQ fun _ _ x => x
end L2

namespace L2
open PySem PySem.Spec PyProof.Rows
section
variable {X : Cx}

/-- two expressions in a row -/
theorem bin {a b : Expr} {ta tb : TE} (ha : PE X a ta) (hb : PE X b tb) {pins : List (Addr × Obj)} {s : Shared} {σ : St} {H : Hp} {R : V → V → Hp → Prop} (I : Inv X pins σ H s) (h : ta σ H fun x H1 => tb σ H1 fun y H2 => R x y H2)
    {α : Type} {Q : α → Shared → Prop} {f : Value → Value → Sem α}
    (hf : ∀ v u s2 x y H2, Inv X pins σ H2 s2 → RelV x v → RelV y u → R x y H2 → wpAny (model X.prog X.w) X.A (f v u) Q X.xe s2) :
    wpAny (model X.prog X.w) X.A (eval a X.env) (fun v s₁ => wpAny (model X.prog X.w) X.A (eval b X.env) (fun u s₂ => wpAny (model X.prog X.w) X.A (f v u) Q X.xe s₂) X.xe s₁) X.xe s := by
  refine thn (ha pins s σ H _ I h) fun v s1 ⟨x, H1, I1, r1, q1⟩ => ?_
  refine thn (hb pins s1 σ H1 _ I1 q1) fun u s2 ⟨y, H2, I2, r2, q2⟩ => ?_
  exact hf v u s2 x y H2 I2 r1 r2 q2

def tVar (i : Nat) : TE := fun σ H Q => ∃ v, σ[i]? = some (some v) ∧ Q v H
def tC (v : V) : TE := fun _ H Q => Q v H
theorem pe_var {i : Nat} {x : Str} {pos : Pos} (hN : X.N[i]? = some x) (hv : Vis X.env.scope x) (hd : (x == ("__debug__" : Str)) = false := by decide) (hcd : (x == ("__classdict__" : Str)) = false := by decide) : PE X (.Name x pos) (tVar i) := by
  intro pins s σ H Q I h
  obtain ⟨v, e, h⟩ := h
  obtain ⟨m, hn, hl⟩ := I.loc
  obtain ⟨u, r, l⟩ := hl i x v hN e hv
  have fin : EP X pins σ Q u s := ⟨v, H, I, r, h⟩
  rcases l with ⟨hk, hm⟩ | ⟨hk, c, hc, hcell⟩
  · exact wpAny_Name (wpAny_loadName_local I.ok.kind hk hn hm fin) hd
  · rcases hk with hk | hk
    · exact wpAny_Name (wpAny_loadName_cell I.ok.kind hk hc hcell fin) hd
    · exact wpAny_Name (wpAny_loadName_free I.ok.kind hk hc hcell fin hcd) hd
theorem pe_int {i j pos} : PE X (.Constant (.int i) j pos) (tC (.int i)) := fun _ _ _ H _ I h => wpAny_Constant_int ⟨.int i, H, I.tok _, ⟨_, rfl⟩, h⟩
/-- a global name of the def -/
def Gl (X : Cx) (x : Str) : Prop := X.env.kindOf x = some .globalImplicit
theorem ld_glob {E : Value → Shared → Prop} {pins : List (Addr × Obj)} {s : Shared} {σ : St} {H : Hp} {x : Str} {u : Value} {pos : Pos} {Q : Value → Shared → Prop} (I : Inv X pins σ H s) (hg : Gl X x) (hm : X.mg x = some u) (h : Q u s)
    (hd : (x == ("__debug__" : Str)) = false := by decide) : wpAny (model X.prog X.w) X.A (eval (.Name x pos) X.env) Q E s :=
  Calls.Name_function_global I.ok.kind hg (Calls.loadGlobal_global (by rw [I.ok.glob]; exact I.mod.glob.keeps I.bk) hm h) hd
theorem ld_blt {E : Value → Shared → Prop} {pins : List (Addr × Obj)} {s : Shared} {σ : St} {H : Hp} {x : Str} {u : Value} {pos : Pos} {Q : Value → Shared → Prop} (I : Inv X pins σ H s) (hg : Gl X x) (hm : X.mg x = none) (hv : bootBuiltins x = some u) (h : Q u s)
    (hn : x ≠ "__name__" := by decide) (hd : (x == ("__debug__" : Str)) = false := by decide) : wpAny (model X.prog X.w) X.A (eval (.Name x pos) X.env) Q E s := by
  obtain ⟨mb, h1, h2⟩ := I.mod.blt
  exact Calls.Name_function_global I.ok.kind hg (Calls.loadGlobal_builtin (by rw [I.ok.glob]; exact I.mod.glob.keeps I.bk) hm (by rw [I.ok.blt]; exact h1.keeps I.bk) ((h2 x hn).trans hv) h) hd
/-- a module's constant, a class, a function, as a value -/
theorem pe_glob {x : Str} {v : V} {u : Value} {pos : Pos} (hg : Gl X x) (hm : X.mg x = some u) (r : RelV v u) (hd : (x == ("__debug__" : Str)) = false := by decide) : PE X (.Name x pos) (tC v) :=
  fun _ _ _ H _ I h => ld_glob I hg hm ⟨v, H, I, r, h⟩ hd
/-- two natInts -/
def t2I (ta tb : TE) (k : Int → Int → Hp → Prop) : St → Hp → Prop := fun σ H => ta σ H fun x H1 => tb σ H1 fun y H2 => ∃ i j, x = .int i ∧ y = .int j ∧ k i j H2
variable {a b : Expr} {ta tb : TE} {pos : Pos}
def PC (X : Cx) (op : CmpOp) (a b : Expr) (t : TE) : Prop :=
  ∀ (pins : List (Addr × Obj)) (s : Shared) (σ : St) (H : Hp) (Q : VK), Inv X pins σ H s → t σ H Q →
    wpAny (model X.prog X.w) X.A (eval a X.env) (fun v s₁ => wpAny (model X.prog X.w) X.A (eval b X.env) (fun u s₂ => wpAny (model X.prog X.w) X.A (compareOp op v u) (EP X pins σ Q) X.xe s₂) X.xe s₁) X.xe s
theorem nobehind (b : Expr) {op : CmpOp} (h : op ≠ .In) (h2 : op ≠ .NotIn) : behindInMarks op b = false := by
  have e1 : (op == CmpOp.In) = false := by cases op <;> first | rfl | exact absurd rfl h
  have e2 : (op == CmpOp.NotIn) = false := by cases op <;> first | rfl | exact absurd rfl h2
  cases b <;> simp [behindInMarks, e1, e2]
def tCmp (p : Int → Int → Bool) (ta tb : TE) : TE := fun σ H Q => t2I ta tb (fun i j H2 => Q (.bl (p i j)) H2) σ H
abbrev tLt : TE → TE → TE := tCmp fun i j => decide (i < j)
abbrev tLe : TE → TE → TE := tCmp fun i j => decide (i ≤ j)
abbrev tGt : TE → TE → TE := tCmp fun i j => decide (j < i)
abbrev tGe : TE → TE → TE := tCmp fun i j => decide (j ≤ i)
abbrev tNeI : TE → TE → TE := tCmp fun i j => !decide (i = j)
/-- a comparison of two natInts, by its rule -/
theorem pc_int {op : CmpOp} {p : Int → Int → Bool} (ha : PE X a ta) (hb : PE X b tb)
    (rule : ∀ (i j : Int) (t u : Tok) (Q : Value → Shared → Prop) (s : Shared), Q (.bool (p i j)) s → wpAny (model X.prog X.w) X.A (compareOp op (.int i t) (.int j u)) Q X.xe s) : PC X op a b (tCmp p ta tb) := by
  intro pins s σ H Q I h
  refine bin ha hb I h fun v u s2 x y H2 I2 rx ry q => ?_
  obtain ⟨i, j, rfl, rfl, q⟩ := q
  obtain ⟨t, rfl⟩ := rx
  obtain ⟨t', rfl⟩ := ry
  exact rule i j t t' _ s2 ⟨.bl _, H2, I2, rfl, q⟩
theorem pc_lt (ha : PE X a ta) (hb : PE X b tb) : PC X .Lt a b (tLt ta tb) := pc_int ha hb fun _ _ _ _ _ _ h => lt_int h
theorem pc_le (ha : PE X a ta) (hb : PE X b tb) : PC X .LtE a b (tLe ta tb) := pc_int ha hb fun _ _ _ _ _ _ h => le_int h
theorem pc_gt (ha : PE X a ta) (hb : PE X b tb) : PC X .Gt a b (tGt ta tb) := pc_int ha hb fun _ _ _ _ _ _ h => gt_int h
theorem pc_ge (ha : PE X a ta) (hb : PE X b tb) : PC X .GtE a b (tGe ta tb) := pc_int ha hb fun _ _ _ _ _ _ h => ge_int h
theorem pc_neI (ha : PE X a ta) (hb : PE X b tb) : PC X .NotEq a b (tNeI ta tb) := pc_int ha hb fun _ _ _ _ _ _ h => ne_int (by rw [bne, Bool.beq_eq_decide_eq]; exact h)
/-- a comparison as a value, as a test -/
def tB (t : TE) : TT := fun σ H Q => t σ H fun x H1 => ∃ c, x = .bl c ∧ Q c H1
theorem pe_cmp {op : CmpOp} {t : TE} (h : PC X op a b t) (h1 : behindInMarks op b = false := by first | exact nobehind _ (by decide) (by decide) | rfl) : PE X (.Compare a [op] [b] pos) t := fun pins s σ H Q I hw => wpAny_Compare1 (h pins s σ H Q I hw) h1
theorem pt_cmp {op : CmpOp} {t : TE} (h : PC X op a b t) (h1 : behindInMarks op b = false := by first | exact nobehind _ (by decide) (by decide) | rfl) : PT X (.Compare a [op] [b] pos) (tB t) := by
  intro pins s σ H Q I hw
  refine wpAny_isTrue_Compare1 (thn (h pins s σ H _ I hw) fun v s1 h1 => thn h1 fun u s2 h2 => thn h2 fun c s3 ⟨x, H1, I1, r1, q1⟩ => ?_) h1
  obtain ⟨d, rfl, q⟩ := q1
  cases r1
  exact wpAny_truthy_bool ⟨H1, I1, q⟩
/-- an expression whose value is a bool, as a test -/
theorem pt_val {e : Expr} {t : TE} (h : PE X e t) (he : ∀ whole, isTrue e X.env whole = (do let v ← whole; standAt e.pos; holding [v] (truthy v)) := by intro _; rfl) : PT X e (tB t) := by
  intro pins s σ H Q I hw
  refine isTrue_plain (thn (h pins s σ H _ I hw) fun v s1 ⟨x, H1, I1, r1, q1⟩ => ?_) (he _)
  obtain ⟨d, rfl, q⟩ := q1
  cases r1
  exact wpAny_truthy_bool ⟨H1, I1, q⟩

variable {tA tB' : TT} {rest : List Expr}
def tOr (t u : TT) : TT := fun σ H Q => t σ H fun c H1 => if c = true then Q true H1 else u σ H1 Q
def tNot (t : TT) : TT := fun σ H Q => t σ H fun c H1 => Q (!c) H1
theorem pw_or1 (ha : PT X a tA) : PW X (.BoolOp .Or [a] pos) tA := by
  intro wh pins s σ H Q I h
  refine isTrue_or (thn (ha pins s σ H Q I h) fun c s1 e => ?_)
  cases c with
  | false => exact isTrue_or_nil e
  | true => exact e
theorem pw_or (ha : PT X a tA) (hb : PW X (.BoolOp .Or (b :: rest) pos) tB') : PW X (.BoolOp .Or (a :: b :: rest) pos) (tOr tA tB') := by
  intro wh pins s σ H Q I h
  refine isTrue_or (thn (ha pins s σ H _ I h) fun c s1 ⟨H1, I1, q1⟩ => ?_)
  cases c with
  | true => exact ⟨H1, I1, q1⟩
  | false => exact hb wh pins s1 σ H1 Q I1 q1
theorem pt_not (ha : PT X a tA) : PT X (.UnaryOp .Not a pos) (tNot tA) := by
  intro pins s σ H Q I h
  exact isTrue_not (ha pins s σ H (fun c H1 => Q (!c) H1) I h)
def tOrV (ta tb : TE) : TE := fun σ H Q => ta σ H fun x H1 => ∃ c, x = .bl c ∧ if c = true then Q (.bl true) H1 else tb σ H1 Q
theorem pe_one {op} {t : TE} (h : PE X a t) : PE X (.BoolOp op [a] pos) t := fun pins s σ H Q I hw => BoolOp_one (h pins s σ H Q I hw)
theorem pe_or (ha : PE X a ta) (hb : PE X (.BoolOp .Or (b :: rest) pos) tb) : PE X (.BoolOp .Or (a :: b :: rest) pos) (tOrV ta tb) := by
  intro pins s σ H Q I h
  refine BoolOp_or (thn (ha pins s σ H _ I h) fun v s1 ⟨x, H1, I1, r1, q1⟩ => ?_)
  obtain ⟨c, rfl, q1⟩ := q1
  cases r1
  refine wpAny_truthy_bool ?_
  cases c with
  | false => exact hb pins s1 σ H1 Q I1 q1
  | true => exact ⟨.bl true, H1, I1, rfl, q1⟩
/-- a if t else b -/
def tIf (t : TT) (ta tb : TE) : TE := fun σ H Q => t σ H fun c H1 => if c = true then ta σ H1 Q else tb σ H1 Q
theorem pe_ifExp {c : Expr} (hc : PT X c tA) (ha : PE X a ta) (hb : PE X b tb) : PE X (.IfExp c a b pos) (tIf tA ta tb) := by
  intro pins s σ H Q I h
  refine wpAny_IfExp (thn (hc pins s σ H _ I h) fun d s1 ⟨H1, I1, q1⟩ => ?_)
  cases d with
  | true => exact ha pins s1 σ H1 Q I1 q1
  | false => exact hb pins s1 σ H1 Q I1 q1
end
end L2

namespace L2
open PySem PySem.Spec PyProof.Rows

def SqL (K : PySem.W.Frag) (H : Hp) (a : Addr) (xs : List V) : Prop :=
  Rd H a (.lst xs) ∨
    ∃ (o : Obj) (its : Array Value) (n : Nat), K.lookup a = some o ∧ o.cls = .type "list" ∧ o.dict = none ∧ o.data = .seq its n ∧ its.size ≤ sizeLine ∧ Vals xs its.toList
def SqT (K : PySem.W.Frag) (H : Hp) (a : Addr) (xs : List V) : Prop :=
  Rd H a (.tup xs) ∨
    ∃ (o : Obj) (its : Array Value) (n : Nat), K.lookup a = some o ∧ o.cls = .type "tuple" ∧ o.data = .seq its n ∧ its.size ≤ sizeLine ∧ Vals xs its.toList
def absV : Value → Option V
  | .none => some .non
  | .bool b => some (.bl b)
  | .int i _ => some (.int i)
  | .str x _ => some (.str x)
  | .bytes b _ => some (.byt b)
  | .float b _ => some (.flt b)
  | .ref a => some (.ref a)
  | .type n => some (.ty n)
  | _ => none
theorem RelV.abs {x : V} {u : Value} (r : RelV x u) : absV u = some x := by
  cases x with
  | non => cases r; rfl
  | bl _ => cases r; rfl
  | int _ => obtain ⟨t, rfl⟩ := r; rfl
  | str _ => obtain ⟨t, rfl⟩ := r; rfl
  | byt _ => obtain ⟨t, rfl⟩ := r; rfl
  | flt _ => obtain ⟨t, rfl⟩ := r; rfl
  | ref _ => cases r; rfl
  | ty _ => cases r; rfl
theorem RelV.inj {x y : V} {u : Value} (r : RelV x u) (q : RelV y u) : x = y := Option.some.inj (r.abs.symm.trans q.abs)
theorem Vals.inj : ∀ {xs ys : List V} {us : List Value}, Vals xs us → Vals ys us → xs = ys
  | _, _, _, .nil, .nil => rfl
  | _, _, _, .cons r t, .cons r' t' => by rw [r.inj r', Vals.inj t t']
section
variable {X : Cx} {pins : List (Addr × Obj)} {σ : St} {H : Hp} {s : Shared} {a : Addr} {xs ys : List V}
theorem SqL.of {K : PySem.W.Frag} (h : H a = some (.lst xs)) : SqL K H a xs := .inl (.inl h)
theorem Inv.list (I : Inv X pins σ H s) (h : SqL X.K H a xs) : ∃ its : List Value, Vals xs its ∧ PlainL s.heap a its.toArray ∧ xs.length ≤ sizeLine := by
  rcases h with h | ⟨o, its, n, hk, hc, hd, hs, hz, r⟩
  · obtain ⟨z, its, n, r, e⟩ := h.ok I.hok
    exact ⟨its, r, ⟨_, n, e, rfl, rfl, rfl⟩, z⟩
  · refine ⟨its.toList, r, ⟨o, n, I.kIn a o hk, hc, hd, by simpa using hs⟩, ?_⟩
    have e := r.length
    simp only [Array.length_toList] at e
    omega
theorem Inv.tuple (I : Inv X pins σ H s) (h : SqT X.K H a xs) : ∃ its : List Value, Vals xs its ∧ IsTup s.heap a its.toArray ∧ xs.length ≤ sizeLine := by
  rcases h with h | ⟨o, its, n, hk, hc, hs, hz, r⟩
  · obtain ⟨z, its, r, p⟩ := h.ok I.hok
    exact ⟨its, r, p, z⟩
  · refine ⟨its.toList, r, ⟨o, I.kIn a o hk, hc, n, by simpa using hs⟩, ?_⟩
    have e := r.length
    simp only [Array.length_toList] at e
    omega
theorem Inv.list_inj (I : Inv X pins σ H s) (h : SqL X.K H a xs) (h' : SqL X.K H a ys) : xs = ys := by
  obtain ⟨its, r, ⟨o, n, e, _, _, d⟩, _⟩ := I.list h
  obtain ⟨its', r', ⟨o', n', e', _, _, d'⟩, _⟩ := I.list h'
  rw [e] at e'; cases e'
  rw [d] at d'
  injection d' with d1 _
  have : its = its' := by simpa using congrArg Array.toList d1
  subst this
  exact r.inj r'
end

abbrev Cx.wish (X : Cx) (E : Value → Shared → Prop) : Cx := { X with xe := E }
/-- no exception leaves -/
abbrev Cx.nox (X : Cx) : Cx := X.wish fun _ _ => False
theorem Cx.Ok.wish {X : Cx} (ok : X.Ok) (E : Value → Shared → Prop) : (X.wish E).Ok :=
  ⟨ok.mod, ok.kind, ok.glob, ok.blt, ok.above, ok.inj, ok.has, ok.cab, ok.hd, ok.frames, ok.stk, ok.exf, ok.bs, ok.bsz, ok.noex, ok.exfs, ok.funs, ok.frf⟩
theorem Cx.Ok.unwish {X : Cx} {E : Value → Shared → Prop} (ok : (X.wish E).Ok) : X.Ok :=
  ⟨ok.mod, ok.kind, ok.glob, ok.blt, ok.above, ok.inj, ok.has, ok.cab, ok.hd, ok.frames, ok.stk, ok.exf, ok.bs, ok.bsz, ok.noex, ok.exfs, ok.funs, ok.frf⟩
section
variable {X : Cx} {pins : List (Addr × Obj)} {σ : St} {H : Hp} {s : Shared} {E : Value → Shared → Prop}
theorem Inv.wish (I : Inv X pins σ H s) (E : Value → Shared → Prop) : Inv (X.wish E) pins σ H s := ⟨I.ok.wish E, I.os, I.bare, I.base, I.loc, I.cell, I.free, I.freeC, I.pin, I.hok, I.len⟩
theorem Inv.unwish (I : Inv (X.wish E) pins σ H s) : Inv X pins σ H s := ⟨I.ok.unwish, I.os, I.bare, I.base, I.loc, I.cell, I.free, I.freeC, I.pin, I.hok, I.len⟩
theorem SP.unwish {D : Ends} {f : Flow} {s' : Shared} (h : SP (X.wish E) pins D f s') : SP X pins D f s' := by
  cases f with
  | next => obtain ⟨σ', H', I, q⟩ := h; exact ⟨σ', H', I.unwish, q⟩
  | brk => obtain ⟨σ', H', I, q⟩ := h; exact ⟨σ', H', I.unwish, q⟩
  | cont => obtain ⟨σ', H', I, q⟩ := h; exact ⟨σ', H', I.unwish, q⟩
  | ret u => obtain ⟨v, σ', H', I, r, q⟩ := h; exact ⟨v, σ', H', I.unwish, r, q⟩
theorem PSs.nox {st : List Stmt} {t : TS} (h : PSs X.nox st t) : PSs X st t := fun pins s σ H D I hw =>
  wpAny_mono (h pins s σ H D (I.wish _) hw) (fun _ _ q => q.unwish) fun _ _ z => False.elim z
end

section
variable {X : Cx} {st : Stmt} {rest : List Stmt} {t u : TS} {e : Expr} {te : TE} {pos : Pos}
def tNext : TS := fun D σ H => D.nx σ H
def tSeq (t u : TS) : TS := fun D σ H => t { D with nx := u D } σ H
theorem pss_nil : PSs X [] tNext := fun _ _ σ H _ I h => wpAny_execs_nil ⟨σ, H, I, h⟩
theorem pss_cons (h1 : PS X st t) (h2 : PSs X rest u) : PSs X (st :: rest) (tSeq t u) := by
  intro pins s σ H D I h
  refine wpAny_execs_cons (thn (h1 pins s σ H { D with nx := u D } I h) fun f s1 q => ?_)
  cases f with
  | next =>
    obtain ⟨σ', H', I', q⟩ := q
    exact h2 pins s1 σ' H' D I' q
  | ret v => exact q
  | brk => exact q
  | cont => exact q
theorem pss_one (h1 : PS X st t) : PSs X [st] t := by
  intro pins s σ H D I h
  refine wpAny_execs_cons (thn (h1 pins s σ H D I h) fun f s1 q => ?_)
  cases f with
  | next => exact wpAny_execs_nil q
  | ret v => exact q
  | brk => exact q
  | cont => exact q
/-- in a def's body nothing is shown -/
theorem Inv.quiet {pins : List (Addr × Obj)} {σ : St} {H : Hp} {s : Shared} (I : Inv X pins σ H s) : interactive X.env = false := by simp [interactive, I.ok.kind]
/-- an expression whose value is dropped -/
def tDrop (te : TE) : TS := fun D σ H => te σ H fun _ H1 => D.nx σ H1
theorem ps_expr (he : PE X e te) (hs : swapsWith e none pos.line X.env = pure false := by rfl) : PS X (.Expr e pos) (tDrop te) := by
  intro pins s σ H D I h
  exact wpAny_Expr_any (thn (he pins s σ H _ I h) fun v s1 ⟨x, H1, I1, r1, q1⟩ => ⟨σ, H1, I1, q1⟩) I.quiet hs
def tRet (te : TE) : TS := fun D σ H => te σ H D.rt
theorem ps_ret (he : PE X e te) : PS X (.Return (some e) pos) (tRet te) := by
  intro pins s σ H D I h
  exact wpAny_Return_some (thn (he pins s σ H _ I h) fun v s1 ⟨x, H1, I1, r1, q1⟩ => ⟨x, σ, H1, I1, r1, q1⟩)
def tIfS (c : TT) (t u : TS) : TS := fun D σ H => c σ H fun b H1 => if b = true then t D σ H1 else u D σ H1
theorem ps_if {c : Expr} {a b : List Stmt} {tc : TT} (hc : PT X c tc) (ha : PSs X a t) (hb : PSs X b u) : PS X (.If c a b pos) (tIfS tc t u) := by
  intro pins s σ H D I h
  refine wpAny_If (thn (hc pins s σ H _ I h) fun d s1 ⟨H1, I1, q1⟩ => ?_)
  cases d with
  | true => exact ha pins s1 σ H1 D I1 q1
  | false => exact hb pins s1 σ H1 D I1 q1
end

abbrev TG := V → St → Hp → (St → Hp → Prop) → Prop
def PG (X : Cx) (target : Expr) (t : TG) : Prop :=
  ∀ (pins : List (Addr × Obj)) (s : Shared) (σ : St) (H : Hp) (v : V) (u : Value) (Q : St → Hp → Prop), Inv X pins σ H s → RelV v u → t v σ H Q →
    wpAny (model X.prog X.w) X.A (assign target X.env u) (fun _ s' => ∃ σ' H', Inv X pins σ' H' s' ∧ Q σ' H') X.xe s
section
variable {X : Cx} {pos : Pos}
def gName (i : Nat) : TG := fun v σ H Q => Q (σ.set i (some v)) H
theorem pg_name {i : Nat} {x : Str} (hN : X.N.Nodup) (hi : X.N[i]? = some x) (hx : Loc X.env.scope x) (hf : X.fn x = true ∨ X.env.scope.names.lookup x = some .local := by first | exact .inl rfl | exact .inr rfl | assumption) : PG X (.Name x pos) (gName i) := by
  intro pins s σ H v u Q I r h
  exact wpAny_assign_Name (store_ok I hN hi hx r (fun s' I' => ⟨_, H, I', h⟩) hf)
/-- target = value -/
def tAsg (te : TE) (g : TG) : TS := fun D σ H => te σ H fun x H1 => g x σ H1 D.nx
/-- name = value -/
theorem ps_set {i : Nat} {x : Str} {e : Expr} {te : TE} {pos' : Pos} (hN : X.N.Nodup) (hi : X.N[i]? = some x) (hx : Loc X.env.scope x) (he : PE X e te) (hs : swapsWith e (some (.Name x pos')) pos.line X.env = pure false := by rfl) (hf : X.fn x = true ∨ X.env.scope.names.lookup x = some .local := by first | exact .inl rfl | exact .inr rfl | assumption) :
    PS X (.Assign [.Name x pos'] e pos) (tAsg te (gName i)) := by
  intro pins s σ H D I h
  refine wpAny_Assign_Name (thn (he pins s σ H _ I h) fun v s1 ⟨y, H1, I1, r1, q1⟩ => ?_) hs
  exact store_ok I1 hN hi hx r1 (fun s2 I2 => ⟨_, H1, I2, q1⟩) hf
end

section
variable {X : Cx} {pos : Pos}
/-- the invariant W with its measure -/
def tWhile (c : TT) (tb : TS) : TS := fun D σ H => ∃ W : Nat → St → Hp → Prop, (∃ m, W m σ H) ∧ ∀ m σ H, W m σ H →
  c σ H fun b H1 => if b = true then ∃ N : St → Hp → Prop, (∀ σ' H', N σ' H' → ∃ m', m' < m ∧ W m' σ' H') ∧ tb { D with nx := N, ct := N, bk := D.nx } σ H1 else D.nx σ H1
theorem ps_while {c : Expr} {body : List Stmt} {tc : TT} {tb : TS} (hp : PassesOwn (model X.prog X.w) X.A X.env X.xe) (hc : PT X c tc) (hb : PSs X body tb) : PS X (.While c body [] pos) (tWhile tc tb) := by
  intro pins s σ H D I h
  obtain ⟨W, ⟨m0, w0⟩, turn⟩ := h
  refine wpAny_While (codeAny_whileLoop (fun n s' => ∃ σ' H', Inv X pins σ' H' s' ∧ W n σ' H') ?_ m0 ⟨σ, H, I, w0⟩)
  rintro n s1 ⟨σ1, H1, I1, w1⟩
  refine wpAny_passesOwn hp (thn (hc pins s1 σ1 H1 _ I1 (turn n σ1 H1 w1)) fun b s2 ⟨H2, I2, q2⟩ => ?_)
  cases b with
  | true =>
    obtain ⟨N, hN, q2⟩ := q2
    rw [if_pos rfl]
    refine wpAny_passesOwn hp (thn (hb pins s2 σ1 H2 _ I2 q2) fun f s3 q3 => ?_)
    cases f with
    | next =>
      obtain ⟨σ3, H3, I3, n3⟩ := q3
      obtain ⟨m', hm, w3⟩ := hN σ3 H3 n3
      exact ⟨m', hm, σ3, H3, I3, w3⟩
    | cont =>
      obtain ⟨σ3, H3, I3, n3⟩ := q3
      obtain ⟨m', hm, w3⟩ := hN σ3 H3 n3
      exact ⟨m', hm, σ3, H3, I3, w3⟩
    | brk => exact q3
    | ret v => exact q3
  | false =>
    rw [if_neg Bool.false_ne_true]
    exact wpAny_execs_nil ⟨σ1, H2, I2, q2⟩
end

/-- at turn i: it yields x (the heap may grow), or it stops -/
structure It where
  go : Nat → Hp → Prop
  yld : Nat → Hp → V → Hp → Prop
  stop : Nat → Hp → Prop
/-- the iterator's own objects may turn: they are not the frame's, not pinned, younger than the entry (or a comprehension's own) -/
def FpOk (X : Cx) (pins : List (Addr × Obj)) (H : Hp) (b : Addr) : Prop :=
  H b = none ∧ b ≠ X.env.locals ∧ b ∉ X.fs ∧ (b ∈ X.ex ∨ X.s_0.heap.objs.size ≤ b) ∧ (∀ x c, X.env.cells.lookup x = some c → c ≠ b) ∧ ∀ p ∈ X.pn ++ pins, p.1 ≠ b
theorem Inv.fpOk {X : Cx} {pins : List (Addr × Obj)} {σ : St} {H H' : Hp} {s : Shared} {b : Addr} (I : Inv X pins σ H s) (hb : s.heap.objs.size ≤ b) (hn : H' b = none) : FpOk X pins H' b := by
  refine ⟨hn, Nat.ne_of_gt (Nat.lt_of_lt_of_le I.lt hb), I.nofs hb, .inr (Nat.le_trans I.sz hb), fun x c e z => ?_, fun p hp z => ?_⟩
  · obtain ⟨v, q⟩ := I.cell x c e
    exact absurd (Nat.lt_of_lt_of_le q.lt (by rw [z]; exact hb)) (Nat.lt_irrefl _)
  · exact absurd (Nat.lt_of_lt_of_le (Heap.lt_size (I.pin p hp).1) (by rw [z]; exact hb)) (Nat.lt_irrefl _)
structure Turn (P : Program) (w : World) (K : PySem.W.Frag) (tg : Expr) (J : It) (fp : List Addr) (it : Addr) (tn : Nat → Heap → Prop) : Prop where
  mem : it ∈ fp
  obj : ∀ i h, tn i h → ∀ b ∈ fp, ∃ o, h.get? b = some o ∧ ∀ v, o.data ≠ .cell v
  keep : ∀ i h h', tn i h → (∀ b ∈ fp, ∀ o, h.get? b = some o → h'.get? b = some o) → tn i h'
  item : ∀ (X : Cx), X.prog = P → X.w = w → X.K = K → X.calm = true → ∀ (i : Nat) (pins : List (Addr × Obj)) (s : Shared) (σ : St) (H : Hp) (E : Value → Shared → Prop), Inv X pins σ H s → (∀ b ∈ fp, FpOk X pins H b) → tn i s.heap → J.go i H →
    wpAny (model P w) X.A (pyNext (.ref it)) (fun r s1 => ∃ u, r = some u ∧
      wpAny (model P w) X.A (letOwnedTupleGo tg (.ref it) u) (fun _ s2 => ∃ x H', Inv X pins σ H' s2 ∧ RelV x u ∧ J.yld i H x H' ∧ tn (i + 1) s2.heap ∧ ∀ b ∈ fp, H' b = none) E s1) E s
  done : ∀ (X : Cx), X.prog = P → X.w = w → X.K = K → X.calm = true → ∀ (i : Nat) (pins : List (Addr × Obj)) (s : Shared) (σ : St) (H : Hp) (E : Value → Shared → Prop), Inv X pins σ H s → (∀ b ∈ fp, FpOk X pins H b) → tn i s.heap → J.stop i H →
    wpAny (model P w) X.A (pyNext (.ref it)) (fun r s1 => r = none ∧ Inv X pins σ H s1) E s
  self : ∀ (A : Around) (i : Nat) (s : Shared) (Q : Value → Shared → Prop) (E : Value → Shared → Prop), tn i s.heap → Q (.ref it) s → wpAny (model P w) A (pyIter (.ref it)) Q E s
abbrev TI := St → Hp → (It → Hp → Prop) → Prop
/-- an iterator has come -/
def PIE (X : Cx) (pins : List (Addr × Obj)) (σ : St) (tg : Expr) (R : It → Hp → Prop) (itv : Value) (s2 : Shared) : Prop :=
  ∃ (it : Addr) (fp : List Addr) (tn : Nat → Heap → Prop) (J : It) (H' : Hp), itv = .ref it ∧ Inv X pins σ H' s2 ∧ Turn X.prog X.w X.K tg J fp it tn ∧ tn 0 s2.heap ∧ (∀ b ∈ fp, FpOk X pins H' b) ∧ R J H'
def PI (X : Cx) (tg iter : Expr) (wi : TI) : Prop :=
  ∀ (pins : List (Addr × Obj)) (s : Shared) (σ : St) (H : Hp) (R : It → Hp → Prop), Inv X pins σ H s → wi σ H R →
    wpAny (model X.prog X.w) X.A (eval iter X.env) (fun v s1 => wpAny (model X.prog X.w) X.A (pyIter v) (PIE X pins σ tg R) X.xe s1) X.xe s

/-- the step ahead of the store is nothing for an iterator that keeps no tuple -/
theorem go_of {M : Model} {A : Around} {E : Value → Shared → Prop} {s : Shared} {tg : Expr} {it : Addr} {u : Value} {o : Obj} {n : String} {vs : Array Value} {Q : Unit → Shared → Prop} (ho : s.heap.get? it = some o) (hc : o.cls = .type n) (hd : o.data = .fields vs)
    (hn : ["enumerate", "zip", "dict_itemiterator", "dict_reverseitemiterator", "odict_iterator", "itertools.zip_longest", "itertools.pairwise"].contains n = false) (hQ : Q () s) : wpAny M A (letOwnedTupleGo tg (.ref it) u) Q E s := by
  unfold letOwnedTupleGo
  cases tg <;> first
    | exact wpAny_pure hQ
    | (cases u <;> first
        | exact wpAny_pure hQ
        | (refine wpAny_bind (wpAny_load ho ?_)
           rw [hc, hd]
           show wpAny M A (if (["enumerate", "zip", "dict_itemiterator", "dict_reverseitemiterator", "odict_iterator", "itertools.zip_longest", "itertools.pairwise"].contains n && vs[0]? == some (rawInt _)) = true then _ else _) Q E s
           rw [if_neg (by intro h; rw [hn, Bool.false_and] at h; cases h)]
           exact wpAny_pure hQ))

/-- the list at a, as it stands at each turn (a loop may append to it) -/
def Itl (K : PySem.W.Frag) (a : Addr) : It :=
  ⟨fun i H => ∃ xs x, SqL K H a xs ∧ xs[i]? = some x, fun i H x H' => H' = H ∧ ∀ xs, SqL K H a xs → xs[i]? = some x, fun i H => ∃ xs, SqL K H a xs ∧ xs.length ≤ i⟩
theorem turn_list {P : Program} {w : World} {K : PySem.W.Frag} {tg : Expr} (a it : Addr) : Turn P w K tg (Itl K a) [it] it (fun i h => h.IsListIter it a i) where
  mem := by simp
  obj := fun i h st b hb => by
    have e : b = it := by simpa using hb
    subst e
    obtain ⟨o, e, c, d⟩ := st
    exact ⟨o, e, fun v z => by rw [d] at z; cases z⟩
  keep := fun i h h' st k => st.at fun o e => k it (by simp) o e
  item := by
    intro X hP hw hK hc i pins s σ H E I hf st hg
    subst hP hw hK
    obtain ⟨xs, x, hq, hx⟩ := hg
    obtain ⟨its, rv, p, hz⟩ := I.list hq
    obtain ⟨u, hu, ru⟩ := rv.get hx
    obtain ⟨f0, f1, f2, f3, f4, f5⟩ := hf it (by simp)
    refine wpAny_pyNext_list_item st p.isList (x := u) (by simpa using hu) fun h' st' sb => ?_
    have I1 : Inv X pins σ H { s with heap := h' } := I.turned (t' := s.toks) (fun b o hb e => (sb.2 b hb).trans e) f0 f1 f3 f4 f5
    obtain ⟨o, e, c, d⟩ := id st'
    exact ⟨u, rfl, go_of (s := { s with heap := h' }) e c d (by decide) ⟨x, H, I1, ru, ⟨rfl, fun ys hy => by rw [I.list_inj hy hq]; exact hx⟩, st', fun b hb => (hf b hb).1⟩⟩
  done := by
    intro X hP hw hK hc i pins s σ H E I hf st hg
    subst hP hw hK
    obtain ⟨xs, hq, hx⟩ := hg
    obtain ⟨its, rv, p, hz⟩ := I.list hq
    obtain ⟨f0, f1, f2, f3, f4, f5⟩ := hf it (by simp)
    have hl := rv.length
    exact wpAny_pyNext_list_end (I.ok.hd hc) st p.isList (by simp; omega) fun h' eb => ⟨rfl, I.turned (t' := s.toks) (fun b o hb e => eb b o hb e) f0 f1 f3 f4 f5⟩
  self := fun _ _ _ _ _ st h => wpAny_pyIter_listiter st h
end L2

namespace L2
open PySem PySem.Spec PyProof.Rows
section
variable {X : Cx} {tg : Expr}
def iList (K : PySem.W.Frag) (tl : TE) : TI := fun σ H R => tl σ H fun x H1 => ∃ a, x = .ref a ∧ (∃ xs, SqL K H1 a xs) ∧ R (Itl K a) H1
theorem pi_list {l : Expr} {tl : TE} (hl : PE X l tl) : PI X tg l (iList X.K tl) := by
  intro pins s σ H R I h
  refine thn (hl pins s σ H _ I h) fun v s1 ⟨x, H1, I1, r1, q1⟩ => ?_
  obtain ⟨a, e, ⟨xs, hq⟩, q⟩ := q1
  subst e
  cases r1
  obtain ⟨its, rv, p, hz⟩ := I1.list hq
  refine wpAny_pyIter_list p.isList ?_
  refine ⟨s1.heap.objs.size, [s1.heap.objs.size], _, _, H1, rfl, I1.kept (t' := s1.toks) fun b o e => Heap.get?_push_of_some _ e, turn_list a _, ⟨_, Heap.get?_push_size _ rfl, rfl, rfl⟩, fun b hb => ?_, q⟩
  have e : b = s1.heap.objs.size := by simpa using hb
  subst e
  exact I1.fpOk (Nat.le_refl _) (I1.hok.fresh (Nat.le_refl _))
/-- W: the invariant by the turn and a measure; N: what the body is to reach -/
def tFor (wi : TI) (g : TG) (tb : TS) : TS := fun D σ H => wi σ H fun J H1 => ∃ W : Nat → Nat → St → Hp → Prop, (∃ m, W 0 m σ H1) ∧ ∀ i m σ H, W i m σ H →
  (J.stop i H ∧ D.nx σ H) ∨ (J.go i H ∧ ∃ N : St → Hp → Prop, (∀ σ' H', N σ' H' → ∃ m', m' < m ∧ W (i + 1) m' σ' H') ∧ ∀ x H', J.yld i H x H' → g x σ H' fun σ2 H2 => tb { D with nx := N, ct := N, bk := D.nx } σ2 H2)
/-- the records at fp as they stand -/
def pinsAt (fp : List Addr) (h : Heap) : List (Addr × Obj) := fp.filterMap fun b => (h.get? b).map fun o => (b, o)
theorem mem_pinsAt {fp : List Addr} {h : Heap} {b : Addr} {o : Obj} (hb : b ∈ fp) (e : h.get? b = some o) : (b, o) ∈ pinsAt fp h := List.mem_filterMap.mpr ⟨b, hb, by rw [e]; rfl⟩
theorem of_pinsAt {fp : List Addr} {h : Heap} {p : Addr × Obj} (hp : p ∈ pinsAt fp h) : p.1 ∈ fp ∧ h.get? p.1 = some p.2 := by
  obtain ⟨b, hb, e⟩ := List.mem_filterMap.mp hp
  cases q : h.get? b with
  | none => rw [q] at e; cases e
  | some o =>
    rw [q] at e
    have e' : (b, o) = p := Option.some.inj e
    subst e'
    exact ⟨hb, q⟩
theorem Inv.pinned {pins : List (Addr × Obj)} {σ : St} {H : Hp} {s : Shared} {fp : List Addr} (I : Inv X pins σ H s) (hf : ∀ b ∈ fp, FpOk X pins H b) (ho : ∀ b ∈ fp, ∃ o, s.heap.get? b = some o ∧ ∀ v, o.data ≠ .cell v) : Inv X (pins ++ pinsAt fp s.heap) σ H s :=
  I.pins_of fun p hp => (List.mem_append.mp hp).elim (fun z => I.pin p (List.mem_append_right _ z)) fun z => by
    obtain ⟨hb, e⟩ := of_pinsAt z
    obtain ⟨f0, f1, f2, _⟩ := hf p.1 hb
    obtain ⟨o, e', d⟩ := ho p.1 hb
    rw [e] at e'; cases e'
    exact ⟨e, f0, f1, f2, d⟩
theorem Inv.unpinned {pins pl : List (Addr × Obj)} {σ : St} {H : Hp} {s : Shared} (I : Inv X (pins ++ pl) σ H s) : Inv X pins σ H s := I.pins_of fun p hp => I.pin p (List.mem_append_right _ (List.mem_append_left _ hp))
theorem ps_for {iter : Expr} {body : List Stmt} {wi : TI} {g : TG} {tb : TS} {pos : Pos} (hp : PassesOwn (model X.prog X.w) X.A X.env X.xe) (hc : X.calm = true) (hi : PI X tg iter wi) (hg : PG X tg g) (hb : PSs X body tb)
    (hs : ∀ x, foldedSetIterable iter X.env x = pure x := by intro _; rfl) : PS X (.For tg iter body [] pos) (tFor wi g tb) := by
  intro pins s σ H D I h
  refine wpAny_For (thn (hi pins s σ H _ I h) fun v s1 h1 => thn h1 fun itv s2 h2 => ?_) hs
  obtain ⟨it, fp, tn, J, H2, e, I2, T, st2, f2, W, ⟨m0, w0⟩, turn⟩ := h2
  subst e
  -- what stays true of the iterator's objects through the loop
  have stat : ∀ {H' : Hp}, (∀ b ∈ fp, H' b = none) → ∀ b ∈ fp, FpOk X pins H' b := fun hn b hb => ⟨hn b hb, (f2 b hb).2⟩
  refine codeAny_forLoop_any (fun n s' => ∃ i σ' H', Inv X pins σ' H' s' ∧ tn i s'.heap ∧ (∀ b ∈ fp, H' b = none) ∧ W i n σ' H') ?_ m0 ⟨0, σ, H2, I2, st2, fun b hb => (f2 b hb).1, w0⟩
  rintro n s3 ⟨i, σ3, H3, I3, st3, fr3, w3⟩
  rcases turn i n σ3 H3 w3 with ⟨stop, qn⟩ | ⟨go, N, hN, step⟩
  · refine wpAny_passesOwn hp (thn (T.done X rfl rfl rfl hc i pins s3 σ3 H3 X.xe I3 (stat fr3) st3 stop) fun r s4 ⟨hr, I4⟩ => ?_)
    subst hr
    exact wpAny_execs_nil ⟨σ3, H3, I4, qn⟩
  · refine wpAny_passesOwn hp (thn (T.item X rfl rfl rfl hc i pins s3 σ3 H3 X.xe I3 (stat fr3) st3 go) fun r s4 ⟨u, hr, h4⟩ => ?_)
    subst hr
    refine wpAny_passesOwn hp (thn h4 fun _ s5 ⟨x, H5, I5, r5, y5, st5, fr5⟩ => ?_)
    have I5' := I5.pinned (stat fr5) (T.obj _ _ st5)
    refine wpAny_passesOwn hp (thn (hg _ s5 σ3 H5 x u _ I5' r5 (step x H5 y5)) fun _ s6 ⟨σ6, H6, I6, q6⟩ => ?_)
    refine wpAny_passesOwn hp (thn (hb _ s6 σ6 H6 _ I6 q6) fun f s7 q7 => ?_)
    have again : ∀ {σ7 : St} {H7 : Hp}, Inv X (pins ++ pinsAt fp s5.heap) σ7 H7 s7 → N σ7 H7 → ∃ m, m < n ∧ ∃ i σ' H', Inv X pins σ' H' s7 ∧ tn i s7.heap ∧ (∀ b ∈ fp, H' b = none) ∧ W i m σ' H' := fun {σ7 H7} I7 n7 => by
      obtain ⟨m', hm, w7⟩ := hN σ7 H7 n7
      refine ⟨m', hm, i + 1, σ7, H7, I7.unpinned, T.keep _ _ _ st5 fun b hb o e => (I7.pin (b, o) (List.mem_append_right _ (List.mem_append_right _ (mem_pinsAt hb e)))).1, fun b hb => ?_, w7⟩
      obtain ⟨o, e, d⟩ := T.obj _ _ st5 b hb
      exact (I7.pin (b, o) (List.mem_append_right _ (List.mem_append_right _ (mem_pinsAt hb e)))).2.1
    cases f with
    | next => obtain ⟨σ7, H7, I7, n7⟩ := q7; exact again I7 n7
    | cont => obtain ⟨σ7, H7, I7, n7⟩ := q7; exact again I7 n7
    | brk => obtain ⟨σ7, H7, I7, q7⟩ := q7; exact ⟨σ7, H7, I7.unpinned, q7⟩
    | ret v => obtain ⟨x7, σ7, H7, I7, r7, q7⟩ := q7; exact ⟨x7, σ7, H7, I7.unpinned, r7, q7⟩
end

/-- over a list that the body leaves as it is -/
theorem for_list {K : PySem.W.Frag} {a : Addr} {xs : List V} {g : TG} {tb : TS} {D : Ends} {σ : St} {H : Hp} (Pv : Nat → St → Hp → Prop) (h0 : Pv 0 σ H) (hl : ∀ i σ H, i ≤ xs.length → Pv i σ H → SqL K H a xs)
    (hs : ∀ i x σ H, xs[i]? = some x → Pv i σ H → g x σ H fun σ2 H2 => tb { D with nx := Pv (i + 1), ct := Pv (i + 1), bk := D.nx } σ2 H2) (hd : ∀ σ H, Pv xs.length σ H → D.nx σ H) :
    ∃ W : Nat → Nat → St → Hp → Prop, (∃ m, W 0 m σ H) ∧ ∀ i m σ H, W i m σ H →
      ((Itl K a).stop i H ∧ D.nx σ H) ∨ ((Itl K a).go i H ∧ ∃ N : St → Hp → Prop, (∀ σ' H', N σ' H' → ∃ m', m' < m ∧ W (i + 1) m' σ' H') ∧ ∀ x H', (Itl K a).yld i H x H' → g x σ H' fun σ2 H2 => tb { D with nx := N, ct := N, bk := D.nx } σ2 H2) := by
  refine ⟨fun i m σ H => m = xs.length - i ∧ i ≤ xs.length ∧ Pv i σ H, ⟨xs.length, by simp, Nat.zero_le _, h0⟩, ?_⟩
  rintro i m σ H ⟨rfl, hi, p⟩
  have q := hl i σ H hi p
  by_cases hlt : i < xs.length
  · refine .inr ⟨⟨xs, xs[i], q, by simp [hlt]⟩, Pv (i + 1), fun σ' H' p' => ⟨xs.length - (i + 1), by omega, rfl, hlt, p'⟩, fun x H' y => ?_⟩
    obtain ⟨e, y⟩ := y
    subst e
    exact hs i x σ _ (y xs q) p
  · have e : i = xs.length := by omega
    subst e
    exact .inl ⟨⟨xs, q, Nat.le_refl _⟩, hd σ H p⟩
/-- while, by a word and a measure of the state -/
theorem while_by {c : TT} {tb : TS} {D : Ends} {σ : St} {H : Hp} (Pv : St → Hp → Prop) (μ : St → Hp → Nat) (h0 : Pv σ H)
    (hs : ∀ σ H, Pv σ H → c σ H fun b H1 => if b = true then tb { D with nx := fun σ' H' => Pv σ' H' ∧ μ σ' H' < μ σ H, ct := fun σ' H' => Pv σ' H' ∧ μ σ' H' < μ σ H, bk := D.nx } σ H1 else D.nx σ H1)
    (mono : ∀ σ H Q Q', (∀ b H1, Q b H1 → Q' b H1) → c σ H Q → c σ H Q') : tWhile c tb D σ H := by
  refine ⟨fun m σ H => m = μ σ H ∧ Pv σ H, ⟨_, rfl, h0⟩, ?_⟩
  rintro m σ H ⟨rfl, p⟩
  refine mono σ H _ _ (fun b H1 q => ?_) (hs σ H p)
  cases b with
  | true => exact ⟨_, fun σ' H' ⟨p', l⟩ => ⟨_, l, rfl, p'⟩, q⟩
  | false => exact q
end L2

namespace L2
open PySem PySem.Spec PyProof.Rows

abbrev R2 := V → V → Hp → VK → Prop
/-- a two-place operation on values: f is binaryOp op, inplaceOp op or compareOp op -/
def OpR (X : Cx) (f : Value → Value → Sem Value) (r : R2) : Prop :=
  ∀ (pins : List (Addr × Obj)) (s : Shared) (σ : St) (H : Hp) (x y : V) (v u : Value) (Q : VK), Inv X pins σ H s → RelV x v → RelV y u → r x y H Q →
    wpAny (model X.prog X.w) X.A (f v u) (EP X pins σ Q) X.xe s
/-- a one-place operation -/
def UnR (X : Cx) (f : Value → Sem Value) (r : V → Hp → VK → Prop) : Prop :=
  ∀ (pins : List (Addr × Obj)) (s : Shared) (σ : St) (H : Hp) (x : V) (v : Value) (Q : VK), Inv X pins σ H s → RelV x v → r x H Q →
    wpAny (model X.prog X.w) X.A (f v) (EP X pins σ Q) X.xe s
/-- a call of a value that is known (a builtin, a type) with values -/
def CallR (X : Cx) (f : Value) (r : List V → Hp → VK → Prop) : Prop :=
  ∀ (pins : List (Addr × Obj)) (s : Shared) (σ : St) (H : Hp) (xs : List V) (us : List Value) (Q : VK), Inv X pins σ H s → Vals xs us → r xs H Q →
    wpAny (model X.prog X.w) X.A (call f us) (EP X pins σ Q) X.xe s
def tOp (r : R2) (ta tb : TE) : TE := fun σ H Q => ta σ H fun x H1 => tb σ H1 fun y H2 => r x y H2 Q
def tUn (r : V → Hp → VK → Prop) (ta : TE) : TE := fun σ H Q => ta σ H fun x H1 => r x H1 Q
/-- natInts in, under C, and a value out -/
def rI (C : Int → Int → Prop) (g : Int → Int → V) : R2 := fun x y H Q => ∃ i j, x = .int i ∧ y = .int j ∧ C i j ∧ Q (g i j) H
def rI0 (g : Int → Int → V) : R2 := fun x y H Q => ∃ i j, x = .int i ∧ y = .int j ∧ Q (g i j) H
def rU (g : Int → V) : V → Hp → VK → Prop := fun x H Q => ∃ i, x = .int i ∧ Q (g i) H

section
variable {X : Cx} {a b c : Expr} {ta tb tc : TE} {pos : Pos}

theorem binT (ha : PE X a ta) (hb : PE X b tb) {pins : List (Addr × Obj)} {s : Shared} {σ : St} {H : Hp} {R : V → V → Hp → Prop} (I : Inv X pins σ H s)
    (h : ta σ H fun x H1 => tb σ H1 fun y H2 => R x y H2) {Q : Value → Shared → Prop} {f : Value → Value → Sem Value}
    (hf : ∀ v u s2 x y H2, Inv X pins σ H2 s2 → RelV x v → RelV y u → R x y H2 → wpAny (model X.prog X.w) X.A (f v u) Q X.xe s2) :
    wpAny (model X.prog X.w) X.A (eval a X.env) (fun v s₁ => wpAny (model X.prog X.w) X.A (eval b X.env) (fun u s₂ => wpAny (model X.prog X.w) X.A (f v u) Q X.xe s₂) X.xe s₁) X.xe s := by
  refine thn (ha pins s σ H _ I h) fun v s1 ⟨x, H1, I1, r1, q1⟩ => ?_
  refine thn (hb pins s1 σ H1 _ I1 q1) fun u s2 ⟨y, H2, I2, r2, q2⟩ => ?_
  exact hf v u s2 x y H2 I2 r1 r2 q2

theorem pe_op {op : Operator} {r : R2} (ho : OpR X (binaryOp op) r) (ha : PE X a ta) (hb : PE X b tb) : PE X (.BinOp a op b pos) (tOp r ta tb) := by
  intro pins s σ H Q I h
  exact wpAny_BinOp (binT ha hb I h fun v u s2 x y H2 I2 rx ry q => ho pins s2 σ H2 x y v u Q I2 rx ry q)
theorem pe_un {op : UnaryOp} {r : V → Hp → VK → Prop} (ho : UnR X (unaryOp op) r) (ha : PE X a ta) : PE X (.UnaryOp op a pos) (tUn r ta) := by
  intro pins s σ H Q I h
  exact UnaryOp_ (thn (ha pins s σ H _ I h) fun v s1 ⟨x, H1, I1, r1, q1⟩ => ho pins s1 σ H1 x v Q I1 r1 q1)
theorem opI {f : Value → Value → Sem Value} {C : Int → Int → Prop} {g : Int → Int → Int}
    (rule : ∀ (i j : Int) (t u : Tok) (s : Shared) (Q : Value → Shared → Prop) (E : Value → Shared → Prop), C i j → Q (.int (g i j) s.toks) { s with toks := s.toks + 1 } → wpAny (model X.prog X.w) X.A (f (.int i t) (.int j u)) Q E s) :
    OpR X f (rI C fun i j => .int (g i j)) := by
  intro pins s σ H x y v u Q I rx ry h
  obtain ⟨i, j, rfl, rfl, hc, q⟩ := h
  obtain ⟨t, rfl⟩ := rx
  obtain ⟨t', rfl⟩ := ry
  exact rule i j t t' s _ _ hc ⟨.int (g i j), H, I.tok _, ⟨_, rfl⟩, q⟩
theorem opI0 {f : Value → Value → Sem Value} {g : Int → Int → Int}
    (rule : ∀ (i j : Int) (t u : Tok) (s : Shared) (Q : Value → Shared → Prop) (E : Value → Shared → Prop), Q (.int (g i j) s.toks) { s with toks := s.toks + 1 } → wpAny (model X.prog X.w) X.A (f (.int i t) (.int j u)) Q E s) :
    OpR X f (rI0 fun i j => .int (g i j)) := by
  intro pins s σ H x y v u Q I rx ry h
  obtain ⟨i, j, rfl, rfl, q⟩ := h
  obtain ⟨t, rfl⟩ := rx
  obtain ⟨t', rfl⟩ := ry
  exact rule i j t t' s _ _ ⟨.int (g i j), H, I.tok _, ⟨_, rfl⟩, q⟩
theorem opB0 {f : Value → Value → Sem Value} {g : Int → Int → Bool}
    (rule : ∀ (i j : Int) (t u : Tok) (s : Shared) (Q : Value → Shared → Prop) (E : Value → Shared → Prop), Q (.bool (g i j)) s → wpAny (model X.prog X.w) X.A (f (.int i t) (.int j u)) Q E s) :
    OpR X f (rI0 fun i j => .bl (g i j)) := by
  intro pins s σ H x y v u Q I rx ry h
  obtain ⟨i, j, rfl, rfl, q⟩ := h
  obtain ⟨t, rfl⟩ := rx
  obtain ⟨t', rfl⟩ := ry
  exact rule i j t t' s _ _ ⟨.bl (g i j), H, I, rfl, q⟩

theorem op_add : OpR X (binaryOp .Add) (rI0 fun i j => .int (i + j)) := opI0 fun _ _ _ _ _ _ _ q => add_int q
theorem op_sub : OpR X (binaryOp .Sub) (rI0 fun i j => .int (i - j)) := opI0 fun _ _ _ _ _ _ _ q => sub_int q
theorem op_and : OpR X (binaryOp .BitAnd) (rI0 fun i j => .int (Builtin.bitAnd i j)) := opI0 fun _ _ _ _ _ _ _ q => and_int q
theorem unI {f : Value → Sem Value} {g : Int → Int}
    (rule : ∀ (i : Int) (t : Tok) (s : Shared) (Q : Value → Shared → Prop) (E : Value → Shared → Prop), Q (.int (g i) s.toks) { s with toks := s.toks + 1 } → wpAny (model X.prog X.w) X.A (f (.int i t)) Q E s) :
    UnR X f (rU fun i => .int (g i)) := by
  intro pins s σ H x v Q I rx h
  obtain ⟨i, rfl, q⟩ := h
  obtain ⟨t, rfl⟩ := rx
  exact rule i t s _ _ ⟨.int (g i), H, I.tok _, ⟨_, rfl⟩, q⟩
theorem un_neg : UnR X (unaryOp .USub) (rU fun i => .int (-i)) := unI fun _ _ _ _ _ q => neg_int q
end

section
variable {X : Cx} {a b c : Expr} {ta tb tc : TE} {pos : Pos}
theorem op_lt : OpR X (compareOp .Lt) (rI0 fun i j => .bl (decide (i < j))) := opB0 fun _ _ _ _ _ _ _ q => lt_int q
theorem op_le : OpR X (compareOp .LtE) (rI0 fun i j => .bl (decide (i ≤ j))) := opB0 fun _ _ _ _ _ _ _ q => le_int q
/-- a reading of a value as a test -/
def tTest (t : TE) : TT := fun σ H Q => t σ H fun x H' => ∃ k, x = .bl k ∧ Q k H'
theorem pt_cmpR {op : CmpOp} {r : R2} (ho : OpR X (compareOp op) r) (ha : PE X a ta) (hb : PE X b tb) (hm : behindInMarks op b = false) : PT X (.Compare a [op] [b] pos) (tTest (tOp r ta tb)) := by
  intro pins s σ H Q I h
  refine wpAny_isTrue_Compare1 (thn (ha pins s σ H _ I h) fun v s1 ⟨x, H1, I1, r1, q1⟩ => thn (hb pins s1 σ H1 _ I1 q1) fun u s2 ⟨y, H2, I2, r2, q2⟩ =>
    thn (ho pins s2 σ H2 x y v u _ I2 r1 r2 q2) fun c s3 ⟨z, H3, I3, r3, k, e, q3⟩ => ?_) hm
  subst e
  cases r3
  exact wpAny_truthy_bool ⟨H3, I3, q3⟩
/-- a op1 b op2 c -/
def tChain (r r' : R2) (ta tb tc : TE) : TE := fun σ H Q => ta σ H fun x H1 => tb σ H1 fun y H2 => r x y H2 fun z H3 => ∃ k, z = .bl k ∧
  (if k = true then tc σ H3 fun w' H4 => r' y w' H4 Q else Q (.bl false) H3)
theorem pe_chain {op op' : CmpOp} {r r' : R2} (ho : OpR X (compareOp op) r) (ho' : OpR X (compareOp op') r') (ha : PE X a ta) (hb : PE X b tb) (hc : PE X c tc)
    (hm : lastMarks [op, op'] [b, c] = false := by with_unfolding_all rfl) : PE X (.Compare a [op, op'] [b, c] pos) (tChain r r' ta tb tc) := by
  intro pins s σ H Q I h
  refine Compare_chain (thn (ha pins s σ H _ I h) fun v s1 ⟨x, H1, I1, r1, q1⟩ => chain_link (thn (hb pins s1 σ H1 _ I1 q1) fun u s2 ⟨y, H2, I2, r2, q2⟩ =>
    thn (ho pins s2 σ H2 x y v u _ I2 r1 r2 q2) fun d s3 ⟨z, H3, I3, r3, k, e, q3⟩ => ?_)) hm
  subst e
  cases r3
  refine wpAny_truthy_bool ?_
  cases k with
  | false => exact ite_ff ⟨.bl false, H3, I3, rfl, q3⟩
  | true => exact ite_tt (chain_last (thn (hc pins s3 σ H3 _ I3 q3) fun w' s4 ⟨z', H4, I4, r4, q4⟩ => ho' pins s4 σ H4 y z' u w' Q I4 r2 r4 q4))
theorem line63 : (sizeLine : Nat) < 2 ^ 63 := by rw [sizeLine_eq]; decide
theorem vals1 {x : V} {us : List Value} (r : Vals [x] us) : ∃ u, us = [u] ∧ RelV x u := by
  cases r with
  | cons r1 r2 => cases r2; exact ⟨_, rfl, r1⟩
end
end L2

namespace L2
open PySem PySem.Spec PyProof.Rows

structure ObjM (h : Heap) (x dx C : Addr) (mA : Str → Option Value) : Prop where
  obj : h.get? x = some (PySem.W.instObj C dx)
  ns : h.Ns1 dx mA
  ne : dx ≠ x

theorem lookIn_ns {h : Heap} {dx : Addr} {mA : Str → Option Value} (n : h.Ns1 dx mA) : ∃ od, h.get? dx = some od ∧ ∀ name, PySem.W.lookIn name od = some (mA name) := by
  obtain ⟨o, es, ep, ho, hd, hk, _, hm⟩ := n
  refine ⟨o, ho, fun name => ?_⟩
  have e := hm name
  unfold nsFind findBy at e
  rw [← Array.find?_toList] at e
  unfold PySem.W.lookIn
  rw [hd]
  dsimp only
  split
  · rename_i y q
    rw [q] at e
    exact congrArg some e
  · rename_i q
    rw [q] at e
    have a : es.toList.any (·.refKey) = false := by
      rw [List.any_eq_false]
      intro y hy
      obtain ⟨z, t, hkey⟩ := hk y (Array.mem_toList_iff.mp hy)
      simp [DictEntry.refKey, hkey]
    have a' : ¬ es.toList.any (·.refKey) = true := by rw [a]; exact Bool.false_ne_true
    rw [if_neg a']
    exact congrArg some e

theorem ObjM.look {h : Heap} {x dx C : Addr} {mA : Str → Option Value} (I : ObjM h x dx C mA) : ∃ od, PySem.W.InstAt h x (PySem.W.instObj C dx) C (some od) ∧ ∀ name, PySem.W.lookIn name od = some (mA name) :=
  let ⟨od, ho, hl⟩ := lookIn_ns I.ns
  ⟨od, ⟨I.obj, rfl, rfl, ho⟩, hl⟩

section
variable {prog : Program} {w : World} {A : Around} {E : Value → Shared → Prop} {s : Shared} {K : PySem.W.Frag} {x dx C f : Addr} {mA : Str → Option Value} {name : Str} {v : Value}

theorem get_map {expr : Bool} {Q : Value → Shared → Prop} (X : K.In s.heap) (I : ObjM s.heap x dx C mA) (hg : PySem.W.plainGet K C name = true) (hh : PySem.W.hasDictIn K C = true)
    (ha : PySem.W.findIn K (.ref C) name = some none) (hv : mA name = some v) (hv' : PySem.W.handedIn v = true) (h : Q v { s with toks := s.toks + 1 }) :
    wpAny (model prog w) A (getAttr (.ref x) name expr) Q E s := by
  obtain ⟨od, J, hl⟩ := I.look
  exact PySem.W.get_value X J (PySem.W.plainGet_of hg).1 (PySem.W.findObj_own hh ha rfl (by rw [hl, hv])) hv' h

theorem set_map {ns : List Str} {Q : Unit → Shared → Prop} (X : K.In s.heap) (I : ObjM s.heap x dx C mA)
    (hs : PySem.W.findIn K (.ref C) "__setattr__" = some (some (.builtin "object.__setattr__"))) (hp : PySem.W.plainOver K C = true) (ht : PySem.W.takerIn K C name = some none) (hh : PySem.W.hasDictIn K C = true)
    (hw : PySem.Within mA ns) (hsz : ns.length ≤ sizeLine)
    (h : ∀ h', ObjM h' x dx C (fun y => if y = name then some v else mA y) → Heap.SameBut dx s.heap h' → Q () { s with heap := h', toks := s.toks + 2 }) :
    wpAny (model prog w) A (setAttr (.ref x) name v) Q E s := by
  obtain ⟨od, J, hl⟩ := I.look
  refine PySem.W.set_plain X J hs (PySem.W.osa_open (s := { s with toks := s.toks + 1 }) (r := none) X J hp ht fun b => ?_)
  obtain ⟨cd, hc, hd'⟩ := PySem.W.any_some hh
  have hx : s.heap.get? x = some ⟨.ref C, some dx, .plain, #[]⟩ := I.obj
  refine wpAny_bind (wpAny_pure (wpAny_bind (wpAny_bind (wpAny_loadPart hx (wpAny_bind (PySem.W.Looks.here (s := { s with toks := s.toks + 1 }) (PySem.W.looks_clsIn X hc) ?_))))))
  rw [hd']
  refine wpAny_pure (a := some dx) (wpAny_bind (wpAny_pure (wpAny_bind ?_)))
  refine wpAny_nsSet1 (s := { s with toks := s.toks + 1 }) I.ns fun h' hn2 hs2 => ?_
  obtain ⟨oD, esD, epD, hoD, hdD, hcD⟩ := hn2.count (PySem.Within.cons name v hw)
  refine wpAny_bind (wpAny_lookBehind hoD (by rw [hdD]; exact pastItsLine_dict (Nat.le_trans hcD (by rw [List.length_cons]; omega))) ?_)
  exact wpAny_pure (h _ ⟨(hs2.2 _ (Ne.symm I.ne)).trans I.obj, hn2, I.ne⟩ hs2)

/-- C(..): the dict at the heap's end, the instance behind it; then its __init__ -/
theorem make_map {R : Result → Shared → Prop} {vs : List Value} {kw : List (Str × Value)} (X : K.In s.heap) (hm : PySem.W.makesIn K C = true)
    (hi : PySem.W.findIn K (.ref C) "__init__" = some (some (.ref f))) (hf : PySem.W.typeIn K (.ref f) = some (.type "function"))
    (h : codeAny (model prog w) (A.under (.builtin "type.__call__" ⟨.ref C :: vs, kw⟩)) (.call (.ref f) ⟨.ref (s.heap.objs.size + 1) :: vs, kw⟩) (PySem.W.InitBack (s.heap.objs.size + 1) R)
      { s with heap := (s.heap.push PySem.W.emptyDict).push (PySem.W.instObj C s.heap.objs.size) }) :
    codeAny (model prog w) A (.call (.ref C) ⟨vs, kw⟩) R s := by
  obtain ⟨hh, g, d, t, os⟩ := s
  exact PySem.W.make_core (PySem.W.makes_of X hm) (PySem.W.looks_findIn X hi) (fun self => PySem.W.bind_fn X self hf) (.inl rfl) h
end

def putF (f : Str) (v : V) : List (Str × V) → List (Str × V)
  | [] => [(f, v)]
  | (g, x) :: r => if g = f then (g, v) :: r else (g, x) :: putF f v r
theorem lookup_putF (f g : Str) (v : V) : ∀ fs : List (Str × V), (putF f v fs).lookup g = if g = f then some v else fs.lookup g
  | [] => by
    show List.lookup g [(f, v)] = _
    by_cases h : g = f
    · have hb : (g == f) = true := beq_iff_eq.mpr h
      simp only [List.lookup, hb, if_pos h]
    · have hb : (g == f) = false := beq_eq_false_iff_ne.mpr h
      simp only [List.lookup, hb, if_neg h]
  | (k, x) :: r => by
    have ih := lookup_putF f g v r
    rw [show putF f v ((k, x) :: r) = (if k = f then (k, v) :: r else (k, x) :: putF f v r) from rfl]
    by_cases hk : k = f
    · rw [if_pos hk]
      by_cases h : g = k
      · have hb : (g == k) = true := beq_iff_eq.mpr h
        simp only [List.lookup, hb, if_pos (h.trans hk)]
      · have hb : (g == k) = false := beq_eq_false_iff_ne.mpr h
        simp only [List.lookup, hb, if_neg (fun e : g = f => h (e.trans hk.symm))]
    · rw [if_neg hk]
      by_cases h : g = k
      · have hb : (g == k) = true := beq_iff_eq.mpr h
        simp only [List.lookup, hb, if_neg (fun e : g = f => hk (h.symm.trans e))]
      · have hb : (g == k) = false := beq_eq_false_iff_ne.mpr h
        simp only [List.lookup, hb]
        exact ih
theorem keys_putF (f : Str) (v : V) : ∀ fs : List (Str × V), f ∈ (putF f v fs).map (·.1) ∧ ∀ g, g ∈ fs.map (·.1) → g ∈ (putF f v fs).map (·.1)
  | [] => ⟨by simp [putF], fun g h => by simp at h⟩
  | (k, x) :: r => by
    obtain ⟨i1, i2⟩ := keys_putF f v r
    rw [show putF f v ((k, x) :: r) = (if k = f then (k, v) :: r else (k, x) :: putF f v r) from rfl]
    by_cases hk : k = f
    · rw [if_pos hk]
      subst hk
      exact ⟨by simp, fun g h => by simpa using h⟩
    · rw [if_neg hk]
      refine ⟨?_, fun g h => ?_⟩
      · rw [List.map_cons]
        exact List.mem_cons_of_mem _ i1
      · rw [List.map_cons] at h ⊢
        rcases List.mem_cons.mp h with e | e
        · exact List.mem_cons.mpr (.inl e)
        · exact List.mem_cons_of_mem _ (i2 g e)
theorem length_putF (f : Str) (v : V) : ∀ fs : List (Str × V), (putF f v fs).length ≤ fs.length + 1
  | [] => by simp [putF]
  | (k, x) :: r => by
    have ih := length_putF f v r
    rw [show putF f v ((k, x) :: r) = (if k = f then (k, v) :: r else (k, x) :: putF f v r) from rfl]
    by_cases hk : k = f
    · rw [if_pos hk, List.length_cons, List.length_cons]; omega
    · rw [if_neg hk, List.length_cons, List.length_cons]; omega

theorem RelO.some_of {v : V} {o : Option Value} (r : RelO (some v) o) : ∃ u, o = some u ∧ RelV v u := by
  cases o with
  | none => exact (show False from r).elim
  | some u => exact ⟨u, rfl, r⟩
theorem handed_of {v : V} {u : Value} (r : RelV v u) : PySem.W.handedIn u = true := by
  cases v with
  | non => cases (show u = Value.none from r); rfl
  | bl b => cases (show u = Value.bool b from r); rfl
  | int i => obtain ⟨t, e⟩ := (show ∃ t, u = Value.int i t from r); cases e; rfl
  | str x => obtain ⟨t, e⟩ := (show ∃ t, u = Value.str x t from r); cases e; rfl
  | byt b => obtain ⟨t, e⟩ := (show ∃ t, u = Value.bytes b t from r); cases e; rfl
  | flt b => obtain ⟨t, e⟩ := (show ∃ t, u = Value.float b t from r); cases e; rfl
  | ref a => cases (show u = Value.ref a from r); rfl
  | ty n => cases (show u = Value.type n from r); rfl

section
variable {P : Program} {w : World} {H H' : Hp} {h h' : Heap} {a C dx : Addr} {fs fs' : List (Str × V)}
theorem ins_get (hok : HOk P w H h) (e : H a = some (.ins C dx fs)) : ∃ mA, ObjM h a dx C mA ∧ (∀ f, RelO (fs.lookup f) (mA f)) ∧ PySem.Within mA (fs.map (·.1)) ∧ fs.length ≤ 1000 ∧ H dx = some (.own a) := by
  obtain ⟨d, z, ne, ob, mA, n, r, q⟩ := (show ObjOk P w H h a (.ins C dx fs) from hok a _ e)
  exact ⟨mA, ⟨ob, n, ne⟩, r, q, z, d⟩
end

structure Cls (K : PySem.W.Frag) (C : Addr) : Prop where
  pg : PySem.W.plainGet K C Str.empty = true
  hd : PySem.W.hasDictIn K C = true
  po : PySem.W.plainOver K C = true
  sa : PySem.W.findIn K (.ref C) "__setattr__" = some (some (.builtin "object.__setattr__"))
theorem Cls.get {K : PySem.W.Frag} {C : Addr} (c : Cls K C) (f : Str) : PySem.W.plainGet K C f = true := c.pg
/-- no class of it has the name -/
def NoAttr (K : PySem.W.Frag) (C : Addr) (f : Str) : Prop := PySem.W.findIn K (.ref C) f = some none
theorem NoAttr.taker {K : PySem.W.Frag} {C : Addr} {f : Str} (n : NoAttr K C f) : PySem.W.takerIn K C f = some none := by
  unfold PySem.W.takerIn
  rw [show PySem.W.findIn K (.ref C) f = some none from n]
  rfl
section
variable {X : Cx} {pins : List (Addr × Obj)} {σ : St} {H : Hp} {s : Shared} {a C dx : Addr} {fs : List (Str × V)} {f : Str} {v : V} {A : Around} {E : Value → Shared → Prop}

theorem getattr_ok {b : Bool} {Q : Value → Shared → Prop} (I : Inv X pins σ H s) (e : H a = some (.ins C dx fs)) (c : Cls X.K C) (n : NoAttr X.K C f) (l : fs.lookup f = some v)
    (h : ∀ u s', Inv X pins σ H s' → RelV v u → Q u s') : wpAny (model X.prog X.w) A (getAttr (.ref a) f b) Q E s := by
  obtain ⟨mA, O, r, _, _, _⟩ := ins_get I.hok e
  obtain ⟨u, hu, ru⟩ := RelO.some_of (v := v) (o := mA f) (by rw [← l]; exact r f)
  exact get_map I.kIn O (c.get f) c.hd n hu (handed_of ru) (h u _ (I.tok _) ru)

theorem setattr_ok {y : V} {u : Value} {Q : Unit → Shared → Prop} (I : Inv X pins σ H s) (e : H a = some (.ins C dx fs)) (c : Cls X.K C) (n : NoAttr X.K C f) (hl : fs.length < 1000) (ry : RelV y u)
    (h : ∀ s', Inv X pins σ (upd H a (.ins C dx (putF f y fs))) s' → Q () s') : wpAny (model X.prog X.w) A (setAttr (.ref a) f u) Q E s := by
  obtain ⟨mA, O, r, wi, _, ho⟩ := ins_get I.hok e
  have hz : (fs.map (·.1)).length ≤ sizeLine := by rw [List.length_map, sizeLine_eq]; omega
  refine set_map I.kIn O c.sa c.po n.taker c.hd wi hz fun h' O' sb => h _ ?_
  have hd : ∃ o, h'.get? dx = some o := let ⟨o, _, _, e', _⟩ := O'.ns; ⟨o, e'⟩
  refine I.write (x := a) (e := dx) (by rw [e]; exact True.intro) (.inr ho) (fun b q hb z => (sb.2 b hb).trans z) hd ?_
  refine ⟨by rw [upd_ne O.ne]; exact ho, ?_, O.ne, O'.obj, _, O'.ns, fun g => ?_, fun g hg => ?_⟩
  · have := length_putF f y fs; omega
  · show RelO ((putF f y fs).lookup g) (if g = f then some u else mA g)
    rw [lookup_putF]
    by_cases q : g = f
    · rw [if_pos q, if_pos q]; exact ry
    · rw [if_neg q, if_neg q]; exact r g
  · by_cases q : g = f
    · rw [q]; exact (keys_putF f y fs).1
    · refine (keys_putF f y fs).2 g (wi g fun z => hg ?_)
      show (if g = f then some u else mA g) = none
      rw [if_neg q]; exact z

/-- a new instance, tracked, without attributes -/
theorem Inv.made (I : Inv X pins σ H s) : Inv X pins σ (upd (upd H s.heap.objs.size (.own (s.heap.objs.size + 1))) (s.heap.objs.size + 1) (.ins C s.heap.objs.size []))
    { s with heap := (s.heap.push PySem.W.emptyDict).push (PySem.W.instObj C s.heap.objs.size) } := by
  have e1 : (s.heap.push PySem.W.emptyDict).get? s.heap.objs.size = some PySem.W.emptyDict := Heap.get?_push_size s.heap rfl
  have e2 : ((s.heap.push PySem.W.emptyDict).push (PySem.W.instObj C s.heap.objs.size)).get? (s.heap.objs.size + 1) = some (PySem.W.instObj C s.heap.objs.size) := by
    have := Heap.get?_push_size (s.heap.push PySem.W.emptyDict) (o := PySem.W.instObj C s.heap.objs.size) rfl
    rwa [Heap.size_push] at this
  have e3 : (s.heap.push PySem.W.emptyDict).Ns s.heap.objs.size (fun _ => none) := ⟨PySem.W.emptyDict, #[], _, e1, rfl, (fun e he => absurd he (by simp)), fun _ => rfl⟩
  have I1 := I.laid (a := s.heap.objs.size) (o := .own (s.heap.objs.size + 1)) (h' := s.heap.push PySem.W.emptyDict) (t' := s.toks) (fun b u q => Heap.get?_push_of_some _ q) (Nat.le_refl _) ⟨_, e1⟩
  refine I1.laid (a := s.heap.objs.size + 1) (o := .ins C s.heap.objs.size []) (t' := s.toks) (fun b u q => Heap.get?_push_of_some _ q) (Nat.le_of_eq (Heap.size_push _ _)) ?_
  have ne : s.heap.objs.size ≠ s.heap.objs.size + 1 := Nat.ne_of_lt (Nat.lt_succ_self _)
  refine ⟨by rw [upd_ne ne, upd_same], Nat.zero_le _, ne, e2, fun _ => none, (Heap.Ns1.of_empty e3).at fun o q => Heap.get?_push_of_some _ q, fun _ => True.intro, fun y hy => absurd rfl hy⟩

/-- e.f where nothing but the object is asked: through attributeBase (super) and the last hold -/
theorem attr_of {prog : Program} {w : World} {env : Env} {e : Expr} {f : Str} {pos : Pos} {s : Shared} {Q : Value → Shared → Prop} (hb : attributeBase e f env (eval e env) = eval e env)
    (h : wpAny (model prog w) A (eval e env) (fun o s₁ => wpAny (model prog w) A (getAttr o f true) Q E s₁) E s) : wpAny (model prog w) A (eval (.Attribute e f pos) env) Q E s :=
  Attribute_any_ h (by rw [arm_eval_Attribute, hb])
end

/-- e.f, an attribute of the instance -/
def tFld (K : PySem.W.Frag) (ta : TE) (f : Str) : TE := fun σ H Q => ta σ H fun x H1 => ∃ a C dx fs v, x = .ref a ∧ H1 a = some (.ins C dx fs) ∧ Cls K C ∧ NoAttr K C f ∧ fs.lookup f = some v ∧ Q v H1
/-- e.f = value -/
def sFld (K : PySem.W.Frag) (ta tv : TE) (f : Str) : TS := fun D σ H => tv σ H fun y H1 => ta σ H1 fun x H2 => ∃ a C dx fs, x = .ref a ∧ H2 a = some (.ins C dx fs) ∧ Cls K C ∧ NoAttr K C f ∧ fs.length < 1000 ∧
  D.nx σ (upd H2 a (.ins C dx (putF f y fs)))
section
variable {X : Cx} {o e value : Expr} {f : Str} {pos pos' tpos : Pos} {ta tv : TE}
theorem pe_fld (he : PE X e ta) (hb : attributeBase e f X.env (eval e X.env) = eval e X.env) : PE X (.Attribute e f pos) (tFld X.K ta f) := by
  intro pins s σ H Q I h
  refine attr_of hb (thn (he pins s σ H _ I h) fun u s1 ⟨x, H1, I1, rx, a, C, dx, fs, v, ex, ea, c, n, l, q⟩ => ?_)
  subst ex
  obtain rfl : u = Value.ref a := rx
  exact getattr_ok I1 ea c n l fun u' s2 I2 ru => ⟨v, H1, I2, ru, q⟩
theorem ps_fld (ha : PE X o ta) (hv : PE X value tv) (hs : swapsWith value (some (.Attribute o f pos')) pos.line X.env = pure false) : PS X (.Assign [.Attribute o f pos'] value pos) (sFld X.K ta tv f) := by
  intro pins s σ H D I h
  refine plainObj_wpAny_Assign_Attribute (thn (hv pins s σ H _ I h) fun u s1 ⟨y, H1, I1, ry, q⟩ => thn (ha pins s1 σ H1 _ I1 q) fun ov s2 ⟨x, H2, I2, rx, a, C, dx, fs, ex, ea, c, n, l, q2⟩ => ?_) hs
  subst ex
  obtain rfl : ov = Value.ref a := rx
  exact setattr_ok I2 ea c n l ry fun s3 I3 => ⟨σ, _, I3, q2⟩
end

section
variable {X : Cx} {pins : List (Addr × Obj)} {σ : St} {H : Hp} {s : Shared} {A : Around} {E : Value → Shared → Prop} {Q : Value → Shared → Prop} {c : Value} {b : Bool}
end
end L2

namespace L2
open PySem PySem.Spec PyProof.Rows

structure Room (k : Nat) (A : Around) : Prop where
  hd : A.handled = none
  dp : A.depth + 3 * k + 5 < recursionLimit
  un : A.units + 16 * k + 200 < cLine
theorem Room.mono {j k : Nat} {A : Around} (r : Room k A) (h : j ≤ k) : Room j A := ⟨r.hd, by have := r.dp; omega, by have := r.un; omega⟩
theorem Room.deeper {k : Nat} {A : Around} (r : Room (k + 1) A) (env : Env) : Room k (A.deeper env) :=
  ⟨r.hd, by have := r.dp; show A.depth + 1 + 3 * k + 5 < _; omega, by have := r.un; show A.units + 3 + 16 * k + 200 < _; omega⟩
theorem make_depth {A : Around} {C : Addr} {us : List Value} {kw : List (Str × Value)} : (A.under (.builtin "type.__call__" ⟨.ref C :: us, kw⟩)).depth = A.depth + 1 := by
  first | rfl | simp [Around.under, Code.weight, Code.isCreation, Code.isGuard, Code.isCaller, Code.frames, Code.isFrame, guardIds]
theorem make_units {A : Around} {C : Addr} {us : List Value} {kw : List (Str × Value)} : (A.under (.builtin "type.__call__" ⟨.ref C :: us, kw⟩)).units = A.units + 1 := by
  first | rfl | simp [Around.under, Code.cUnits, Code.frames, Code.isFrame]
theorem Room.make {k : Nat} {A : Around} (r : Room (k + 1) A) (C : Addr) (us : List Value) (kw : List (Str × Value)) : Room k (A.under (.builtin "type.__call__" ⟨.ref C :: us, kw⟩)) :=
  ⟨r.hd, by have := r.dp; rw [make_depth]; omega, by have := r.un; rw [make_units]; omega⟩
theorem Room.depth {k : Nat} {A : Around} (r : Room k A) : A.depth < recursionLimit := by have := r.dp; omega
theorem Room.units {k : Nat} {A : Around} (r : Room k A) : A.units + 64 < cLine := by have := r.un; omega
def tNil : TA := fun _ H Q => Q [] H
def tCons (ta : TE) (tr : TA) : TA := fun σ H Q => ta σ H fun x H1 => tr σ H1 fun xs H2 => Q (x :: xs) H2
section
variable {X : Cx} {e : Expr} {es : List Expr} {te : TE} {t : TA} {pos : Pos}
theorem pa_nil : PA X [] tNil := fun _ _ _ _ H Q I h => Calls.spliced_nil ⟨[], H, I, .nil, h⟩
theorem pa_cons (ha : PE X e te) (hr : PA X es t) (hs : starEach (e :: es) X.env = (false, eval e X.env) :: starEach es X.env := by rfl) : PA X (e :: es) (tCons te t) := by
  intro pos pins s σ H Q I h
  rw [hs]
  show wpAny _ _ (spliced ((false, eval e X.env) :: backTo pos (starEach es X.env))) _ _ s
  refine Calls.spliced_cons (thn (ha pins s σ H _ I h) fun u s1 ⟨x, H1, I1, r1, q1⟩ => ?_)
  exact thn (hr pos pins s1 σ H1 _ I1 q1) fun us s2 ⟨xs, H2, I2, r2, q2⟩ => ⟨x :: xs, H2, I2, .cons r1 r2, q2⟩

def tLst (t : TA) : TE := fun σ H Q => t σ H fun xs H1 => xs.length ≤ sizeLine ∧ ∀ p, H1 p = none → Q (.ref p) (upd H1 p (.lst xs))
theorem pe_lst (h : PA X es t) : PE X (.List es pos) (tLst t) := by
  intro pins s σ H Q I hq
  refine wpAny_List_spliced (thn (h pos pins s σ H _ I hq) fun us s1 ⟨xs, H1, I1, r, z, q⟩ => ⟨by rw [← r.length]; exact z, ?_⟩)
  have hf : H1 s1.heap.objs.size = none := I1.hok.fresh (Nat.le_refl _)
  refine ⟨.ref s1.heap.objs.size, upd H1 s1.heap.objs.size (.lst xs), I1.laid (t' := s1.toks) (fun b u e => Heap.get?_push_of_some _ e) (Nat.le_refl _) ?_, rfl, q _ hf⟩
  exact ⟨z, us, 0, r, Heap.get?_push_size _ rfl⟩
end

/-- a def's promise: the bound arguments in the parameters' order, the heap, the wanted end, the wanted exception -/
abbrev Sp := List V → Hp → VK → XK → Prop
/-- how an exception lies behind a call (file 08 gives it): the callers' frames, abstract heap and state ahead of the call, the wish, the exception, the state -/
abbrev CXT := List Env → Hp → Shared → XK → Value → Shared → Prop

/-- the state at a call -/
structure Env0 (P : Program) (w : World) (K : PySem.W.Frag) (mg : Str → Option Value) (base : Heap) (A : Around) (outer : List Env) (s : Shared) (H : Hp) : Prop where
  frames : A.frames = some outer
  mod : Mod K mg base
  bs : ∀ b o, base.get? b = some o → s.heap.get? b = some o ∧ H b = none
  bsz : base.objs.size ≤ s.heap.objs.size
  funs : s.heap.FunFrames base outer
  frf : ∀ b ∈ frs outer, H b = none
  hok : HOk P w H s.heap
  bare : AllBare s.gens
/-- a call's end -/
def CE (outer : List Env) (P : Program) (w : World) (H : Hp) (s : Shared) (Q : VK) (u : Value) (s' : Shared) : Prop :=
  ∃ v H', s'.os = s.os ∧ AllBare s'.gens ∧ Un (frs outer) [] H H' s.heap s'.heap ∧ HOk P w H' s'.heap ∧ RelV v u ∧ Q v H'
def CR (CX : CXT) (outer : List Env) (P : Program) (w : World) (H : Hp) (s : Shared) (Q : VK) (E : XK) (r : Result) (s' : Shared) : Prop :=
  match r with
  | .ok (.ret u) => CE outer P w H s Q u s'
  | .ok _ => False
  | .error e => CX outer H s E e s'
structure FnOk (P : Program) (w : World) (K : PySem.W.Frag) (mg : Str → Option Value) (base : Heap) (CX : CXT) (k : Nat) (f : Addr) (fd : FuncData) (ps : List Str) (sp : Sp) : Prop where
  len : ∀ vs H Q E, sp vs H Q E → vs.length = ps.length
  run : ∀ (A : Around) (outer : List Env) (s : Shared) (H : Hp) (args : Args) (us : List Value) (vs : List V) (Q : VK) (E : XK), Room k A → Env0 P w K mg base A outer s H → BindsTo s fd args (ps.zip us) → Vals vs us → sp vs H Q E →
    codeAny (model P w) A (.call (.ref f) args) (CR CX outer P w H s Q E) s
theorem Env0.make {P : Program} {w : World} {K : PySem.W.Frag} {mg : Str → Option Value} {base : Heap} {A : Around} {outer : List Env} {s : Shared} {H : Hp} (e : Env0 P w K mg base A outer s H) (C : Addr) (us : List Value) (kw : List (Str × Value)) :
    Env0 P w K mg base (A.under (.builtin "type.__call__" ⟨.ref C :: us, kw⟩)) outer s H := ⟨by first | exact e.frames | (simpa [Around.under, Code.envs, Code.isFrame, pushEnvs] using e.frames), e.mod, e.bs, e.bsz, e.funs, e.frf, e.hok, e.bare⟩
section
variable {X : Cx} {pins : List (Addr × Obj)} {σ : St} {H : Hp} {s s' : Shared}
/-- from a body: what a callee wants -/
theorem Inv.env0 (I : Inv X pins σ H s) : Env0 X.prog X.w X.K X.mg X.base X.A X.stack s H :=
  ⟨I.ok.frames, I.ok.mod, I.bs, Nat.le_trans I.ok.bsz I.sz, I.stack, I.stkFree, I.hok, I.bare⟩
/-- behind a call -/
theorem Inv.after {Q : VK} {u : Value} (I : Inv X pins σ H s) (h : CE X.stack X.prog X.w H s Q u s') : EP X pins σ Q u s' := by
  obtain ⟨v, H', os, bare, un, hok, r, q⟩ := h
  obtain ⟨hh, g, d, t, os'⟩ := s'
  obtain rfl : os' = s.os := os
  exact ⟨v, H', I.call (h' := hh) (g' := g) (d' := d) (t' := t) (ch := []) un hok bare (fun b z => absurd z (by simp)), r, q⟩
end

/-- f(..): the written arguments, then the defaults dvs; E: what is wanted of an exception -/
def tCall (sp : Sp) (dvs : List V) (E : XK) (t : TA) : TE := fun σ H Q => t σ H fun vs H1 => sp (vs ++ dvs) H1 Q E
/-- C(..): a new instance and its dict, then __init__ -/
def tMake (C : Addr) (sp : Sp) (dvs : List V) (E : XK) (t : TA) : TE := fun σ H Q => t σ H fun vs H1 => ∀ x dx, H1 x = none → H1 dx = none → dx ≠ x →
  sp (.ref x :: (vs ++ dvs)) (upd (upd H1 dx (.own x)) x (.ins C dx [])) (fun v H2 => v = .non ∧ Q (.ref x) H2) E

/-- how the parameters are bound: us the positional arguments, kw the keywords' values by name, ds the defaults that fill up -/
def Binds (K : PySem.W.Frag) (fd : FuncData) (ps : List Str) (ds : List Value) : Prop :=
  ∀ (s : Shared) (us : List Value), K.In s.heap → (us ++ ds).length = ps.length → BindsTo s fd ⟨us, []⟩ (ps.zip (us ++ ds))
/-- every parameter is given -/
theorem Binds.all {K : PySem.W.Frag} {fd : FuncData} {ps : List Str} (h : ∀ us : List Value, us.length = ps.length → bindArgs fd ⟨us, []⟩ = pure (ps.zip us)) : Binds K fd ps [] := fun s us _ hl => by
  rw [List.append_nil] at hl ⊢
  exact .of_eq (h us hl)

/-- an exception of a callee reaches what this body wants of exceptions -/
def Passes (CX : CXT) (X : Cx) (E : XK) : Prop := ∀ (pins : List (Addr × Obj)) (σ : St) (H : Hp) (s : Shared) (e : Value) (s' : Shared), Inv X pins σ H s → CX X.stack H s E e s' → X.xe e s'

section
variable {X : Cx} {CX : CXT} {k : Nat} {f C : Addr} {fd : FuncData} {ps : List Str} {sp : Sp} {dvs : List V} {ds : List Value} {E : XK} {x m : Str} {p pos apos : Pos} {e o : Expr} {es : List Expr} {ta : TE} {t : TA}

/-- the callee runs -/
theorem run_fn {pins : List (Addr × Obj)} {σ : St} {H : Hp} {s : Shared} {Q : VK} {us : List Value} {vs : List V} (F : FnOk X.prog X.w X.K X.mg X.base CX k f fd ps sp) (hr : Room k X.A) (hb : Binds X.K fd ps ds) (hd : Vals dvs ds) (hx : Passes CX X E)
    (I : Inv X pins σ H s) (r : Vals vs us) (h : sp (vs ++ dvs) H Q E) : wpAny (model X.prog X.w) X.A (call (.ref f) us) (EP X pins σ Q) X.xe s := by
  have r2 : Vals (vs ++ dvs) (us ++ ds) := r.append hd
  have hl : (us ++ ds).length = ps.length := by rw [← r2.length]; exact F.len _ _ _ _ h
  refine wpAny_call (codeAny_mono (F.run X.A X.stack s H ⟨us, []⟩ (us ++ ds) (vs ++ dvs) Q E hr I.env0 (hb s us I.kIn hl) r2 h) fun r s' hq => ?_)
  cases r with
  | error e => exact hx pins σ H s e s' I hq
  | ok fl =>
    cases fl with
    | ret u => exact I.after hq
    | next => exact False.elim hq
    | brk => exact False.elim hq
    | cont => exact False.elim hq

theorem pe_call (F : FnOk X.prog X.w X.K X.mg X.base CX k f fd ps sp) (hr : Room k X.A) (hg : Gl X x) (hm : X.mg x = some (.ref f)) (hk : PySem.W.keepIn X.K (.ref f) = true) (hb : Binds X.K fd ps ds) (hd : Vals dvs ds) (hx : Passes CX X E)
    (ha : PA X (e :: es) t) (hdb : (x == ("__debug__" : Str)) = false := by decide) (he : starEach (e :: es) X.env = (false, eval e X.env) :: starEach es X.env := by rfl) (hpl : (backTo pos (starEach es X.env)).any (·.1) = false := by rfl) :
    PE X (.Call (.Name x p) (e :: es) [] pos) (tCall sp dvs E t) := by
  intro pins s σ H Q I h
  refine wpAny_Call_Name_kw (ld_glob I hg hm ?_ hdb)
  refine PySem.W.callWith_K (h₀ := X.base) I.ok.mod.kin hk (thn (ha pos pins s σ H _ I h) fun us s1 ⟨vs, H1, I1, r, q⟩ => ⟨I1.kIn, ?_⟩) he hpl
  exact run_fn F hr hb hd hx I1 r q
/-- what a class must have to be made -/
structure Mk (K : PySem.W.Frag) (C f : Addr) : Prop where
  makes : PySem.W.makesIn K C = true
  init : PySem.W.findIn K (.ref C) "__init__" = some (some (.ref f))
  fn : PySem.W.isFn K (.ref f) = true
  kp : PySem.W.keepIn K (.ref C) = true

theorem run_make {pins : List (Addr × Obj)} {σ : St} {H : Hp} {s : Shared} {Q : VK} {us : List Value} {vs : List V} (M : Mk X.K C f) (F : FnOk X.prog X.w X.K X.mg X.base CX k f fd ps sp) (hr : Room (k + 1) X.A) (hb : Binds X.K fd ps ds) (hd : Vals dvs ds)
    (hx : Passes CX X E) (I : Inv X pins σ H s) (r : Vals vs us)
    (h : ∀ x dx, H x = none → H dx = none → dx ≠ x → sp (.ref x :: (vs ++ dvs)) (upd (upd H dx (.own x)) x (.ins C dx [])) (fun v H2 => v = .non ∧ Q (.ref x) H2) E) :
    wpAny (model X.prog X.w) X.A (call (.ref C) us) (EP X pins σ Q) X.xe s := by
  have hq := h (s.heap.objs.size + 1) s.heap.objs.size (I.hok.fresh (Nat.le_succ _)) (I.hok.fresh (Nat.le_refl _)) (Nat.ne_of_lt (Nat.lt_succ_self _))
  have I2 := Inv.made (C := C) I
  have r2 : Vals (V.ref (s.heap.objs.size + 1) :: (vs ++ dvs)) (Value.ref (s.heap.objs.size + 1) :: (us ++ ds)) := .cons rfl (r.append hd)
  have hl : (Value.ref (s.heap.objs.size + 1) :: us ++ ds).length = ps.length := by
    have e := r2.length
    rw [F.len _ _ _ _ hq] at e
    exact e.symm
  refine wpAny_call (make_map (f := f) I.kIn M.makes M.init (beq_iff_eq.mp M.fn) (codeAny_mono (F.run _ X.stack _ _ ⟨Value.ref (s.heap.objs.size + 1) :: us, []⟩ (Value.ref (s.heap.objs.size + 1) :: (us ++ ds)) _ _ E (hr.make C us [])
    (I2.env0.make C us []) (hb _ (Value.ref (s.heap.objs.size + 1) :: us) I2.kIn hl) r2 hq) fun r s' hq' => ?_))
  cases r with
  | error e => exact hx pins σ _ _ e s' I2 hq'
  | ok fl =>
    cases fl with
    | ret u =>
      obtain ⟨v, H', I3, rv, ev, q3⟩ := I2.after hq'
      subst ev
      exact ⟨rv, ⟨V.ref (s.heap.objs.size + 1), H', I3, rfl, q3⟩⟩
    | next => exact False.elim hq'
    | brk => exact False.elim hq'
    | cont => exact False.elim hq'
theorem pe_make (M : Mk X.K C f) (F : FnOk X.prog X.w X.K X.mg X.base CX k f fd ps sp) (hr : Room (k + 1) X.A) (hg : Gl X x) (hm : X.mg x = some (.ref C)) (hb : Binds X.K fd ps ds) (hd : Vals dvs ds) (hx : Passes CX X E)
    (ha : PA X (e :: es) t) (hdb : (x == ("__debug__" : Str)) = false := by decide) (he : starEach (e :: es) X.env = (false, eval e X.env) :: starEach es X.env := by rfl) (hpl : (backTo pos (starEach es X.env)).any (·.1) = false := by rfl) :
    PE X (.Call (.Name x p) (e :: es) [] pos) (tMake C sp dvs E t) := by
  intro pins s σ H Q I h
  refine wpAny_Call_Name_kw (ld_glob I hg hm ?_ hdb)
  refine PySem.W.callWith_K (h₀ := X.base) I.ok.mod.kin M.kp (thn (ha pos pins s σ H _ I h) fun us s1 ⟨vs, H1, I1, r, q⟩ => ⟨I1.kIn, ?_⟩) he hpl
  exact run_make M F hr hb hd hx I1 r q
end

section
variable {X : Cx} {CX : CXT} {k : Nat} {f C : Addr} {fd : FuncData} {ps ks : List Str} {sp : Sp} {E : XK} {x m : Str} {p pos apos kpos : Pos} {e o : Expr} {es : List Expr} {kws : List Keyword} {te ta : TE} {t tk : TA} {nm : Option Str}
variable {g : List Value → List Value → List Value} {gV : List V → List V → List V}
end

/-- names: the parameters first -/
structure FnScope (N P : List Str) (sc : Scope) : Prop where
  kind : sc.kind = .function
  co : sc.isCoroutine = false
  gen : sc.isGenerator = false
  nd : N.Nodup
  pre : N.take P.length = P
  par : ∀ x ∈ P, sc.names.lookup x = some .local ∨ sc.names.lookup x = some .cell
  nofree : ∀ y ∈ sc.names, y.2 ≠ .free

theorem bindL_out {kindOf : Str → Option NameKind} {x : Str} : ∀ {binds : List (Str × Value)} {m : Str → Option Value}, (∀ v, (x, v) ∉ binds) → bindL kindOf binds m x = m x
  | [], _, _ => rfl
  | (n, v) :: r, m, h => by
    unfold bindL
    rw [bindL_out fun w hw => h w (List.mem_cons_of_mem _ hw)]
    split
    · have : x ≠ n := by rintro rfl; exact h v List.mem_cons_self
      simp [this]
    · rfl
theorem bindC_out {kindOf : Str → Option NameKind} {x : Str} : ∀ {binds : List (Str × Value)} {m : Str → Option Value}, (∀ v, (x, v) ∉ binds) → bindC kindOf binds m x = m x
  | [], _, _ => rfl
  | (n, v) :: r, m, h => by
    unfold bindC
    rw [bindC_out fun w hw => h w (List.mem_cons_of_mem _ hw)]
    split
    · rfl
    · have : x ≠ n := by rintro rfl; exact h v List.mem_cons_self
      simp [this]
theorem bindL_get {kindOf : Str → Option NameKind} {x : Str} {v : Value} : ∀ {P : List Str} {vs : List Value} {i : Nat} {m : Str → Option Value}, P.Nodup → P[i]? = some x → vs[i]? = some v → kindOf x = some .local →
    bindL kindOf (P.zip vs) m x = some v
  | [], _, _, _, _, h, _, _ => by simp at h
  | _ :: _, [], _, _, _, _, h, _ => by simp at h
  | p :: P, w :: vs, 0, m, nd, h1, h2, hk => by
    simp at h1 h2; subst h1; subst h2
    show bindL kindOf ((p, w) :: P.zip vs) m p = _
    unfold bindL
    rw [bindL_out fun v hv => (List.nodup_cons.mp nd).1 (List.of_mem_zip hv).1, if_pos hk]
    simp
  | p :: P, w :: vs, i + 1, m, nd, h1, h2, hk => by
    show bindL kindOf ((p, w) :: P.zip vs) m x = _
    unfold bindL
    exact bindL_get (i := i) (List.nodup_cons.mp nd).2 (by simpa using h1) (by simpa using h2) hk
theorem bindC_get {kindOf : Str → Option NameKind} {x : Str} {v : Value} : ∀ {P : List Str} {vs : List Value} {i : Nat} {m : Str → Option Value}, P.Nodup → P[i]? = some x → vs[i]? = some v → kindOf x ≠ some .local →
    bindC kindOf (P.zip vs) m x = some v
  | [], _, _, _, _, h, _, _ => by simp at h
  | _ :: _, [], _, _, _, _, h, _ => by simp at h
  | p :: P, w :: vs, 0, m, nd, h1, h2, hk => by
    simp at h1 h2; subst h1; subst h2
    show bindC kindOf ((p, w) :: P.zip vs) m p = _
    unfold bindC
    rw [bindC_out fun v hv => (List.nodup_cons.mp nd).1 (List.of_mem_zip hv).1, if_neg hk]
    simp
  | p :: P, w :: vs, i + 1, m, nd, h1, h2, hk => by
    show bindC kindOf ((p, w) :: P.zip vs) m x = _
    unfold bindC
    exact bindC_get (i := i) (List.nodup_cons.mp nd).2 (by simpa using h1) (by simpa using h2) hk

/-- the names' values at the entry -/
def start (N : List Str) (vs : List V) : St := vs.map some ++ List.replicate (N.length - vs.length) none

/-- the context of a def's body, at its entry; an exception leaves the frame, then lies as CX says -/
def cxOf (CX : CXT) (P : Program) (w : World) (K : PySem.W.Frag) (mg : Str → Option Value) (base : Heap) (N : List Str) (qual : Str) (scope : Scope) (f : Addr) (cd : Value) (A : Around) (outer : List Env) (s : Shared) (H : Hp) (E : XK) : Cx where
  prog := P
  w := w
  K := K
  mg := mg
  base := base
  A := A.deeper (envOfC qual scope s.heap.objs.size f cd)
  N := N
  s_0 := s
  H_0 := H
  env := envOfC qual scope s.heap.objs.size f cd
  outer := outer
  stack := envOfC qual scope s.heap.objs.size f cd :: outer
  ex := []
  calm := true
  fn := fun _ => true
  pn := []
  xe := fun e s' => wpAny (model P w) (A.deeper (envOfC qual scope s.heap.objs.size f cd)) (leaving (envOfC qual scope s.heap.objs.size f cd) e) (fun _ s'' => CX outer H s E e s'') (fun e' s'' => CX outer H s E e' s'') s'

theorem cell_has {sc : Scope} {n : Nat} {x : Str} (h : sc.names.lookup x = some .cell) : ∃ c, (cellsFrom n sc.names []).lookup x = some c := by
  have q := PySem.W.cellsFrom_some sc.names n [] (.inl h)
  exact Option.isSome_iff_exists.mp q

theorem inv_start {CX : CXT} {P : Program} {w : World} {K : PySem.W.Frag} {mg : Str → Option Value} {base : Heap} {N ps : List Str} {qual : Str} {scope : Scope} {f : Addr} {cd : Value} {A : Around} {outer : List Env} {s s1 : Shared} {H : Hp} {E : XK} {us : List Value} {vs : List V}
    (S : FnScope N ps scope) (hd : A.handled = none) (e0 : Env0 P w K mg base A outer s H) (hl : vs.length = ps.length) (r : Vals vs us)
    (x : InCallC s s.heap.objs.size (bindL (envOfC qual scope s.heap.objs.size f cd).kindOf (ps.zip us) fun _ => none) (cellsFrom (s.heap.objs.size + 1) scope.names []) (bindC (envOfC qual scope s.heap.objs.size f cd).kindOf (ps.zip us) fun _ => none) s1) :
    Inv (cxOf CX P w K mg base N qual scope f cd A outer s H E) [] (start N vs) H s1 := by
  have hpl : ps.length ≤ N.length := by have := congrArg List.length S.pre; rw [List.length_take] at this; omega
  obtain ⟨h1, tk, rfl, hk⟩ := x.done
  have noA : ∀ b : Addr, b ∉ (cxOf CX P w K mg base N qual scope f cd A outer s H E).ex := fun b z => absurd (show b ∈ ([] : List Addr) from z) (by simp)
  refine ⟨⟨e0.mod, S.kind, rfl, rfl, Nat.le_refl _, fun y z c h1 h2 => ?_, fun y hy => ?_, fun y c _ h => ?_, fun _ => hd, Around.frames_deeper e0.frames, .inr ⟨rfl, rfl⟩, fun b z => absurd z (noA b), e0.bs, e0.bsz, fun b _ _ => noA b, fun b z => absurd z (noA b), e0.funs, e0.frf⟩,
    rfl, e0.bare, Un.kept hk, ⟨_, x.toInCall.ns, fun i y v h1 h2 h3 => ?_⟩, fun y c h => ⟨_, x.cell y c h⟩, e0.hok.fresh (Nat.le_refl _), fun y c h => ?_, fun p hp => absurd (show p ∈ ([] : List (Addr × Obj)) from hp) (by simp), e0.hok.kept hk, ?_⟩
  · exact name_of_addr x.apart (PySem.mem_of_lookup h1) (PySem.mem_of_lookup h2)
  · have hy : scope.names.lookup y = some .cell ∨ scope.names.lookup y = some .free := hy
    rcases hy with hy | hy
    · exact cell_has hy
    · exact absurd rfl (S.nofree _ (PySem.mem_of_lookup hy))
  · exact Nat.le_of_lt (x.above y c (PySem.mem_of_lookup h))
  · have hi : i < vs.length := by
      unfold start at h2
      by_cases hi : i < vs.length
      · exact hi
      · rw [List.getElem?_append_right (by simpa using hi)] at h2
        rw [List.getElem?_replicate] at h2
        split at h2 <;> cases h2
    have ha : vs[i]? = some v := by
      unfold start at h2
      rw [List.getElem?_append_left (by simpa using hi), List.getElem?_map] at h2
      cases e : vs[i]? with
      | none => rw [e] at h2; cases h2
      | some a => rw [e] at h2; cases h2; rfl
    obtain ⟨u, hu, rv⟩ := r.get ha
    have hp : ps[i]? = some y := by
      rw [← S.pre, List.getElem?_take_of_lt (by omega)]; exact h1
    have ndP : ps.Nodup := by rw [← S.pre]; exact S.nd.sublist (List.take_sublist _ _)
    refine ⟨u, rv, ?_⟩
    rcases S.par y (List.mem_of_getElem? hp) with k | k
    · exact .inl ⟨k, bindL_get ndP hp hu k⟩
    · obtain ⟨c, e⟩ := cell_has (n := s.heap.objs.size + 1) k
      refine .inr ⟨.inl k, c, e, ?_⟩
      have q := x.cell y c e
      rw [bindC_get ndP hp hu (by show scope.names.lookup y ≠ _; rw [k]; decide)] at q
      exact q
  · exact e0.hok.fresh (Nat.le_of_lt (x.above y c (PySem.mem_of_lookup h)))
  · unfold start
    show _ = N.length
    rw [List.length_append, List.length_map, List.length_replicate]
    omega

/-- THE RULE: a def (or a method) of the text, by its body. The body's reading t is chosen for each entry; it is run at the parameters' values -/
theorem fn_of {CX : CXT} {P : Program} {w : World} {K : PySem.W.Frag} {mg : Str → Option Value} {base : Heap} {k : Nat} {f : Addr} {name qual : Str} {params : Arguments} {body : List Stmt} {scope : Scope} {dV kV doc pm cdv ct oc : Value} {an od : Option Addr}
    {osl : Array (Option Value)} {N ps : List Str} {sp : Sp} (lk : K.lookup f = some ⟨oc, od, .func (PySem.W.fnOf name qual params body scope dV kV doc pm an cdv ct), osl⟩) (hcd : PySem.W.codeIn K cdv qual = true) (S : FnScope N ps scope)
    (len : ∀ vs H Q E, sp vs H Q E → vs.length = ps.length)
    (hbody : ∀ (A : Around) (outer : List Env) (s : Shared) (H : Hp) (vs : List V) (Q : VK) (E : XK), Room k (A.deeper (envOfC qual scope s.heap.objs.size f cdv)) → sp vs H Q E →
      ∃ t, PSs (cxOf CX P w K mg base N qual scope f cdv A outer s H E) body t ∧ t { nx := fun _ H' => Q .non H', rt := Q } (start N vs) H) :
    FnOk P w K mg base CX (k + 1) f (PySem.W.fnOf name qual params body scope dV kV doc pm an cdv ct) ps sp := by
  refine ⟨len, fun A outer s H args us vs Q E hr e0 hb r hsp => ?_⟩
  have hl := len _ _ _ _ hsp
  have KX : K.In s.heap := e0.mod.kin.keeps fun b o e => (e0.bs b o e).1
  have lim : s.heap.NoLimit := e0.mod.nolimit.keeps fun b o e => (e0.bs b o e).1
  have hkind : ∀ y ∈ ps.zip us, scope.names.lookup y.1 = some .local ∨ (scope.names.lookup y.1 = some .cell ∧ ((cellsFrom (s.heap.objs.size + 1) scope.names []).lookup y.1).isSome = true) := fun ⟨n, v⟩ hy => by
    rcases S.par n (List.of_mem_zip hy).1 with q | q
    · exact .inl q
    · exact .inr ⟨q, PySem.W.cellsFrom_some _ _ _ (.inl q)⟩
  refine codeAny_call_function hr.depth (KX _ _ lk) rfl S.co S.gen rfl (PySem.W.codeRec_of KX hcd) (hb _ _ _ _ ?_)
  refine wpAny_newFunctionEnv_cells S.kind hkind fun env he s1 x => ?_
  subst he
  refine ⟨lim.keeps x.toInCall.keep, codeAny_func ?_⟩
  obtain ⟨t, ht, hq⟩ := hbody A outer s H vs Q E (hr.deeper _) hsp
  have I : Inv (cxOf CX P w K mg base N qual scope f cdv A outer s H E) [] (start N vs) H s1 := inv_start S hr.hd e0 hl r x
  refine wpAny_mono (ht [] s1 (start N vs) H _ I hq) (fun fl s' hs => ?_) fun e s' hs => hs
  have fin : ∀ {σ' : St} {H' : Hp} {v : V} {u : Value}, Inv (cxOf CX P w K mg base N qual scope f cdv A outer s H E) [] σ' H' s' → RelV v u → Q v H' → CE outer P w H s Q u s' :=
    fun {σ' H' v u} J rv q => ⟨v, H', J.os, J.bare, J.base, J.hok, rv, q⟩
  cases fl with
  | ret u =>
    obtain ⟨v, σ', H', J, rv, q⟩ := hs
    exact fin J rv q
  | next =>
    obtain ⟨σ', H', J, q⟩ := hs
    exact fin (v := V.non) (u := Value.none) J rfl q
  | brk =>
    obtain ⟨_, _, _, q⟩ := hs
    exact False.elim q
  | cont =>
    obtain ⟨_, _, _, q⟩ := hs
    exact False.elim q
end L2

namespace L2
open PySem PySem.Spec PyProof.Rows
section
variable {X : Cx} {x : Str} {p pos : Pos} {e : Expr} {es : List Expr} {t : TA} {id T : String} {r : List V → Hp → VK → Prop}

def tCB (r : List V → Hp → VK → Prop) (t : TA) : TE := fun σ H Q => t σ H fun vs H1 => r vs H1 Q
/-- f(e, ..), f a built-in function -/
theorem pe_callB (hc : CallR X (.builtin id) r) (hg : Gl X x) (hm : X.mg x = none) (hv : bootBuiltins x = some (.builtin id)) (ha : PA X (e :: es) t) (hn : x ≠ "__name__" := by decide) (hdb : (x == ("__debug__" : Str)) = false := by decide)
    (he : starEach (e :: es) X.env = (false, eval e X.env) :: starEach es X.env := by rfl) (hpl : (backTo pos (starEach es X.env)).any (·.1) = false := by rfl) : PE X (.Call (.Name x p) (e :: es) [] pos) (tCB r t) := by
  intro pins s σ H Q I h
  refine wpAny_Call_Name_kw (ld_blt I hg hm hv ?_ hn hdb)
  exact PyProof.Rows.callWith_builtin1 (thn (ha pos pins s σ H _ I h) fun us s1 ⟨vs, H1, I1, r1, q1⟩ => hc pins s1 σ H1 vs us Q I1 r1 q1) he hpl
/-- T(e, ..), T a built-in type -/
theorem pe_callTy (hc : CallR X (.type T) r) (hg : Gl X x) (hm : X.mg x = none) (hv : bootBuiltins x = some (.type T)) (ha : PA X (e :: es) t) (hn : x ≠ "__name__" := by decide) (hdb : (x == ("__debug__" : Str)) = false := by decide)
    (he : starEach (e :: es) X.env = (false, eval e X.env) :: starEach es X.env := by rfl) (hpl : (backTo pos (starEach es X.env)).any (·.1) = false := by rfl) : PE X (.Call (.Name x p) (e :: es) [] pos) (tCB r t) := by
  intro pins s σ H Q I h
  refine wpAny_Call_Name_kw (ld_blt I hg hm hv ?_ hn hdb)
  exact PyProof.Rows.callWith_type1 (thn (ha pos pins s σ H _ I h) fun us s1 ⟨vs, H1, I1, r1, q1⟩ => hc pins s1 σ H1 vs us Q I1 r1 q1) he hpl
end
end L2

namespace HT
open PySem PyProof.Rows

section
open PySem.SeqAt
open PySem.AutoSeq1 (wpAny_loadPart')
open PySem.MeetsSeq PySem.MeetsSeq2 PySem.MeetsSeq3

end

section
variable {prog : Program} {w : World} {A : Around} {E : Value → Shared → Prop} {s : Shared}

end
end HT

namespace L2
open PySem PySem.Spec PyProof.Rows

section
variable {X : Cx} {e : Expr} {te : TE} {lo hi : Option Expr} {tl th : TO} {pos p2 : Pos}

end
end L2

namespace L2
open PySem PySem.Spec PyProof.Rows

/-- the place that an index of any sign means -/
def ixN (n : Nat) (i : Int) : Option Nat := if 0 ≤ i then (if i < n then some i.toNat else none) else if -(n : Int) ≤ i then some (i + n).toNat else none
def atI {α : Type} (xs : List α) (i : Int) : Option α := (ixN xs.length i).bind fun j => xs[j]?
theorem ixN_seq {n : Nat} {i : Int} {j : Nat} (h : ixN n i = some j) : seqIndex? i n = some j ∧ j < n ∧ -(n : Int) ≤ i ∧ i < n := by
  unfold ixN at h
  by_cases h0 : 0 ≤ i
  · rw [if_pos h0] at h
    by_cases h1 : i < n
    · rw [if_pos h1] at h
      have e : i.toNat = j := Option.some.inj h
      exact ⟨by rw [seqIndex_of h0 h1, e], by omega, by omega, h1⟩
    · rw [if_neg h1] at h; cases h
  · rw [if_neg h0] at h
    by_cases h1 : -(n : Int) ≤ i
    · rw [if_pos h1] at h
      have e : (i + n).toNat = j := Option.some.inj h
      exact ⟨by rw [seqIndex_neg (by omega) h1, e], by omega, h1, by omega⟩
    · rw [if_neg h1] at h; cases h
theorem atI_get {α : Type} {xs : List α} {i : Int} {v : α} (h : atI xs i = some v) : ∃ j, seqIndex? i xs.length = some j ∧ xs[j]? = some v ∧ j < xs.length ∧ -(xs.length : Int) ≤ i ∧ i < xs.length := by
  unfold atI at h
  cases e : ixN xs.length i with
  | none => rw [e] at h; cases h
  | some j =>
    rw [e] at h
    obtain ⟨h1, h2, h3, h4⟩ := ixN_seq e
    exact ⟨j, h1, h, h2, h3, h4⟩
theorem atI_nat {α : Type} {xs : List α} {j : Nat} {v : α} (h : xs[j]? = some v) : atI xs (j : Int) = some v := by
  have hj : j < xs.length := (List.getElem?_eq_some_iff.mp h).1
  have e : ixN xs.length (j : Int) = some j := by
    unfold ixN
    rw [if_pos (by omega), if_pos (by omega)]; simp
  unfold atI; rw [e]; exact h
/-- what stands as an index of a plain subscript -/
def PlainIx (b : Expr) : Prop := ∀ o i, subscripted b false o i = operate [o, i] (getItem o i)
/-- a subscript by values -/
def IxR (X : Cx) (r : R2) : Prop :=
  ∀ (value slice : Expr) (pins : List (Addr × Obj)) (s : Shared) (σ : St) (H : Hp) (x y : V) (v u : Value) (Q : VK), Inv X pins σ H s → RelV x v → RelV y u → r x y H Q →
    subscripted slice false v u = operate [v, u] (getItem v u) → wpAny (model X.prog X.w) X.A (subscriptTail value slice v u) (EP X pins σ Q) X.xe s
/-- a call of a builtin's method by values: the receiver, the arguments -/
def MtR (X : Cx) (id : String) (r : V → List V → Hp → VK → Prop) : Prop :=
  ∀ (pins : List (Addr × Obj)) (s : Shared) (σ : St) (H : Hp) (x : V) (xs : List V) (v : Value) (us : List Value) (Q : VK), Inv X pins σ H s → RelV x v → Vals xs us → r x xs H Q →
    wpAny (model X.prog X.w) X.A (call (.builtin id) (v :: us)) (EP X pins σ Q) X.xe s
section
variable {X : Cx} {a b : Expr} {ta tb : TE} {pos : Pos}
/-- a[b] -/
theorem pe_ix {r : R2} (hr : IxR X r) (ha : PE X a ta) (hb : PE X b tb) (hs : PlainIx b) : PE X (.Subscript a b pos) (tOp r ta tb) := by
  intro pins s σ H Q I h
  exact Subscript_ (binT ha hb I h fun v u s2 x y H2 I2 rx ry q => hr a b pins s2 σ H2 x y v u Q I2 rx ry q (hs _ _))

def rIxL (K : PySem.W.Frag) : R2 := fun x y H Q => ∃ p xs i v, x = .ref p ∧ y = .int i ∧ SqL K H p xs ∧ atI xs i = some v ∧ Q v H
def rIxT (K : PySem.W.Frag) : R2 := fun x y H Q => ∃ p xs i v, x = .ref p ∧ y = .int i ∧ SqT K H p xs ∧ atI xs i = some v ∧ Q v H
theorem ix_list : IxR X (rIxL X.K) := by
  intro value slice pins s σ H x y v u Q I rx ry h hs
  obtain ⟨p, xs, i, z, rfl, rfl, hq, he, q⟩ := h
  cases rx
  obtain ⟨t, rfl⟩ := ry
  obtain ⟨its, r, pl, hz⟩ := I.list hq
  obtain ⟨j, h1, h2, h3, h4, h5⟩ := atI_get he
  obtain ⟨w, ew, rw'⟩ := r.get h2
  have hl := r.length
  have hn := line63
  have fin : EP X pins σ Q w s := ⟨z, H, I, rw', q⟩
  by_cases h0 : 0 ≤ i
  · have hj : i.toNat = j := by
      rw [seqIndex_of h0 h5] at h1
      exact Option.some.inj h1
    exact item_listR pl.isList h0 (by omega) (by rw [hj]; simpa using ew) fin hs
  · have hj : (i + (its.toArray.size : Int)).toNat = j := by
      rw [seqIndex_neg (by omega) h4] at h1
      rw [List.size_toArray, ← hl]
      exact Option.some.inj h1
    exact subscriptTail_builtinR (x := w) pl.isList.typeIs slot_list_getitem.lookup
      (wpAny_getItem_list_neg (Q := fun r s' => r = w ∧ EP X pins σ Q r s') pl.isList (by omega) (by rw [List.size_toArray] <;> omega) (by omega) (by rw [hj]; simpa using ew) ⟨rfl, fin⟩) hs
theorem ix_tup : IxR X (rIxT X.K) := by
  intro value slice pins s σ H x y v u Q I rx ry h hs
  obtain ⟨p, xs, i, z, rfl, rfl, hq, he, q⟩ := h
  cases rx
  obtain ⟨t, rfl⟩ := ry
  obtain ⟨its, r, pl, hz⟩ := I.tuple hq
  obtain ⟨j, h1, h2, h3, h4, h5⟩ := atI_get he
  obtain ⟨w, ew, rw'⟩ := r.get h2
  have hl := r.length
  have hn := line63
  have fin : EP X pins σ Q w s := ⟨z, H, I, rw', q⟩
  exact subscriptTail_builtinR (x := w) pl.typeIs slot_tuple_getitem.lookup
    (getItem_tuple (j := j) (Q := fun r s' => r = w ∧ EP X pins σ Q r s') pl (by omega) (by omega) (by rw [List.size_toArray, ← hl]; exact h1) (by simpa using ew) ⟨rfl, fin⟩) hs
def flatV : V → Bool
  | .non => true
  | .bl _ => true
  | .int _ => true
  | .str _ => true
  | _ => false
/-- == of flat values -/
def eqV : V → V → Bool
  | .non, .non => true
  | .bl a, .bl b => a == b
  | .bl a, .int b => (if a then 1 else 0) == b
  | .int a, .bl b => a == (if b then 1 else 0)
  | .int a, .int b => a == b
  | .str a, .str b => a == b
  | _, _ => false
theorem eqAt_V {A : Around} {s : Shared} {y x : V} {u v : Value} (ry : RelV y u) (rx : RelV x v) (fy : flatV y = true) (fx : flatV x = true) : SeqAt.EqAt A s u v (eqV y x) := by
  cases y with
  | non =>
    cases ry
    cases x with
    | non => cases rx; exact SeqAt.EqAt.same _
    | bl b => cases rx; exact SeqAt.EqAt.none_bool b
    | int b => obtain ⟨t, rfl⟩ := rx; exact SeqAt.EqAt.none_int b t
    | str b => obtain ⟨t, rfl⟩ := rx; exact SeqAt.EqAt.none_str b t
    | _ => exact absurd (show false = true from fx) Bool.false_ne_true
  | bl a =>
    cases ry
    cases x with
    | non => cases rx; exact SeqAt.EqAt.bool_none a
    | bl b => cases rx; exact SeqAt.EqAt.bool_bool a b
    | int b => obtain ⟨t, rfl⟩ := rx; exact SeqAt.EqAt.bool_int a b t
    | str b => obtain ⟨t, rfl⟩ := rx; exact SeqAt.EqAt.bool_str a b t
    | _ => exact absurd (show false = true from fx) Bool.false_ne_true
  | int a =>
    obtain ⟨t', rfl⟩ := ry
    cases x with
    | non => cases rx; exact SeqAt.EqAt.int_none a t'
    | bl b => cases rx; exact SeqAt.EqAt.int_bool a t' b
    | int b => obtain ⟨t, rfl⟩ := rx; exact SeqAt.EqAt.int_int a t' b t
    | str b => obtain ⟨t, rfl⟩ := rx; exact SeqAt.EqAt.int_str a t' b t
    | _ => exact absurd (show false = true from fx) Bool.false_ne_true
  | str a =>
    obtain ⟨t', rfl⟩ := ry
    cases x with
    | non => cases rx; exact SeqAt.EqAt.str_none a t'
    | bl b => cases rx; exact SeqAt.EqAt.str_bool a t' b
    | int b => obtain ⟨t, rfl⟩ := rx; exact SeqAt.EqAt.str_int a t' b t
    | str b => obtain ⟨t, rfl⟩ := rx; exact SeqAt.EqAt.str_str a t' b t
    | _ => exact absurd (show false = true from fx) Bool.false_ne_true
  | _ => exact absurd (show false = true from fy) Bool.false_ne_true
/-- the items' answers, read off the values (a value's own answer does not lean on its token) -/
def eqU (x : V) (u : Value) : Bool := match u with
  | .none => eqV .non x
  | .bool b => eqV (.bl b) x
  | .int i _ => eqV (.int i) x
  | .str z _ => eqV (.str z) x
  | _ => false
theorem eqU_of {x y : V} {u : Value} (r : RelV y u) (f : flatV y = true) : eqU x u = eqV y x := by
  cases y with
  | non => cases r; rfl
  | bl b => cases r; rfl
  | int i => obtain ⟨t, rfl⟩ := r; rfl
  | str z => obtain ⟨t, rfl⟩ := r; rfl
  | _ => exact absurd (show false = true from f) Bool.false_ne_true
theorem any_eqU {x : V} : ∀ {xs : List V} {us : List Value}, Vals xs us → xs.all flatV = true → us.any (eqU x) = xs.any fun y => eqV y x
  | _, _, .nil, _ => rfl
  | y :: xs, u :: us, .cons r t, f => by
    rw [List.all_cons, Bool.and_eq_true] at f
    rw [List.any_cons, List.any_cons, eqU_of r f.1, any_eqU t f.2]
theorem mem_eqAt {A : Around} {s : Shared} {x : V} {v : Value} (rx : RelV x v) (fx : flatV x = true) : ∀ {xs : List V} {us : List Value}, Vals xs us → xs.all flatV = true → ∀ u ∈ us, SeqAt.EqAt A s u v (eqU x u)
  | _, _, .nil, _ => fun u hu => by cases hu
  | y :: xs, u :: us, .cons r t, f => fun u' hu => by
    rw [List.all_cons, Bool.and_eq_true] at f
    rcases List.mem_cons.mp hu with rfl | hu
    · rw [eqU_of r f.1]; exact eqAt_V r rx f.1 fx
    · exact mem_eqAt rx fx t f.2 u' hu
def inV (x : V) (xs : List V) : Bool := xs.any fun y => eqV y x
/-- x in a list or tuple of flat items -/
def rIn (K : PySem.W.Frag) (neg : Bool) : R2 := fun x y H Q => ∃ p xs, y = .ref p ∧ (SqL K H p xs ∨ SqT K H p xs) ∧ flatV x = true ∧ xs.all flatV = true ∧ Q (.bl (if neg then !inV x xs else inV x xs)) H
theorem op_notIn_seq : OpR X (compareOp .NotIn) (rIn X.K true) := by
  intro pins s σ H x y v u Q I rx ry h
  obtain ⟨p, xs, rfl, hq, fx, fs, q⟩ := h
  cases ry
  rcases hq with hq | hq
  · obtain ⟨its, r, pl, hz⟩ := I.list hq
    refine SeqAt.notIn_listAt (eqU x) pl.isList (fun w hw => mem_eqAt rx fx r fs w (by simpa using hw)) ⟨.bl _, H, I, rfl, ?_⟩
    rw [show its.toArray.any (eqU x) = its.any (eqU x) by simp, any_eqU r fs]
    exact q
  · obtain ⟨its, r, pl, hz⟩ := I.tuple hq
    refine SeqAt.notIn_tupleAt (eqU x) pl (fun w hw => mem_eqAt rx fx r fs w (by simpa using hw)) ⟨.bl _, H, I, rfl, ?_⟩
    rw [show its.toArray.any (eqU x) = its.any (eqU x) by simp, any_eqU r fs]
    exact q
theorem call_len_seq : CallR X (.builtin "len") (fun xs H Q => ∃ p ys, xs = [.ref p] ∧ (SqL X.K H p ys ∨ SqT X.K H p ys) ∧ Q (.int ys.length) H) := by
  intro pins s σ H xs us Q I r h
  obtain ⟨p, ys, rfl, hq, q⟩ := h
  obtain ⟨u, rfl, rx⟩ := vals1 r
  cases rx
  have hn := line63
  rcases hq with hq | hq
  · obtain ⟨its, r', pl, hz⟩ := I.list hq
    have hlen := r'.length
    exact Calls.call_len_list pl.isList (by simp only [List.size_toArray] <;> omega) ⟨.int ys.length, H, I.tok _, ⟨s.toks + 1, by rw [List.size_toArray, hlen]⟩, q⟩
  · obtain ⟨its, r', pl, hz⟩ := I.tuple hq
    have hlen := r'.length
    exact len_tuple pl (by simp only [List.size_toArray] <;> omega) ⟨.int ys.length, H, I.tok _, ⟨s.toks + 1, by rw [List.size_toArray, hlen]⟩, q⟩
theorem call_list_of : CallR X (.type "list") (fun xs H Q => ∃ p ys, xs = [.ref p] ∧ (SqL X.K H p ys ∨ SqT X.K H p ys) ∧ ∀ l, H l = none → Q (.ref l) (upd H l (.lst ys))) := by
  intro pins s σ H xs us Q I r h
  obtain ⟨p, ys, rfl, hq, q⟩ := h
  obtain ⟨u, rfl, rx⟩ := vals1 r
  cases rx
  have fin : ∀ (its : List Value), Vals ys its → ys.length ≤ sizeLine → ∀ (h' : Heap) (c' : Nat), (∀ b o', s.heap.get? b = some o' → h'.get? b = some o') →
      h'.get? s.heap.objs.size = some { cls := .type "list", dict := none, data := .seq its.toArray c', slots := #[] } → EP X pins σ Q (.ref s.heap.objs.size) { s with heap := h' } := fun its r' hz h' c' kp e =>
    ⟨.ref s.heap.objs.size, _, I.laid (t' := s.toks) kp (Nat.le_refl _) (show ObjOk X.prog X.w _ h' _ (.lst ys) from ⟨hz, its, c', r', e⟩), rfl, q _ (I.hok.fresh (Nat.le_refl _))⟩
  rcases hq with hq | hq
  · obtain ⟨its, r', pl, hz⟩ := I.list hq
    have hlen := r'.length
    obtain ⟨o, ho, hc, n, hd⟩ := pl.isList
    exact call_list_seq p (.inl rfl) ho hc hd (fun h' c' kp e => fin its r' hz h' c' kp e) (by simp only [List.size_toArray] <;> omega)
  · obtain ⟨its, r', pl, hz⟩ := I.tuple hq
    have hlen := r'.length
    obtain ⟨o, ho, hc, n, hd⟩ := pl
    exact call_list_seq p (.inr rfl) ho hc hd (fun h' c' kp e => fin its r' hz h' c' kp e) (by simp only [List.size_toArray] <;> omega)
/-- the value is of that builtin type -/
def tyV (K : PySem.W.Frag) (T : String) (x : V) (H : Hp) : Prop := match x with
  | .str _ => T = "str"
  | .int _ => T = "int"
  | .ref p => (T = "list" ∧ ∃ xs, SqL K H p xs) ∨ (T = "tuple" ∧ ∃ o, K.lookup p = some o ∧ o.cls = .type "tuple" ∧ o.dict = none) ∨
      (T = "dict" ∧ ((∃ kvs, H p = some (.dK kvs)) ∨ ∃ kvs, H p = some (.dT kvs))) ∨ (T = "set" ∧ ∃ S n, H p = some (.set S n))
  | _ => False
theorem tyV_is {pins : List (Addr × Obj)} {σ : St} {H : Hp} {s : Shared} {T : String} {x : V} {v : Value} (I : Inv X pins σ H s) (r : RelV x v) (ty : tyV X.K T x H) :
    s.TypeIs v T ∧ ∀ a, v = .ref a → ∃ ob, s.heap.get? a = some ob ∧ ob.dict = none := by
  cases x with
  | str z =>
    obtain ⟨t, rfl⟩ := r
    cases (show T = "str" from ty)
    exact ⟨typeIs_str s z t, fun _ e => nomatch e⟩
  | int i =>
    obtain ⟨t, rfl⟩ := r
    cases (show T = "int" from ty)
    exact ⟨typeIs_int s i t, fun _ e => nomatch e⟩
  | ref p =>
    cases r
    rcases ty with ⟨rfl, xs, hq⟩ | ⟨rfl, o, hk, hc, hd⟩ | ⟨rfl, hk⟩ | ⟨rfl, S, n, hk⟩
    · obtain ⟨its, _, pl, _⟩ := I.list hq
      refine ⟨pl.isList.typeIs, fun a e => ?_⟩
      cases e
      obtain ⟨o, n, e, c, hd, _⟩ := pl
      exact ⟨o, e, hd⟩
    · refine ⟨⟨o, I.kIn p o hk, hc⟩, fun a e => ?_⟩
      cases e
      exact ⟨o, I.kIn _ o hk, hd⟩
    · have z : ∃ o, s.heap.get? p = some o ∧ o.ExactDict := by
        rcases hk with ⟨kvs, hk⟩ | ⟨kvs, hk⟩
        · obtain ⟨_, _, _, _, o, _, _, e, ex, _⟩ := I.hok p _ hk
          exact ⟨o, e, ex⟩
        · obtain ⟨_, _, _, _, o, _, _, e, ex, _⟩ := I.hok p _ hk
          exact ⟨o, e, ex⟩
      obtain ⟨o, e, ex⟩ := z
      refine ⟨⟨o, e, ex.1⟩, fun a e2 => ?_⟩
      cases e2
      exact ⟨o, e, ex.2.1⟩
    · obtain ⟨o, _, _, _, e, ex, _⟩ := I.hok p _ hk
      refine ⟨⟨o, e, ex.1⟩, fun a e2 => ?_⟩
      cases e2
      exact ⟨o, e, ex.2.1⟩
  | _ => exact False.elim ty
def tBM (K : PySem.W.Frag) (T : String) (r : V → List V → Hp → VK → Prop) (to : TE) (t : TA) : TE := fun σ H Q => to σ H fun x H1 => tyV K T x H1 ∧ t σ H1 fun xs H2 => r x xs H2 Q
variable {o e : Expr} {es : List Expr} {to : TE} {t : TA} {name : Str} {apos cpos : Pos} {T id : String} {r : V → List V → Hp → VK → Prop}
theorem pe_bm (pa : PlainAttrs T) (slot : Slot T name id) (hty : typeOf (.builtin id) = pure (.type "method_descriptor")) (hm : MtR X id r) (ho : PE X o to) (ha : PA X (e :: es) t)
    (hbase : attributeBase o name X.env (eval o X.env) = eval o X.env := by rfl)
    (hfew : ((backTo cpos (starEach (e :: es) X.env)).all (fun x => !x.1) && (backToKw cpos (keywordEach [] X.env)).all (fun x => x.1.isSome)
      && decide ((e :: es).length + ([] : List Keyword).length + (if ([] : List Keyword).isEmpty then 0 else 1) < 30)) = true := by rfl)
    (hline : (apos.endLine == cpos.line) = true := by rfl) (hs : starEach (e :: es) X.env = (false, eval e X.env) :: starEach es X.env := by rfl) (hplain : (backTo cpos (starEach es X.env)).any (·.1) = false := by rfl) :
    PE X (.Call (.Attribute o name apos) (e :: es) [] cpos) (tBM X.K T r to t) := by
  intro pins s σ H Q I h
  refine wpAny_Call_method_late hbase hfew hline rfl (thn (ho pins s σ H _ I h) fun v s1 ⟨x, H1, I1, r1, ty, q1⟩ => ?_)
  obtain ⟨h1, h2⟩ := tyV_is I1 r1 ty
  refine ⟨T, id, pa, slot, hty, h1, h2, ?_⟩
  have hA := ha cpos pins s1 σ H1 _ I1 q1
  rw [hs] at hA ⊢
  refine Calls.callWith_builtin (by show (false || (backTo cpos (starEach es X.env)).any (·.1)) = false; rw [hplain] <;> rfl) (Calls.evalArgs_plain ?_)
  exact thn hA fun us s2 ⟨vs, H2, I2, r2, q2⟩ => hm pins s2 σ H2 x vs v us Q I2 r1 r2 q2
/- xs.append(e), list.index on a module's tuple .. are MtR facts of 06m -/
end
end L2

namespace L2
open PySem PySem.Spec PyProof.Rows

def MtM (X : Cx) (id : String) (r : V → List V → Hp → VK → Prop) : Prop :=
  ∀ (pins : List (Addr × Obj)) (s : Shared) (σ : St) (H : Hp) (x : V) (xs : List V) (v : Value) (us : List Value) (Q : VK), Inv X pins σ H s → RelV x v → Vals xs us → r x xs H Q →
    wpAny (model X.prog X.w) X.A (call (.builtin id) (v :: us)) (EP X pins σ Q) X.xe s

theorem Vals.two : ∀ {x y : V} {us : List Value}, Vals [x, y] us → ∃ u v, us = [u, v] ∧ RelV x u ∧ RelV y v
  | _, _, _, .cons r (.cons q .nil) => ⟨_, _, rfl, r, q⟩
section
variable {X : Cx} {pins : List (Addr × Obj)} {σ : St} {H : Hp} {s : Shared} {l b : Addr} {xs ys zs : List V}

theorem Inv.lset {its its' : List Value} {n : Nat} {f : Array Value → Array Value} {t' : Nat} (I : Inv X pins σ H s) (hH : H l = some (.lst xs))
    (e : s.heap.get? l = some { cls := .type "list", data := .seq its.toArray n }) (hf : f its.toArray = its'.toArray) (hv : Vals ys its') (hz : ys.length ≤ sizeLine) :
    Inv X pins σ (upd H l (.lst ys)) { s with heap := s.heap.update l (Obj.mapSeq f), toks := t' } := by
  have q := PySem.IsL.update e f
  rw [hf] at q
  refine I.write (x := l) (e := l) (by rw [hH]; exact trivial) (.inl rfl) (fun b' u hb hu => (Heap.get?_update_other s.heap (Obj.mapSeq f) (Ne.symm hb)).trans hu) ⟨_, q⟩ ?_
  exact ⟨hz, its', _, hv, q⟩
theorem Inv.lnew {its : List Value} {t' : Nat} (I : Inv X pins σ H s) (hv : Vals ys its) (hz : ys.length ≤ sizeLine) :
    Inv X pins σ (upd H s.heap.objs.size (.lst ys)) { s with heap := s.heap.push { cls := .type "list", data := .seq its.toArray }, toks := t' } :=
  I.laid (fun _ _ q => Heap.get?_push_of_some _ q) (Nat.le_refl _) ⟨hz, its, 0, hv, Heap.get?_push_size _ rfl⟩
theorem Inv.fresh (I : Inv X pins σ H s) : H s.heap.objs.size = none := I.hok.fresh (Nat.le_refl _)
theorem Inv.lstM (I : Inv X pins σ H s) (hH : H l = some (.lst xs)) : xs.length ≤ sizeLine ∧ ∃ (its : List Value) (n : Nat), Vals xs its ∧ xs.length = its.length ∧ s.heap.get? l = some { cls := .type "list", data := .seq its.toArray n } := by
  obtain ⟨z, its, n, r, e⟩ := I.hok l _ hH
  exact ⟨z, its, n, r, r.length, e⟩

end

section
variable {X : Cx}

def rCat : R2 := fun x y H Q => ∃ l b xs zs, x = .ref l ∧ y = .ref b ∧ H l = some (.lst xs) ∧ H b = some (.lst zs) ∧ xs.length + zs.length ≤ sizeLine ∧ ∀ p, H p = none → Q (.ref p) (upd H p (.lst (xs ++ zs)))
theorem op_cat : OpR X (binaryOp .Add) rCat := by
  intro pins s σ H x y v u Q I rx ry h
  obtain ⟨l, b, xs, zs, rfl, rfl, hH, hB, hz, q⟩ := h
  cases rx
  cases ry
  obtain ⟨z, its, n, r, hl, e⟩ := I.lstM hH
  obtain ⟨z2, its2, n2, r2, hl2, e2⟩ := I.lstM hB
  refine PySem.P.add_list e e2 ?_ (by rw [List.size_toArray, List.size_toArray]; omega)
  have ea : its.toArray ++ its2.toArray = (its ++ its2).toArray := by simp
  rw [ea]
  exact ⟨.ref _, _, I.lnew (t' := s.toks) (r.append r2) (by rw [List.length_append]; omega), rfl, q _ I.fresh⟩
end

section
variable {prog : Program} {w : World} {A : Around} {E : Value → Shared → Prop} {s : Shared}
end

section
variable {X : Cx}
end
end L2

namespace L2
open PySem PySem.Spec PyProof.Rows

theorem Vals.ints : ∀ {ns : List Int} {us : List Value}, Vals (ns.map V.int) us → IntsAre us ns
  | [], us, h => by
    rw [List.map_nil] at h
    cases h
    exact IntsAre.nil
  | n :: ns, us, h => by
    rw [List.map_cons] at h
    cases h with
    | cons r t =>
      obtain ⟨k, rfl⟩ := r
      exact IntsAre.cons n k (Vals.ints t)
theorem Vals.bls : ∀ {bs : List Bool} {us : List Value}, Vals (bs.map V.bl) us → us = bs.map Value.bool
  | [], us, h => by
    rw [List.map_nil] at h
    cases h
    rfl
  | b :: bs, us, h => by
    rw [List.map_cons] at h
    cases h with
    | cons r t =>
      cases r
      rw [Vals.bls t, List.map_cons]
theorem Vals.ref1 {a : Addr} {us : List Value} (r : Vals [V.ref a] us) : us = [Value.ref a] := by
  cases r with
  | cons r t =>
    cases t
    cases r
    rfl
section
variable {prog : Program} {w : World} {A : Around} {E : Value → Shared → Prop} {s : Shared} {l : Addr} {its : List Value} {ns : List Int} {Q : Value → Shared → Prop}
theorem sum_raw (hh : A.handled = none) (hl : s.heap.IsList l its.toArray) (hi : IntsAre its ns)
    (h : ∀ h' tk t', (∀ b o, s.heap.get? b = some o → h'.get? b = some o) → Q (.int ns.sum t') { s with heap := h', toks := tk }) : wpAny (model prog w) A (call (.builtin "sum") [.ref l]) Q E s := by
  obtain ⟨xs, e⟩ := hi.allInts.items
  have hn : numsOf (intItems xs).toList = ns := by rw [← e]; exact hi.numsOf
  rw [nums_intItems] at hn
  rw [e] at hl
  refine PySem.sum_intListG hh hl fun h' tk t' hk => ?_
  have := h h' tk t' hk
  rw [preSum_eq, List.take_of_length_le (by simp), hn]; exact this
end

section
variable {X : Cx}
/-- sum(xs) of a list of natInts -/
def rSum (K : PySem.W.Frag) : List V → Hp → VK → Prop := fun vs H Q => ∃ (a : Addr) (ns : List Int), vs = [V.ref a] ∧ SqL K H a (ns.map V.int) ∧ Q (.int ns.sum) H
theorem cr_sum (hc : X.calm = true) : CallR X (.builtin "sum") (rSum X.K) := by
  intro pins s σ H vs us Q I r h
  obtain ⟨a, ns, rfl, hs, q⟩ := h
  obtain ⟨its, rv, hl, _⟩ := I.list hs
  rw [Vals.ref1 r]
  exact sum_raw (I.ok.hd hc) hl.isList rv.ints fun h' tk t' hk => ⟨.int _, H, I.kept hk, ⟨_, rfl⟩, q⟩
end

section
variable {X : Cx}
end

section
variable {X : Cx}
end

theorem iter_any {prog : Program} {w : World} {A : Around} {E : Value → Shared → Prop} {s : Shared} {l : Addr} {items : Array Value} {Q : Value → Shared → Prop} (hl : s.heap.IsList l items)
    (h : ∀ s₂ : Shared, s₂ = { s with heap := s.heap.push { cls := .type "list_iterator", data := .fields #[.ref l, .int 0 0] } } →
      (s₂.heap.IsListIter s.heap.objs.size l 0 ∧ s₂.heap.IsList l items) → l ≠ s.heap.objs.size → Q (.ref s.heap.objs.size) s₂) : wpAny (model prog w) A (pyIter (.ref l)) Q E s := by
  have hlt : l < s.heap.objs.size := by obtain ⟨_, e, _⟩ := hl; exact Heap.lt_size e
  exact wpAny_pyIter_list hl (h _ rfl ⟨⟨_, Heap.get?_push_size _ rfl, rfl, rfl⟩, hl.push _⟩ (Nat.ne_of_lt hlt))
theorem truth_bools {prog : Program} {w : World} {A : Around} {bs : List Bool} {its : List Value} (e : its = bs.map Value.bool) :
    TruthOf prog w A (fun i v => its.toArray[i]? = some v) (fun i => bs.getD i false) := fun i v s Q E hv hq => by
  have hv' : its[i]? = some v := by simpa using hv
  rw [e, List.getElem?_map] at hv'
  obtain ⟨b, hb, rfl⟩ := Option.map_eq_some_iff.mp hv'
  have hg : bs.getD i false = b := by rw [List.getD_eq_getElem?_getD, hb] <;> rfl
  have hq' : Q (bs.getD i false) s := hq
  rw [hg] at hq'
  exact wpAny_truthy_bool hq'
theorem all_range : ∀ bs : List Bool, (List.range bs.length).all (fun i => bs.getD i false) = bs.all id
  | [] => rfl
  | b :: bs => by
    rw [List.length_cons, List.range_succ_eq_map, List.all_cons, List.all_map, List.all_cons, ← all_range bs]
    all_goals rfl
section
variable {X : Cx}
def rAll (K : PySem.W.Frag) : List V → Hp → VK → Prop := fun vs H Q => ∃ (a : Addr) (bs : List Bool), vs = [V.ref a] ∧ SqL K H a (bs.map V.bl) ∧ Q (.bl (bs.all id)) H
theorem cr_all (hc : X.calm = true) : CallR X (.builtin "all") (rAll X.K) := by
  intro pins s σ H vs us Q I r h
  obtain ⟨a, bs, rfl, hs, q⟩ := h
  obtain ⟨its, rv, hl, _⟩ := I.list hs
  rw [Vals.ref1 r]
  have hb := rv.bls
  refine call_all_walk (iter_any hl.isList fun s₂ e2 st hne => ?_)
  subst e2
  refine ⟨_, _, _, _, _, _, _, rfl, Walks.list (A := X.A.in1) (I.ok.hd hc) _ a hne its.toArray, st, truth_bools hb, fun h' tk hk => ?_⟩
  refine ⟨.bl _, H, I.kept fun b o eo => hk b o (fun hmem => ?_) (Heap.get?_push_of_some _ eo), ?_, q⟩
  · rcases List.mem_cons.mp hmem with e1 | hmem
    · exact absurd (e1 ▸ Heap.lt_size eo) (Nat.lt_irrefl _)
    · cases hmem
  · show Value.bool _ = Value.bool _
    rw [← all_range, hb, List.size_toArray, List.length_map]
end

section
variable {X : Cx} {pins : List (Addr × Obj)} {σ : St} {H : Hp} {s : Shared}
end
section
variable {X : Cx}
end
end L2

namespace L2
open PySem PySem.Spec PyProof.Rows
abbrev CellAt (h : Heap) (c : Addr) (v : Option Value) : Prop := h.IsCell c v
def relS (scope sc : Scope) : Scope :=
  { scope with names := scope.names.map fun (n, k) => if (k == .free && sc.kind == .function && sc.names.lookup n == some .cell) then (n, .cell) else (n, k) }

def cloFrom (cells : List (Str × Addr)) : List (Str × NameKind) → List (Str × Addr) → List (Str × Addr)
  | [], acc => acc
  | (n, k) :: r, acc => if k == .free then cloFrom cells r ((n, (cells.lookup n).getD 0) :: acc) else cloFrom cells r acc

theorem closure_loop (env : Env) (f : Str × NameKind → List (Str × Addr) → Sem (ForInStep (List (Str × Addr))))
    (hf : ∀ n k c, f (n, k) c = if k == .free then (do let a ← cellOf env n; pure (.yield ((n, a) :: c))) else pure (.yield c)) :
    ∀ (names : List (Str × NameKind)) (acc : List (Str × Addr)), (∀ y ∈ names, y.2 = .free → ∃ c, env.cells.lookup y.1 = some c) → forIn names acc f = pure (cloFrom env.cells names acc)
  | [], acc, _ => by rw [List.forIn_nil]; rfl
  | (n, k) :: r, acc, h => by
    rw [List.forIn_cons, hf]
    have ih := fun acc => closure_loop env f hf r acc fun y hy => h y (List.mem_cons_of_mem _ hy)
    unfold cloFrom
    by_cases hk : (k == NameKind.free) = true
    · rw [if_pos hk, if_pos hk]
      obtain ⟨c, hc⟩ := h (n, k) List.mem_cons_self (by simpa using hk)
      have e : cellOf env n = pure c := by unfold cellOf; rw [hc]
      rw [e]
      have e2 : (env.cells.lookup n).getD 0 = c := by rw [hc]; rfl
      rw [e2]
      exact ih _
    · rw [if_neg hk, if_neg hk]
      exact ih _
theorem closure_ok {scope : Scope} {env : Env} (h : ∀ y ∈ scope.names, y.2 = .free → ∃ c, env.cells.lookup y.1 = some c) : closureFor scope env = pure (cloFrom env.cells scope.names []) := by
  simp only [closureFor]
  rw [closure_loop env _ (fun n k c => rfl) scope.names [] h]
  rfl

theorem mem_lookup {α : Type} : ∀ {l : List (Str × α)} {n : Str} {c : α}, (n, c) ∈ l → ∃ c', l.lookup n = some c'
  | (k, v) :: r, n, c, h => by
    rw [List.lookup_cons]
    cases hb : n == k with
    | true => exact ⟨_, rfl⟩
    | false =>
      rcases List.mem_cons.mp h with e | h
      · cases e; simp at hb
      · exact mem_lookup h

theorem cloFrom_mem {cells : List (Str × Addr)} : ∀ {names : List (Str × NameKind)} {acc : List (Str × Addr)} {n : Str} {c : Addr}, (n, c) ∈ cloFrom cells names acc → (n, c) ∈ acc ∨ ((n, .free) ∈ names ∧ c = (cells.lookup n).getD 0)
  | [], _, _, _, h => .inl h
  | (m, k) :: r, acc, n, c, h => by
    unfold cloFrom at h
    split at h
    · rename_i hk
      have hk : k = .free := by simpa using hk
      rcases cloFrom_mem h with h | ⟨h1, h2⟩
      · rcases List.mem_cons.mp h with e | h
        · cases e; exact .inr ⟨hk ▸ List.mem_cons_self, rfl⟩
        · exact .inl h
      · exact .inr ⟨List.mem_cons_of_mem _ h1, h2⟩
    · rcases cloFrom_mem h with h | ⟨h1, h2⟩
      · exact .inl h
      · exact .inr ⟨List.mem_cons_of_mem _ h1, h2⟩
theorem cloFrom_acc {cells : List (Str × Addr)} : ∀ {names : List (Str × NameKind)} {acc : List (Str × Addr)} {p : Str × Addr}, p ∈ acc → p ∈ cloFrom cells names acc
  | [], _, _, h => h
  | (m, k) :: r, acc, p, h => by
    unfold cloFrom
    split
    · exact cloFrom_acc (List.mem_cons_of_mem _ h)
    · exact cloFrom_acc h
theorem cloFrom_has {cells : List (Str × Addr)} : ∀ {names : List (Str × NameKind)} {acc : List (Str × Addr)} {n : Str}, (n, .free) ∈ names → (n, (cells.lookup n).getD 0) ∈ cloFrom cells names acc
  | (m, k) :: r, acc, n, h => by
    unfold cloFrom
    rcases List.mem_cons.mp h with e | h
    · cases e
      exact cloFrom_acc List.mem_cons_self
    · split
      · exact cloFrom_has h
      · exact cloFrom_has h

theorem cells_mem : ∀ {names : List (Str × NameKind)} {h : Heap} {acc : List (Str × Addr)} {x : Str} {c : Addr}, (x, c) ∈ cellsFrom h.objs.size names acc →
    (x, c) ∈ acc ∨ ((x, .cell) ∈ names ∧ h.objs.size ≤ c ∧ CellAt (pushCells h names) c none)
  | [], _, _, _, _, h => .inl h
  | (n, k) :: r, h, acc, x, c, hm => by
    unfold cellsFrom at hm
    unfold pushCells
    split at hm
    · rename_i hk
      rw [if_pos hk]
      have hk : k = .cell := by simpa using hk
      rw [← Heap.size_push h { cls := .type "cell", data := .cell none }] at hm
      rcases cells_mem hm with hm | ⟨h1, h2, h3⟩
      · rcases List.mem_cons.mp hm with e | hm
        · cases e
          exact .inr ⟨hk ▸ List.mem_cons_self, Nat.le_refl _, _, pushCells_keeps r _ _ _ (Heap.get?_push_size _ rfl), rfl⟩
        · exact .inl hm
      · rw [Heap.size_push] at h2
        exact .inr ⟨List.mem_cons_of_mem _ h1, Nat.le_of_succ_le h2, h3⟩
    · rename_i hk
      rw [if_neg hk]
      rcases cells_mem hm with hm | ⟨h1, h2, h3⟩
      · exact .inl hm
      · exact .inr ⟨List.mem_cons_of_mem _ h1, h2, h3⟩
theorem cells_acc : ∀ {names : List (Str × NameKind)} {n : Nat} {acc : List (Str × Addr)} {p : Str × Addr}, p ∈ acc → p ∈ cellsFrom n names acc
  | [], _, _, _, h => h
  | (m, k) :: r, n, acc, p, h => by
    unfold cellsFrom
    split
    · exact cells_acc (List.mem_cons_of_mem _ h)
    · exact cells_acc h
theorem cells_has : ∀ {names : List (Str × NameKind)} {n : Nat} {acc : List (Str × Addr)} {x : Str}, (x, .cell) ∈ names → ∃ c, (x, c) ∈ cellsFrom n names acc
  | (m, k) :: r, n, acc, x, h => by
    unfold cellsFrom
    rcases List.mem_cons.mp h with e | h
    · cases e
      exact ⟨n, cells_acc List.mem_cons_self⟩
    · split
      · exact cells_has h
      · exact cells_has h
theorem cells_inj : ∀ {names : List (Str × NameKind)} {h : Heap} {acc : List (Str × Addr)} {x y : Str} {c : Addr}, (∀ p ∈ acc, p.2 < h.objs.size) → (∀ x y c, (x, c) ∈ acc → (y, c) ∈ acc → x = y) →
    (x, c) ∈ cellsFrom h.objs.size names acc → (y, c) ∈ cellsFrom h.objs.size names acc → x = y
  | [], _, _, _, _, _, _, hi, h1, h2 => hi _ _ _ h1 h2
  | (n, k) :: r, h, acc, x, y, c, hl, hi, h1, h2 => by
    unfold cellsFrom at h1 h2
    split at h1
    · rename_i hk
      rw [if_pos hk] at h2
      rw [← Heap.size_push h { cls := .type "cell", data := .cell none }] at h1 h2
      refine cells_inj (h := h.push _) (fun p hp => ?_) (fun x y c a b => ?_) h1 h2
      · rw [Heap.size_push]
        rcases List.mem_cons.mp hp with rfl | hp
        · exact Nat.lt_succ_self _
        · exact Nat.lt_succ_of_lt (hl p hp)
      · rcases List.mem_cons.mp a with e | a <;> rcases List.mem_cons.mp b with e' | b
        · cases e; cases e'; rfl
        · cases e; exact absurd (hl _ b) (Nat.lt_irrefl _)
        · cases e'; exact absurd (hl _ a) (Nat.lt_irrefl _)
        · exact hi _ _ _ a b
    · rename_i hk
      rw [if_neg hk] at h2
      exact cells_inj hl hi h1 h2

theorem newEnv_comp {M : Model} {A : Around} {E : Value → Shared → Prop} {s : Shared} {scope : Scope} {globals : Addr} {closure : List (Str × Addr)} {qual : Str} {func : Option Addr} {code : Value} {around : Env} {builtins : Addr} {Q : Env → Shared → Prop}
    (h : Q (newEnv scope s.heap.objs.size globals (cellsFrom (s.heap.objs.size + 1) scope.names closure) qual func code (some around) builtins)
      { s with heap := pushCells (s.heap.push { cls := .type "dict", data := .dict #[] }) scope.names }) :
    wpAny M A (newFunctionEnv scope globals closure [] qual func code (some around) builtins) Q E s := by
  simp only [newFunctionEnv, Option.isSome_some, if_true]
  refine wpAny_bind (wpAny_alloc ?_)
  refine wpAny_bind (wpAny_layCells _ (fun n k c => rfl) scope.names closure _ _ ?_)
  rw [show ({ s with heap := s.heap.push { cls := .type "dict", data := .dict #[] } } : Shared).heap.objs.size = s.heap.objs.size + 1 from Heap.size_push ..]
  rw [List.forIn_nil]
  exact wpAny_bind (wpAny_pure (wpAny_pure h))

/-- every name of the written scope, in the scope that runs -/
theorem lookup_relS {sc : Scope} : ∀ {names : List (Str × NameKind)} {x : Str} {k : NameKind},
    (names.map fun (n, k) => if (k == NameKind.free && sc.kind == .function && sc.names.lookup n == some .cell) then (n, NameKind.cell) else (n, k)).lookup x = some k →
    ∃ k', names.lookup x = some k' ∧ (k = k' ∨ (k' = .free ∧ k = .cell))
  | [], _, _, h => by simp at h
  | (n, k₀) :: r, x, k, h => by
    have ih := @lookup_relS sc r x k
    have h' : List.lookup x ((if (k₀ == NameKind.free && sc.kind == .function && sc.names.lookup n == some .cell) = true then (n, NameKind.cell) else (n, k₀)) :: (r.map _)) = some k := h
    cases hx : x == n with
    | true =>
      simp only [List.lookup_cons, hx]
      by_cases hc : (k₀ == NameKind.free && sc.kind == .function && sc.names.lookup n == some .cell) = true
      · rw [if_pos hc] at h'
        simp only [List.lookup_cons, hx] at h'
        cases h'
        simp only [Bool.and_eq_true, beq_iff_eq] at hc
        exact ⟨k₀, rfl, .inr ⟨hc.1.1, rfl⟩⟩
      · rw [if_neg hc] at h'
        simp only [List.lookup_cons, hx] at h'
        cases h'
        exact ⟨_, rfl, .inl rfl⟩
    | false =>
      simp only [List.lookup_cons, hx]
      by_cases hc : (k₀ == NameKind.free && sc.kind == .function && sc.names.lookup n == some .cell) = true
      · rw [if_pos hc] at h'
        simp only [List.lookup_cons, hx] at h'
        exact ih h'
      · rw [if_neg hc] at h'
        simp only [List.lookup_cons, hx] at h'
        exact ih h'
/-- the names of a comprehension's block: its own (with their places in N), or captured -/
structure BlkOk (N : List Str) (sc scope : Scope) (own : List (Str × Nat)) : Prop where
  kind : scope.kind = .function
  uniq : ∀ y ∈ scope.names, scope.names.lookup y.1 = some y.2
  ix : ∀ p ∈ own, N[p.2]? = some p.1
  free : ∀ y ∈ scope.names, y.2 = .free → sc.names.lookup y.1 = some .cell ∨ sc.names.lookup y.1 = some .free
  own : ∀ y ∈ scope.names, y.2 = .local ∨ y.2 = .cell → y.1 ∈ own.map (·.1) ∨ y.1 ∉ N
/-- the slots of the block's own names forgotten -/
def wipe (σ : St) : List Nat → St
  | [] => σ
  | v :: vs => (wipe σ vs).set v none
theorem wipe_length (σ : St) : ∀ vs : List Nat, (wipe σ vs).length = σ.length
  | [] => rfl
  | v :: vs => by unfold wipe; rw [List.length_set, wipe_length σ vs]
theorem wipe_some {σ : St} {i : Nat} {x : V} : ∀ {vs : List Nat}, (wipe σ vs)[i]? = some (some x) → σ[i]? = some (some x) ∧ i ∉ vs
  | [], h => ⟨h, by simp⟩
  | v :: vs, h => by
    unfold wipe at h
    by_cases hi : v = i
    · subst hi
      by_cases hv : v < (wipe σ vs).length
      · rw [List.getElem?_set_self hv] at h; cases h
      · rw [List.getElem?_eq_none (by simpa using hv)] at h; cases h
    · rw [List.getElem?_set_ne hi] at h
      obtain ⟨h1, h2⟩ := wipe_some h
      exact ⟨h1, by simp only [List.mem_cons, not_or]; exact ⟨fun e => hi e.symm, h2⟩⟩

/-- the context of a block that starts at s, its iterator's objects at fp -/
abbrev Cx.blk (X : Cx) (s : Shared) (H : Hp) (scope : Scope) (cenv : Env) (fp : List Addr) : Cx := { X with s_0 := s, H_0 := H, env := cenv, outer := X.stack, ex := fp, fn := fun x => scope.names.lookup x == some .cell, pn := [], xe := fun _ _ => False }
section
variable {X : Cx} {pins : List (Addr × Obj)} {σ : St} {H : Hp} {s : Shared}
theorem block_start {scope : Scope} {own : List (Str × Nat)} {fp : List Addr} (I : Inv X pins σ H s) (ok : BlkOk X.N X.env.scope scope own) (hN : X.N.Nodup) (hfp : ∀ b ∈ fp, FpOk X pins H b ∧ b < s.heap.objs.size) :
    Inv (X.blk s H scope (compEnvC scope (cellsFrom (s.heap.objs.size + 1) scope.names (cloFrom X.env.cells scope.names [])) s.heap.objs.size X.env) fp) [] (wipe σ (own.map (·.2))) H { s with heap := pushCells (s.heap.push { cls := .type "dict", data := .dict #[] }) scope.names } := by
  have hfree : ∀ y ∈ scope.names, y.2 = .free → ∃ c, X.env.cells.lookup y.1 = some c := fun y hy e => by
    rcases ok.free y hy e with k | k
    · exact I.ok.has _ (.inl k)
    · exact I.ok.has _ (.inr k)
  generalize hcenv : compEnvC scope (cellsFrom (s.heap.objs.size + 1) scope.names (cloFrom X.env.cells scope.names [])) s.heap.objs.size X.env = cenv
  have kp : ∀ b o, s.heap.get? b = some o → (pushCells (s.heap.push { cls := .type "dict", data := .dict #[] }) scope.names).get? b = some o := fun b o e => pushCells_keeps _ _ _ _ (Heap.get?_push_of_some _ e)
  have hL : cenv.locals = s.heap.objs.size := by rw [← hcenv]; rfl
  have hcl : cenv.cells = cellsFrom (s.heap.objs.size + 1) scope.names (cloFrom X.env.cells scope.names []) := by rw [← hcenv]; rfl
  have hsc : cenv.scope = relS scope X.env.scope := by rw [← hcenv]; rfl
  rw [← Heap.size_push s.heap { cls := .type "dict", data := .dict #[] }] at hcl
  have cm : ∀ {y c}, (y, c) ∈ cloFrom X.env.cells scope.names [] → X.env.cells.lookup y = some c ∧ c < s.heap.objs.size := fun {y c} hm => by
    rcases cloFrom_mem hm with hm | ⟨h1, rfl⟩
    · cases hm
    · obtain ⟨c, hc⟩ := hfree _ h1 rfl
      rw [hc]
      obtain ⟨w, z⟩ := I.cell _ _ hc
      exact ⟨rfl, z.lt⟩
  have mem : ∀ {y c}, cenv.cells.lookup y = some c → (X.env.cells.lookup y = some c ∧ c < s.heap.objs.size) ∨ (s.heap.objs.size + 1 ≤ c ∧ CellAt (pushCells (s.heap.push { cls := .type "dict", data := .dict #[] }) scope.names) c none) := fun {y c} e => by
    rw [hcl] at e
    rcases cells_mem (PySem.mem_of_lookup e) with hm | ⟨_, h2, h3⟩
    · exact .inl (cm hm)
    · rw [Heap.size_push] at h2; exact .inr ⟨h2, h3⟩
  have look : ∀ {y}, scope.names.lookup y = some .free → ∃ c, cenv.cells.lookup y = some c ∧ X.env.cells.lookup y = some c := fun {y} hl => by
    have hy : (y, NameKind.free) ∈ scope.names := PySem.mem_of_lookup hl
    obtain ⟨c', e'⟩ := mem_lookup (cells_acc (names := scope.names) (n := (s.heap.push { cls := .type "dict", data := .dict #[] }).objs.size) (cloFrom_has (cells := X.env.cells) (acc := []) hy))
    rw [← hcl] at e'
    refine ⟨c', e', ?_⟩
    rw [hcl] at e'
    rcases cells_mem (PySem.mem_of_lookup e') with hm | ⟨h1, _, _⟩
    · exact (cm hm).1
    · have := ok.uniq _ h1
      rw [hl] at this; cases this
  have okB : (X.blk s H scope cenv fp).Ok := by
    refine ⟨I.ok.mod, by show cenv.scope.kind = _; rw [hsc]; exact ok.kind, by show cenv.globals = _; rw [← hcenv]; exact I.ok.glob, by show cenv.builtins = _; rw [← hcenv]; exact I.ok.blt, by show s.heap.objs.size ≤ cenv.locals; rw [hL]; exact Nat.le_refl _,
      fun y z c e1 e2 => ?_, fun y hy => ?_, fun y c z e => ?_, I.ok.hd, I.ok.frames, .inl rfl, fun b hb => ⟨?_, fun y c e z => ?_⟩, I.bs, Nat.le_trans I.ok.bsz I.sz, fun b o e hb => ?_, fun b hb z => ?_, I.stack, I.stkFree⟩
    · have e1 : cenv.cells.lookup y = some c := e1
      have e2 : cenv.cells.lookup z = some c := e2
      rw [hcl] at e1 e2
      refine cells_inj (fun p hp => ?_) (fun y z c a b => I.ok.inj y z c (cm a).1 (cm b).1) (PySem.mem_of_lookup e1) (PySem.mem_of_lookup e2)
      rw [Heap.size_push]
      exact Nat.lt_succ_of_lt (cm (y := p.1) (c := p.2) hp).2
    · show ∃ c, cenv.cells.lookup y = some c
      have key : ∀ k, cenv.kindOf y = some k → (k = .cell ∨ k = .free) → ∃ c, cenv.cells.lookup y = some c := fun k hk hk' => by
        unfold Env.kindOf at hk
        rw [hsc] at hk
        obtain ⟨k', e, r⟩ := lookup_relS hk
        have : k' = .cell ∨ k' = .free := by
          rcases r with rfl | ⟨rfl, _⟩
          · exact hk'
          · exact .inr rfl
        rcases this with rfl | rfl
        · obtain ⟨c, hm⟩ := cells_has (n := (s.heap.push { cls := .type "dict", data := .dict #[] }).objs.size) (acc := cloFrom X.env.cells scope.names []) (PySem.mem_of_lookup e)
          obtain ⟨c', e'⟩ := mem_lookup hm
          exact ⟨c', by rw [hcl]; exact e'⟩
        · obtain ⟨c, h1, _⟩ := look e
          exact ⟨c, h1⟩
      rcases hy with hy | hy
      · exact key _ hy (.inl rfl)
      · exact key _ hy (.inr rfl)
    · have z : (scope.names.lookup y == some NameKind.cell) = true := z
      have z : scope.names.lookup y = some .cell := by simpa using z
      have e : cenv.cells.lookup y = some c := e
      rw [hcl] at e
      rcases cells_mem (PySem.mem_of_lookup e) with hm | ⟨_, h2, _⟩
      · rcases cloFrom_mem hm with hm | ⟨h1, _⟩
        · cases hm
        · have q := ok.uniq _ h1
          rw [z] at q; cases q
      · rw [Heap.size_push] at h2
        exact Nat.le_of_succ_le h2
    · show b ≠ cenv.locals
      rw [hL]; exact Nat.ne_of_lt (hfp b hb).2
    · have e : cenv.cells.lookup y = some c := e
      rcases mem e with ⟨h1, _⟩ | ⟨h1, _⟩
      · exact (hfp b hb).1.2.2.2.2.1 y c h1 z
      · have h2 : s.heap.objs.size + 1 ≤ b := by rw [← z]; exact h1
        exact absurd (Nat.lt_of_lt_of_le (hfp b hb).2 (Nat.le_of_succ_le h2)) (Nat.lt_irrefl _)
    · rcases (hfp b hb).1.2.2.2.1 with z | z
      · exact I.ok.noex b o e z
      · exact absurd (Nat.lt_of_lt_of_le (Heap.lt_size e) (Nat.le_trans I.ok.bsz z)) (Nat.lt_irrefl _)
    · rcases List.mem_cons.mp (I.stkSub b z) with z | z
      · exact (hfp b hb).1.2.1 z
      · exact (hfp b hb).1.2.2.1 z
  refine ⟨okB, rfl, I.bare, Un.kept kp, ⟨fun _ => none, ?_, fun i y av e1 e2 e3 => ?_⟩, fun y c e => ?_, ?_, fun y c e => ?_, fun p hp => ?_, I.hok.kept kp, by rw [wipe_length]; exact I.len⟩
  · show Heap.Ns _ cenv.locals _
    rw [hL]
    exact Heap.Ns.keeps (Heap.Ns.new ..) fun b o e => pushCells_keeps _ _ _ _ e
  · obtain ⟨e2, hne⟩ := wipe_some e2
    have hfr : scope.names.lookup y = some .free ∧ (cenv.kindOf y = some .cell ∨ cenv.kindOf y = some .free) := by
      have key : ∀ k, cenv.scope.names.lookup y = some k → k = .local ∨ k = .cell ∨ k = .free → scope.names.lookup y = some .free ∧ (cenv.kindOf y = some .cell ∨ cenv.kindOf y = some .free) := fun k hk hk' => by
        have hk0 := hk
        rw [hsc] at hk
        obtain ⟨k', e, r⟩ := lookup_relS hk
        have no : ¬ (k' = .local ∨ k' = .cell) := fun hh => by
          rcases ok.own _ (PySem.mem_of_lookup e) hh with e' | e'
          · obtain ⟨p, hp, hpy⟩ := List.mem_map.mp e'
            have e3 := ok.ix p hp
            have : p.1 = y := hpy
            rw [this] at e3
            exact hne (List.mem_map.mpr ⟨p, hp, nodup_ix hN e3 e1⟩)
          · exact e' (List.mem_of_getElem? e1)
        rcases r with rfl | ⟨rfl, rfl⟩
        · rcases hk' with rfl | rfl | rfl
          · exact absurd (.inl rfl) no
          · exact absurd (.inr rfl) no
          · exact ⟨e, .inr hk0⟩
        · exact ⟨e, .inl hk0⟩
      have e3 : Vis cenv.scope y := e3
      rcases e3 with e3 | e3 | e3
      · exact key _ e3 (.inl rfl)
      · exact key _ e3 (.inr (.inl rfl))
      · exact key _ e3 (.inr (.inr rfl))
    obtain ⟨m, hn, hl⟩ := I.loc
    have hvis : Vis X.env.scope y := (ok.free _ (PySem.mem_of_lookup hfr.1) rfl).elim (fun k => .inr (.inl k)) (fun k => .inr (.inr k))
    obtain ⟨w, r, q⟩ := hl i y av e1 e2 hvis
    refine ⟨w, r, .inr ⟨hfr.2, ?_⟩⟩
    obtain ⟨c, h1, h2⟩ := look hfr.1
    rcases q with ⟨k, _⟩ | ⟨_, c', e', z⟩
    · have k : X.env.scope.names.lookup y = some .local := k
      rcases ok.free _ (PySem.mem_of_lookup hfr.1) rfl with k' | k' <;> rw [show X.env.scope.names.lookup y = _ from k'] at k <;> cases k
    · rw [h2] at e'; cases e'
      exact ⟨c, h1, z.keeps kp⟩
  · have e : cenv.cells.lookup y = some c := e
    rcases mem e with ⟨h1, _⟩ | ⟨_, z⟩
    · obtain ⟨w, z⟩ := I.cell y c h1
      exact ⟨w, z.keeps kp⟩
    · exact ⟨_, z⟩
  · show H cenv.locals = none
    rw [hL]; exact I.hok.fresh (Nat.le_refl _)
  · have e : cenv.cells.lookup y = some c := e
    rcases mem e with ⟨h1, _⟩ | ⟨h1, _⟩
    · exact I.freeC y c h1
    · exact I.hok.fresh (Nat.le_of_succ_le h1)
  · exact absurd (show p ∈ ([] : List (Addr × Obj)) ++ [] from hp) (by simp)

/-- an item appended to a tracked list -/
theorem app_ok {E : Value → Shared → Prop} {D : Addr} {xs : List V} {y : V} {v : Value} {Q : Value → Shared → Prop} (I : Inv X pins σ H s) (hD : H D = some (.lst xs)) (hz : xs.length < sizeLine) (r : RelV y v)
    (h : ∀ s', Inv X pins σ (upd H D (.lst (xs ++ [y]))) s' → Q .none s') : wpAny (model X.prog X.w) X.A (call (.builtin "list.append") [.ref D, v]) Q E s := by
  obtain ⟨hz', its, n, ri, e⟩ := I.hok D _ hD
  have hl := ri.length
  refine append_at (hsz := by rw [List.size_toArray]; omega) e fun h' sb ho' => ?_
  refine h { s with heap := h' } (I.write (t' := s.toks) (by rw [hD]; trivial) (.inl rfl) (fun b u hb q => (sb.2 b hb).trans q) ⟨_, ho'⟩ ⟨by rw [List.length_append]; exact hz, its ++ [v], n + 1, ri.append (.cons r .nil), ?_⟩)
  rw [ho']
  simp

/-- a clause's tests -/
def PTs (X : Cx) (ifs : List Expr) (t : TT) : Prop :=
  ∀ (pins : List (Addr × Obj)) (s : Shared) (σ : St) (H : Hp) (Q : Bool → Hp → Prop), Inv X pins σ H s → t σ H Q →
    wpAny (model X.prog X.w) X.A (forIn ifs true fun c r => if r = true then do let ok ← isTrue c X.env (eval c X.env); pure (ForInStep.yield ok) else pure (ForInStep.yield r)) (TP X pins σ Q) X.xe s
def tYes : TT := fun _ H Q => Q true H
theorem pts_nil : PTs X [] tYes := fun _ _ _ H _ I h => wpAny_tests_nil ⟨H, I, h⟩
theorem pts_one {c : Expr} {t : TT} (h : PT X c t) : PTs X [c] t := fun pins s σ H Q I hw => wpAny_tests_one (h pins s σ H Q I hw)
end

theorem thnF {α : Type} {t : Sem α} {Q Q' : α → Shared → Prop} {M : Model} {A : Around} {E : Value → Shared → Prop} {s : Shared} (h : wpAny M A t Q (fun _ _ => False) s) (hQ : ∀ a s, Q a s → Q' a s) : wpAny M A t Q' E s := wpAny_mono h hQ fun _ _ z => False.elim z

/-- the loop of a list comprehension's block, the target of any form (codeAny_compLoop_tests asks a target that no tuple goes to; statement and proof follow it, PyProof/CompMap.lean:41-61, with the step letOwnedTupleGo kept) -/
theorem compLoop_any {prog : Program} {w : World} {A : Around} {R : Result → Shared → Prop} {s : Shared} {elt target iter : Expr} {ifs : List Expr} {scope : Scope} {pos : Pos} {it acc : Value} {env : Env} (I : Nat → Shared → Prop)
    (turn : ∀ n s, I n s → wpAny (model prog w) A (pyNext it) (fun r s₁ => match r with
      | none => R (.ok .next) s₁
      | some v => wpAny (model prog w) A (letOwnedTupleGo target it v) (fun _ s₁' => wpAny (model prog w) A (assign target env v) (fun _ s₂ =>
          wpAny (model prog w) A (forIn ifs true fun c r => if r = true then do let ok ← isTrue c env (eval c env); pure (ForInStep.yield ok) else pure (ForInStep.yield r)) (fun ok s₃ =>
            if ok = true then wpAny (model prog w) A (eval elt env) (fun x s₄ =>
              wpAny (model prog w) A (call (.builtin "list.append") [acc, x]) (fun _ s₅ => ∃ m, m < n ∧ I m s₅) (notedBy (model prog w) A env fun e s' => R (.error e) s') s₄) (notedBy (model prog w) A env fun e s' => R (.error e) s') s₃
            else ∃ m, m < n ∧ I m s₃) (notedBy (model prog w) A env fun e s' => R (.error e) s') s₂) (notedBy (model prog w) A env fun e s' => R (.error e) s') s₁') (notedBy (model prog w) A env fun e s' => R (.error e) s') s₁) (notedBy (model prog w) A env fun e s' => R (.error e) s') s)
    (n : Nat) (h : I n s) :
    codeAny (model prog w) A (.compLoop (.ListComp elt [⟨target, iter, ifs, 0⟩] scope pos) 0 it acc env) R s := by
  refine codeAny_loop rfl I (fun n s hI => ?_) n h
  show wpAny _ A ((compTurn (.ListComp elt [⟨target, iter, ifs, 0⟩] scope pos) 0 it acc env).onRaise (fun x => do noteFrame x env; theTreesLotGoes x)) _ _ s
  refine wpAny_noted ?_
  rw [compTurn_list]
  refine wpAny_bind (wpAny_standAt (wpAny_bind (wpAny_mono (turn n s hI) (fun r s₁ h₁ => ?_) fun _ _ h' => h')))
  cases r with
  | none => exact wpAny_pure h₁
  | some v =>
    refine wpAny_bind (wpAny_mono h₁ (fun _ s₁' h₁' => ?_) fun _ _ h' => h')
    refine wpAny_bind (wpAny_mono h₁' (fun _ s₂ h₂ => wpAny_bind (wpAny_mono h₂ (fun ok s₃ h₃ => ?_) fun _ _ h' => h')) fun _ _ h' => h')
    cases ok with
    | false => exact wpAny_pure ⟨rfl, h₃⟩
    | true =>
      exact wpAny_bind (wpAny_bind (wpAny_mono h₃ (fun x s₄ h₄ => wpAny_bind (wpAny_mono h₄ (fun _ s₅ h₅ => wpAny_pure (wpAny_pure ⟨rfl, h₅⟩)) fun _ _ h' => h')) fun _ _ h' => h'))

section
variable {X : Cx}
/-- [elt for target in iter if ..]: D the new list; W by the turn and a measure, Nx what a turn is to reach -/
def tLc (wi : TI) (g : TG) (tt : TT) (te : TE) (vs : List Nat) : TE := fun σ H Q => wi σ H fun J H1 => ∀ D, H1 D = none → ∃ W : Nat → Nat → Hp → Prop, (∃ m, W 0 m (upd H1 D (.lst []))) ∧ ∀ i m H, W i m H →
  (J.stop i H ∧ Q (.ref D) H) ∨ (J.go i H ∧ ∃ Nx : Hp → Prop, (∀ H', Nx H' → ∃ m', m' < m ∧ W (i + 1) m' H') ∧ ∀ x H', J.yld i H x H' → g x (wipe σ vs) H' fun σ2 H2 => wipe σ2 vs = wipe σ vs ∧ tt σ2 H2 fun b H3 =>
    if b = true then te σ2 H3 fun y H4 => ∃ acc, H4 D = some (.lst acc) ∧ acc.length < sizeLine ∧ Nx (upd H4 D (.lst (acc ++ [y]))) else Nx H3)
theorem lc_core {pins : List (Addr × Obj)} {s : Shared} {σ : St} {H : Hp} {Q : VK} {elt tg iter : Expr} {ifs : List Expr} {scope : Scope} {own : List (Str × Nat)} {pos pos' : Pos} {wi : TI} {g : TG} {tt : TT} {te : TE} {use : Option (Value → Sem Unit)} {Qf : Value → Shared → Prop}
    (hc : X.calm = true) (hN : X.N.Nodup) (I : Inv X pins σ H s) (hi : PI X tg iter wi) (ok : BlkOk X.N X.env.scope scope own)
    (hg : ∀ (s : Shared) (H : Hp) (C : Addr) (cl : List (Str × Addr)) (fp : List Addr), PG (X.blk s H scope (compEnvC scope cl C X.env) fp) tg g) (ht : ∀ (s : Shared) (H : Hp) (C : Addr) (cl : List (Str × Addr)) (fp : List Addr), PTs (X.blk s H scope (compEnvC scope cl C X.env) fp) ifs tt)
    (he : ∀ (s : Shared) (H : Hp) (C : Addr) (cl : List (Str × Addr)) (fp : List Addr), PE (X.blk s H scope (compEnvC scope cl C X.env) fp) elt te) (hs : ∀ x, foldedSetIterable iter X.env x = pure x)
    (h : tLc wi g tt te (own.map (·.2)) σ H Q)
    (hRR : ∀ D C s' m H', Inv X pins σ H' s' → Q (.ref D) H' → s'.heap.Ns C m → FpOk X pins H' C → compPost (model X.prog X.w) X.A X.xe use Qf (.ref D) C (.ok .next) s') :
    wpAny (model X.prog X.w) X.A (comprehension (.ListComp elt [⟨tg, iter, ifs, 0⟩] scope pos) scope X.env pos' (newList []) false (eval iter X.env) use) Qf X.xe s := by
  have hfree : ∀ y ∈ scope.names, y.2 = .free → ∃ c, X.env.cells.lookup y.1 = some c := fun y hy e => by
    rcases ok.free y hy e with k | k
    · exact I.ok.has _ (.inl k)
    · exact I.ok.has _ (.inr k)
  refine wpAny_comprehension_free (use := use) rfl hs (closure_ok hfree) ok.kind (fun y hy e => by rw [ok.uniq y hy, e])
    (thn (hi pins s σ H _ I h) fun xv s1 hx => thn hx fun itv s2 h2 => ?_)
  obtain ⟨it, fp, tn, J, H2, e, I2, T, st2, f2, q⟩ := h2
  subst e
  refine wpAny_newObj_type (newEnv_comp ?_) (by show 0 ≤ sizeLine; decide)
  generalize hD : s2.heap.objs.size = D
  have hDn : H2 D = none := I2.hok.fresh (Nat.le_of_eq hD)
  obtain ⟨W, ⟨m0, w0⟩, turn⟩ := q D hDn
  -- the new list
  generalize hs3 : ({ s2 with heap := s2.heap.push { cls := .type "list", data := .seq ([] : List Value).toArray } } : Shared) = s3
  have I3 : Inv X pins σ (upd H2 D (.lst [])) s3 := by
    rw [← hs3]
    refine I2.laid (t' := s2.toks) (fun b o e => Heap.get?_push_of_some _ e) (Nat.le_of_eq hD) ⟨Nat.zero_le _, [], 0, .nil, ?_⟩
    rw [← hD]
    exact Heap.get?_push_size _ rfl
  have h3 : s3.heap = s2.heap.push { cls := .type "list", data := .seq ([] : List Value).toArray } := by rw [← hs3]
  have sz : ∀ b ∈ fp, b < s2.heap.objs.size := fun b hb => by
    obtain ⟨o, e, _⟩ := T.obj _ _ st2 b hb
    exact Heap.lt_size e
  have f3 : ∀ b ∈ fp, FpOk X pins (upd H2 D (.lst [])) b ∧ b < s3.heap.objs.size := fun b hb => by
    have hlt := sz b hb
    refine ⟨⟨?_, (f2 b hb).2⟩, by rw [h3, Heap.size_push]; exact Nat.lt_succ_of_lt hlt⟩
    rw [upd_ne (by rw [← hD]; exact Nat.ne_of_lt hlt)]
    exact (f2 b hb).1
  have st3 : tn 0 s3.heap := T.keep _ _ _ st2 fun b _ o e => by rw [h3]; exact Heap.get?_push_of_some _ e
  have I4 := block_start I3 ok hN f3
  have pg := hg s3 (upd H2 D (.lst [])) s3.heap.objs.size (cellsFrom (s3.heap.objs.size + 1) scope.names (cloFrom X.env.cells scope.names [])) fp
  have pt := ht s3 (upd H2 D (.lst [])) s3.heap.objs.size (cellsFrom (s3.heap.objs.size + 1) scope.names (cloFrom X.env.cells scope.names [])) fp
  have pe := he s3 (upd H2 D (.lst [])) s3.heap.objs.size (cellsFrom (s3.heap.objs.size + 1) scope.names (cloFrom X.env.cells scope.names [])) fp
  show codeAny _ _ (.compStart (.ListComp elt [⟨tg, iter, ifs, 0⟩] scope pos) 0 (.ref it) (.ref D) (compEnvC scope (cellsFrom (s3.heap.objs.size + 1) scope.names (cloFrom X.env.cells scope.names [])) s3.heap.objs.size X.env)) (compPost (model X.prog X.w) X.A X.xe use Qf (.ref D) s3.heap.objs.size) { s3 with heap := pushCells (s3.heap.push { cls := .type "dict", data := .dict #[] }) scope.names }
  have nfp : ∀ b ∈ fp, (upd H2 D (.lst [])) b = none := fun b hb => (f3 b hb).1.1
  generalize hce : compEnvC scope (cellsFrom (s3.heap.objs.size + 1) scope.names (cloFrom X.env.cells scope.names [])) s3.heap.objs.size X.env = ce at I4 pg pt pe ⊢
  have cL : ce.locals = s3.heap.objs.size := by subst hce; rfl
  generalize hH3 : upd H2 D (.lst []) = H3 at I3 I4 pg pt pe w0 nfp f3
  generalize hs4 : ({ s3 with heap := pushCells (s3.heap.push { cls := .type "dict", data := .dict #[] }) scope.names } : Shared) = s4 at I4 ⊢
  have st4 : tn 0 s4.heap := T.keep _ _ _ st3 fun b _ o e => by rw [← hs4]; exact pushCells_keeps _ _ _ _ (Heap.get?_push_of_some _ e)
  have stat : ∀ {σ' : St} {H' : Hp} {s' : Shared}, Inv (X.blk s3 H3 scope ce fp) [] σ' H' s' → (∀ b ∈ fp, H' b = none) → ∀ b ∈ fp, FpOk (X.blk s3 H3 scope ce fp) [] H' b := fun {σ' H' s'} I' hn b hb =>
    ⟨hn b hb, (I'.ok.exf b hb).1, I'.ok.exfs b hb, .inl hb, fun x c e => (I'.ok.exf b hb).2 x c e, fun p hp => absurd (show p ∈ ([] : List (Addr × Obj)) ++ [] from hp) (by simp)⟩
  have loop : codeAny (model X.prog X.w) X.A (.compLoop (.ListComp elt [⟨tg, iter, ifs, 0⟩] scope pos) 0 (.ref it) (.ref D) ce) (compPost (model X.prog X.w) X.A X.xe use Qf (.ref D) s3.heap.objs.size) s4 := by
    refine compLoop_any (fun n s' => ∃ i H', Inv (X.blk s3 H3 scope ce fp) [] (wipe σ (own.map (·.2))) H' s' ∧ tn i s'.heap ∧ (∀ b ∈ fp, H' b = none) ∧ W i n H') ?_ m0 ⟨0, H3, I4, st4, nfp, w0⟩
    rintro n s5 ⟨i, H5, I5, st5, n5, w5⟩
    rcases turn i n H5 w5 with ⟨stop, qq⟩ | ⟨go, Nx, hNx, step⟩
    · have td := T.done (X.blk s3 H3 scope ce fp) rfl rfl rfl hc i [] s5 _ H5 (fun _ _ => False) I5 (stat I5 n5) st5 stop
      refine thnF td fun r s6 ⟨hr, I6⟩ => ?_
      subst hr
      -- back in the def's context
      have I7 : Inv X pins σ H5 s6 := I3.call' (ch := fp) I6.os I6.base I6.hok I6.bare fun b hb => ⟨(f3 b hb).1.2.2.2.1, (f3 b hb).1.2.1, (f3 b hb).1.2.2.2.2.1, (f3 b hb).1.2.2.2.2.2⟩
      have nC : H5 s3.heap.objs.size = none := by
        have z : H5 ce.locals = none := I6.free
        rw [cL] at z
        exact z
      obtain ⟨m, hn, _⟩ := I6.loc
      have hn : s6.heap.Ns ce.locals m := hn
      rw [cL] at hn
      exact hRR D s3.heap.objs.size s6 m H5 I7 qq hn (I3.fpOk (Nat.le_refl _) nC)
    · have ti := T.item (X.blk s3 H3 scope ce fp) rfl rfl rfl hc i [] s5 _ H5 (fun _ _ => False) I5 (stat I5 n5) st5 go
      refine thnF ti fun r s6 ⟨u, hr, h6⟩ => ?_
      subst hr
      refine thnF h6 fun _ s7 ⟨x, H7, I7, r7, y7, st7, n7⟩ => ?_
      have I7' := I7.pinned (stat I7 n7) (T.obj _ _ st7)
      refine thnF (pg _ s7 _ H7 x u _ I7' r7 (step x H7 y7)) fun _ s8 ⟨σ8, H8, I8, hw8, q8⟩ => ?_
      refine thnF (pt _ s8 σ8 H8 _ I8 q8) fun b s9 ⟨H9, I9, q9⟩ => ?_
      -- the turn's end
      have fin : ∀ {s' : Shared} {H' : Hp}, Inv (X.blk s3 H3 scope ce fp) ([] ++ pinsAt fp s7.heap) σ8 H' s' → Nx H' → ∃ m, m < n ∧ ∃ i H', Inv (X.blk s3 H3 scope ce fp) [] (wipe σ (own.map (·.2))) H' s' ∧ tn i s'.heap ∧ (∀ b ∈ fp, H' b = none) ∧ W i m H' := fun {s' H'} I' nx => by
        obtain ⟨m', hm, w'⟩ := hNx H' nx
        have pin' : ∀ b ∈ fp, ∀ o, s7.heap.get? b = some o → s'.heap.get? b = some o ∧ H' b = none := fun b hb o e =>
          let z := I'.pin (b, o) (List.mem_append_right _ (List.mem_append_right _ (mem_pinsAt hb e)))
          ⟨z.1, z.2.1⟩
        have hl : (wipe σ (own.map (·.2))).length = σ8.length := by rw [← hw8, wipe_length]
        refine ⟨m', hm, i + 1, H', (I'.unpinned (pins := [])).weak hl (fun j v e => ?_), T.keep _ _ _ st7 fun b hb o e => (pin' b hb o e).1, fun b hb => ?_, w'⟩
        · rw [← hw8] at e
          exact (wipe_some e).1
        · obtain ⟨o, e, _⟩ := T.obj _ _ st7 b hb
          exact (pin' b hb o e).2
      cases b with
      | false =>
        simp only [Bool.false_eq_true, if_false] at q9 ⊢
        exact fin I9 q9
      | true =>
        simp only [if_true] at q9 ⊢
        refine thnF (pe _ s9 σ8 H9 _ I9 q9) fun z s10 ⟨yv, H10, I10, r10, acc, hD10, hz10, nx⟩ => ?_
        exact app_ok (X := X.blk s3 H3 scope ce fp) I10 hD10 hz10 r10 fun s11 I11 => fin I11 nx
  exact codeAny_compStart_list loop (T.self X.A 0 _ _ _ st4 loop)
/-- as a value -/
theorem pe_lc {elt tg iter : Expr} {ifs : List Expr} {scope : Scope} {own : List (Str × Nat)} {pos : Pos} {wi : TI} {g : TG} {tt : TT} {te : TE} (hc : X.calm = true) (hN : X.N.Nodup) (hi : PI X tg iter wi) (ok : BlkOk X.N X.env.scope scope own)
    (hg : ∀ (s : Shared) (H : Hp) (C : Addr) (cl : List (Str × Addr)) (fp : List Addr), PG (X.blk s H scope (compEnvC scope cl C X.env) fp) tg g) (ht : ∀ (s : Shared) (H : Hp) (C : Addr) (cl : List (Str × Addr)) (fp : List Addr), PTs (X.blk s H scope (compEnvC scope cl C X.env) fp) ifs tt)
    (he : ∀ (s : Shared) (H : Hp) (C : Addr) (cl : List (Str × Addr)) (fp : List Addr), PE (X.blk s H scope (compEnvC scope cl C X.env) fp) elt te) (hs : ∀ x, foldedSetIterable iter X.env x = pure x := by intro _; rfl) :
    PE X (.ListComp elt [⟨tg, iter, ifs, 0⟩] scope pos) (tLc wi g tt te (own.map (·.2))) := by
  intro pins s σ H Q I h
  rw [eval_ListComp]
  refine lc_core hc hN I hi ok hg ht he hs h fun D C s' m H' I' q hn f => ⟨m, hn, fun h'' sb => ?_⟩
  obtain ⟨f0, f1, f2, f3, f4, f5⟩ := f
  exact ⟨.ref D, H', I'.turned (t' := s'.toks) (fun b o hb e => (sb.2 b hb).trans e) f0 f1 f3 f4 f5, rfl, q⟩
/-- name = [..] on one line, the name a local -/
theorem ps_setLc {i : Nat} {y : Str} {py : Pos} {elt tg iter : Expr} {ifs : List Expr} {scope : Scope} {own : List (Str × Nat)} {pos spos : Pos} {wi : TI} {g : TG} {tt : TT} {te : TE} (hc : X.calm = true) (hN : X.N.Nodup) (hy : X.N[i]? = some y) (hyl : X.env.scope.names.lookup y = some .local)
    (hsw : swapsWith (.ListComp elt [⟨tg, iter, ifs, 0⟩] scope pos) (some (.Name y py)) spos.line X.env = pure true) (hi : PI X tg iter wi) (ok : BlkOk X.N X.env.scope scope own)
    (hg : ∀ (s : Shared) (H : Hp) (C : Addr) (cl : List (Str × Addr)) (fp : List Addr), PG (X.blk s H scope (compEnvC scope cl C X.env) fp) tg g) (ht : ∀ (s : Shared) (H : Hp) (C : Addr) (cl : List (Str × Addr)) (fp : List Addr), PTs (X.blk s H scope (compEnvC scope cl C X.env) fp) ifs tt)
    (he : ∀ (s : Shared) (H : Hp) (C : Addr) (cl : List (Str × Addr)) (fp : List Addr), PE (X.blk s H scope (compEnvC scope cl C X.env) fp) elt te) (hs : ∀ x, foldedSetIterable iter X.env x = pure x := by intro _; rfl) :
    PS X (.Assign [.Name y py] (.ListComp elt [⟨tg, iter, ifs, 0⟩] scope pos) spos) (tAsg (tLc wi g tt te (own.map (·.2))) (gName i)) := by
  intro pins s σ H D I h
  rw [exec_Assign_Name_used _ _ _ _ hsw]
  refine wpAny_bind (wpAny_standAt (wpAny_bind ?_))
  show wpAny _ X.A (do let _ ← comprehension (.ListComp elt [⟨tg, iter, ifs, 0⟩] scope pos) scope X.env (firstIterPos [⟨tg, iter, ifs, 0⟩] pos) (newList []) false (eval iter X.env) (some (assign (.Name y py) X.env))) _ _ s
  have h : tLc wi g tt te (own.map (·.2)) σ H (fun x H1 => gName i x σ H1 D.nx) := h
  refine wpAny_bind (thn (lc_core (Qf := fun _ s' => SP X pins D .next s') hc hN I hi ok hg ht he hs h fun L C s' m H' I' q hn f => ?_) fun _ s' hq => wpAny_pure (wpAny_pure hq))
  show wpAny _ _ (assign (.Name y py) X.env (.ref L)) _ _ _
  refine wpAny_assign_Name (store_ok2 (v := V.ref L) I' hN hy (.inl hyl) rfl (fun s2 I2 ⟨a, sb, ha⟩ => ?_) (.inr hyl))
  obtain ⟨f0, f1, f2, f3, f4, f5⟩ := f
  have haC : C ≠ a := by
    rcases ha with z | z
    · rw [z]; exact f1
    · exact fun e => f4 y a z e.symm
  refine ⟨m, hn.sameBut sb haC, fun h3 sb3 => ?_⟩
  exact ⟨_, H', I2.turned (t' := s2.toks) (fun b o hb e => (sb3.2 b hb).trans e) f0 f1 f3 f4 f5, q⟩
end

end L2

namespace L2
open PySem PySem.Spec PyProof.Rows

section
variable {prog : Program} {w : World} {A : Around} {R : Result → Shared → Prop} {s : Shared} {elt t0 i0 t1 i1 : Expr} {ifs0 ifs1 : List Expr} {scope : Scope} {pos : Pos} {it acc : Value} {env : Env}
end

section
variable {X : Cx}
end
end L2

namespace L2
open PySem PySem.Spec PyProof.Rows

section
variable {κ : Type} [DecidableEq κ]
def valV (kvs : List (κ × V)) (k : κ) : Option V := (kvs.find? fun kv => decide (kv.1 = k)).map (·.2)
/-- in its place, or at the end -/
def putK (kvs : List (κ × V)) (k : κ) (v : V) : List (κ × V) :=
  if (kvs.any fun kv => decide (kv.1 = k)) = true then kvs.map (fun kv => if kv.1 = k then (kv.1, v) else kv) else kvs ++ [(k, v)]
theorem valV_pos {p : κ × V} {r : List (κ × V)} {k : κ} (e : p.1 = k) : valV (p :: r) k = some p.2 := by simp [valV, List.find?_cons, e]
theorem valV_neg {p : κ × V} {r : List (κ × V)} {k : κ} (e : ¬ p.1 = k) : valV (p :: r) k = valV r k := by simp [valV, List.find?_cons, e]
theorem valV_any (k : κ) : ∀ kvs : List (κ × V), (kvs.any fun kv => decide (kv.1 = k)) = (valV kvs k).isSome
  | [] => rfl
  | p :: r => by
    rw [List.any_cons]
    by_cases e : p.1 = k
    · simp only [valV_pos e, decide_eq_true e, Bool.true_or, Option.isSome_some]
    · rw [valV_neg e, decide_eq_false e, Bool.false_or]; exact valV_any k r
theorem length_putK (kvs : List (κ × V)) (k : κ) (v : V) : (putK kvs k v).length ≤ kvs.length + 1 := by
  unfold putK
  split
  · rw [List.length_map]; omega
  · rw [List.length_append, List.length_cons, List.length_nil]; omega
theorem putK_new {kvs : List (κ × V)} {k : κ} (v : V) (h : valV kvs k = none) : putK kvs k v = kvs ++ [(k, v)] := by
  unfold putK
  rw [valV_any, h]
  exact if_neg (by decide)

theorem RelO.isSome_eq {o : Option V} {u : Option Value} (r : RelO o u) : o.isSome = u.isSome := by
  cases o with
  | none => cases u with
    | none => rfl
    | some _ => exact (show False from r).elim
  | some _ => cases u with
    | none => exact (show False from r).elim
    | some _ => rfl
theorem RelO.getD {o : Option V} {u : Option Value} {d : V} {d' : Value} (r : RelO o u) (rd : RelV d d') : RelV (o.getD d) (u.getD d') := by
  cases o with
  | none => cases u with
    | none => exact rd
    | some _ => exact (show False from r).elim
  | some _ => cases u with
    | none => exact (show False from r).elim
    | some _ => exact r

/-- raw tables of the same keys -/
theorem KV.val {kvs : List (κ × V)} {vs : List (κ × Value)} (r : KV kvs vs) (k : κ) : RelO (valV kvs k) (valueAt vs k) := by
  unfold KV at r
  induction r with
  | nil => exact True.intro
  | @cons p q ps qs h t ih =>
    obtain ⟨h1, h2⟩ := h
    by_cases e : p.1 = k
    · have e' : q.1 = k := h1.symm.trans e
      have b : valueAt (q :: qs) k = some q.2 := by simp [valueAt, List.find?_cons, e']
      rw [valV_pos e, b]; exact h2
    · have e' : ¬ q.1 = k := fun z => e (h1.trans z)
      have b : valueAt (q :: qs) k = valueAt qs k := by simp [valueAt, List.find?_cons, e']
      rw [valV_neg e, b]; exact ih
theorem KV.any {kvs : List (κ × V)} {vs : List (κ × Value)} (r : KV kvs vs) (k : κ) : (kvs.any fun kv => decide (kv.1 = k)) = vs.any fun kv => decide (kv.1 = k) := by
  unfold KV at r
  induction r with
  | nil => rfl
  | cons h t ih => rw [List.any_cons, List.any_cons, ih, h.1]
theorem KV.repl {kvs : List (κ × V)} {vs : List (κ × Value)} (r : KV kvs vs) (k : κ) {y : V} {u : Value} (ry : RelV y u) :
    KV (kvs.map fun kv => if kv.1 = k then (kv.1, y) else kv) (vs.map fun kv => if kv.1 = k then (kv.1, u) else kv) := by
  unfold KV at r ⊢
  induction r with
  | nil => exact .nil
  | @cons p q ps qs h t ih =>
    rw [List.map_cons, List.map_cons]
    refine .cons ?_ ih
    obtain ⟨h1, h2⟩ := h
    by_cases e : p.1 = k
    · rw [if_pos e, if_pos (h1.symm.trans e)]; exact ⟨h1, ry⟩
    · rw [if_neg e, if_neg (fun z => e (h1.trans z))]; exact ⟨h1, h2⟩
theorem KV.put {kvs : List (κ × V)} {vs : List (κ × Value)} (r : KV kvs vs) (k : κ) {y : V} {u : Value} (ry : RelV y u) : KV (putK kvs k y) (stored vs k u) := by
  unfold putK stored
  rw [r.any k]
  by_cases e : (vs.any fun kv => decide (kv.1 = k)) = true
  · rw [if_pos e, if_pos e]; exact r.repl k ry
  · rw [if_neg e, if_neg e]; exact Paired.snoc r ⟨rfl, ry⟩
theorem KV.length {kvs : List (κ × V)} {vs : List (κ × Value)} (r : KV kvs vs) : kvs.length = vs.length := Paired.length r
end


theorem kV_is {P : Program} {w : World} {k : Key} {u : Value} (r : RelV (kV k) u) : (mixKind P w).is k u = true := by
  cases k with
  | inl i => obtain ⟨t, e⟩ := (show ∃ t, u = Value.int i t from r); subst e; exact mixKind_int P w i t
  | inr x => obtain ⟨t, e⟩ := (show ∃ t, u = Value.str x t from r); subst e; exact mixKind_str P w x t
theorem items_are {P : Program} {w : World} : ∀ {ks : List Key} {us : List Value}, Vals (ks.map kV) us → ItemsAre (mixKind P w) ks us
  | [], _, r => by rw [List.map_nil] at r; cases r; exact .nil
  | k :: ks, _, r => by
    rw [List.map_cons] at r
    cases r with
    | cons h t => exact .cons (kV_is h) (items_are t)

/-- raw entries of a dict with tuple keys -/
abbrev KT (H : Hp) : List (List Key × V) → List (List Key × Addr × Value) → Prop := Paired fun p q => p.1 = q.1 ∧ H q.2.1 = some (.tup (p.1.map kV)) ∧ RelV p.2 q.2.2
theorem KT.val {H : Hp} {kvs : List (List Key × V)} {xs : List (List Key × Addr × Value)} (r : KT H kvs xs) (k : List Key) : RelO (valV kvs k) ((atKey xs k).map (·.2)) := by
  induction r with
  | nil => exact True.intro
  | @cons p q ps qs h t ih =>
    obtain ⟨h1, _, h2⟩ := h
    by_cases e : p.1 = k
    · have e' : q.1 = k := h1.symm.trans e
      have b : atKey (q :: qs) k = some q.2 := by simp [atKey, List.find?_cons, e']
      rw [valV_pos e, b]; exact h2
    · have e' : ¬ q.1 = k := fun z => e (h1.trans z)
      have b : atKey (q :: qs) k = atKey qs k := by simp [atKey, List.find?_cons, e']
      rw [valV_neg e, b]; exact ih
theorem KT.repl {H : Hp} {kvs : List (List Key × V)} {xs : List (List Key × Addr × Value)} (r : KT H kvs xs) (k : List Key) {y : V} {u : Value} (ry : RelV y u) :
    KT H (kvs.map fun kv => if kv.1 = k then (kv.1, y) else kv) (xs.map (putAt k u)) := by
  induction r with
  | nil => exact .nil
  | @cons p q ps qs h t ih =>
    rw [List.map_cons, List.map_cons]
    refine .cons ?_ ih
    obtain ⟨h1, h2, h3⟩ := h
    unfold putAt
    by_cases e : p.1 = k
    · rw [if_pos e, if_pos (h1.symm.trans e)]; exact ⟨h1, h2, ry⟩
    · rw [if_neg e, if_neg (fun z => e (h1.trans z))]; exact ⟨h1, h2, h3⟩
theorem KT.put {H : Hp} {kvs : List (List Key × V)} {xs : List (List Key × Addr × Value)} (r : KT H kvs xs) (k : List Key) {b : Addr} {y : V} {u : Value} (hb : H b = some (.tup (k.map kV))) (ry : RelV y u) :
    KT H (putK kvs k y) (storedH xs k b u) := by
  have e : (kvs.any fun kv => decide (kv.1 = k)) = (atKey xs k).isSome := by
    rw [valV_any, (r.val k).isSome_eq, Option.isSome_map]
  unfold putK storedH
  rw [e]
  by_cases q : (atKey xs k).isSome = true
  · rw [if_pos q, if_pos q]; exact r.repl k ry
  · rw [if_neg q, if_neg q]; exact Paired.snoc r ⟨rfl, hb, ry⟩
theorem KT.keeps {H H' : Hp} {kvs : List (List Key × V)} {xs : List (List Key × Addr × Value)} (r : KT H kvs xs) (ht : ∀ b ys, H b = some (.tup ys) → H' b = some (.tup ys)) : KT H' kvs xs :=
  Paired.mapP r fun _ _ z => ⟨z.1, ht _ _ z.2.1, z.2.2⟩

section
variable {P : Program} {w : World} {H : Hp} {h : Heap} {a : Addr}
theorem rd_of {u : HO} (ok : HOk P w H h) (e : Rd H a u) : ObjOk P w H h a u := e.ok ok
theorem dk_rd {kvs : List (Key × V)} (ok : HOk P w H h) (e : Rd H a (.dK kvs)) : kvs.length ≤ sizeLine ∧ (a == sysModules) = false ∧ ∃ vs, KV kvs vs ∧ h.DictOf (mixKind P w) a vs :=
  show ObjOk P w H h a (.dK kvs) from rd_of ok e
theorem dk_of {kvs : List (Key × V)} (ok : HOk P w H h) (e : H a = some (.dK kvs)) : kvs.length ≤ sizeLine ∧ (a == sysModules) = false ∧ ∃ vs, KV kvs vs ∧ h.DictOf (mixKind P w) a vs := dk_rd ok (.inl e)
/-- a tracked tuple of natInts and texts is a key -/
theorem key_of {ks : List Key} (ok : HOk P w H h) (e : H a = some (.tup (ks.map kV))) : (tupleKind (mixKind P w)).is h ks a := by
  obtain ⟨_, its, r, o, h1, h2, n, h3⟩ := (show ObjOk P w H h a (.tup (ks.map kV)) from ok a _ e)
  exact ⟨o, its.toArray, n, h1, h2, h3, by simpa using items_are r⟩
theorem dt_rd {kvs : List (List Key × V)} (ok : HOk P w H h) (e : Rd H a (.dT kvs)) : kvs.length ≤ sizeLine ∧ (a == sysModules) = false ∧
    ∃ xs, KT H kvs xs ∧ h.DictOfH (tupleKind (mixKind P w)) a xs := by
  obtain ⟨z, y, xs, r, o, es, ep, h1, h2, h3, h4, h5⟩ := (show ObjOk P w H h a (.dT kvs) from rd_of ok e)
  refine ⟨z, y, xs, r, o, es, ep, h1, h2, h3, h4, fun x hx => ?_, h5⟩
  have all : ∀ {l : List (List Key × V)} {m : List (List Key × Addr × Value)}, KT H l m → ∀ x ∈ m, (tupleKind (mixKind P w)).is h x.1 x.2.1 := by
    intro l m q
    induction q with
    | nil => intro x hx; exact nomatch hx
    | @cons p q ps qs hq t ih =>
      intro x hx
      rcases List.mem_cons.mp hx with e | hx
      · subst e
        exact key_of ok (by rw [← hq.1]; exact hq.2.1)
      · exact ih x hx
  exact all r x hx
theorem dt_of {kvs : List (List Key × V)} (ok : HOk P w H h) (e : H a = some (.dT kvs)) : kvs.length ≤ sizeLine ∧ (a == sysModules) = false ∧
    ∃ xs, KT H kvs xs ∧ h.DictOfH (tupleKind (mixKind P w)) a xs := dt_rd ok (.inl e)
end

/-- what the dict at a holds at the key y -/
def DGet (H : Hp) (a : Addr) (y : V) (r : Option V) : Prop :=
  (∃ kvs k, Rd H a (.dK kvs) ∧ y = kV k ∧ r = valV kvs k) ∨ ∃ kvs k b, Rd H a (.dT kvs) ∧ y = .ref b ∧ H b = some (.tup (k.map kV)) ∧ r = valV kvs k
/-- the heap behind a[y] = v -/
def DPut (H : Hp) (a : Addr) (y v : V) (H' : Hp) : Prop :=
  (∃ kvs k, H a = some (.dK kvs) ∧ y = kV k ∧ kvs.length < sizeLine ∧ H' = upd H a (.dK (putK kvs k v))) ∨
  ∃ kvs k b, H a = some (.dT kvs) ∧ y = .ref b ∧ H b = some (.tup (k.map kV)) ∧ kvs.length < sizeLine ∧ H' = upd H a (.dT (putK kvs k v))
theorem DGet.k {H : Hp} {a : Addr} {kvs : List (Key × V)} {k : Key} (e : H a = some (.dK kvs)) : DGet H a (kV k) (valV kvs k) := .inl ⟨kvs, k, .inl e, rfl, rfl⟩
section
variable {X : Cx} {pins : List (Addr × Obj)} {σ : St} {H : Hp} {s : Shared} {a : Addr} {y v : V} {u r : Value} {o : Option V} {A : Around} {E : Value → Shared → Prop}

theorem Inv.big (I : Inv X pins σ H s) : sysModules < s.heap.objs.size := by
  have h : mainGlobals < s.heap.objs.size := (I.mod.glob.keeps I.bk).lt
  exact Nat.lt_trans (by decide) h

/-- a dict's object is replaced -/
theorem d_write {h' : Heap} {t' : Nat} {ob : HO} (I : Inv X pins σ H s) (mu : Mut (H a)) (hs : Heap.SameBut a s.heap h') (he : ∃ q, h'.get? a = some q) (new : ObjOk X.prog X.w (upd H a ob) h' a ob) :
    Inv X pins σ (upd H a ob) { s with heap := h', toks := t' } :=
  I.write (x := a) (e := a) mu (.inl rfl) (fun b q hb z => (hs.2 b hb).trans z) he new
theorem dk_new {P : Program} {w : World} {H' : Hp} {h' : Heap} {kvs : List (Key × V)} {vs : List (Key × Value)} (z : kvs.length ≤ sizeLine) (hd : (a == sysModules) = false) (rel : KV kvs vs) (dd : h'.DictOf (mixKind P w) a vs) :
    ObjOk P w H' h' a (.dK kvs) := ⟨z, hd, vs, rel, dd⟩
/-- d[y] = v -/
theorem d_setItem {H' : Hp} {Q : Unit → Shared → Prop} (hu : A.units + 1 < cLine) (I : Inv X pins σ H s) (g : DPut H a y v H') (ry : RelV y u) (rv : RelV v r) (h : ∀ s', Inv X pins σ H' s' → Q () s') :
    wpAny (model X.prog X.w) A (setItem (.ref a) u r) Q E s := by
  rcases g with ⟨kvs, k, e, ey, l, eH⟩ | ⟨kvs, k, b, e, ey, eb, l, eH⟩
  · subst ey eH
    obtain ⟨z, hd, vs, rel, dd⟩ := dk_of I.hok e
    have hz : vs.length ≤ sizeLine := by rw [← rel.length]; exact z
    have hl : (putK kvs k v).length ≤ sizeLine := by have := length_putK kvs k v; omega
    refine wpAny_setItem_pairs (hsz := hz) (kV_is ry) dd fun h' dd' hs => h _ ?_
    have he : ∃ q, h'.get? a = some q := let ⟨q, _, _, hq, _⟩ := dd'; ⟨q, hq⟩
    exact d_write I (by rw [e]; exact True.intro) hs he (dk_new hl hd (rel.put k rv) dd')
  · subst ey eH
    cases (show u = Value.ref b from ry)
    obtain ⟨z, hd, xs, rel, dd⟩ := dt_of I.hok e
    have hz : xs.length ≤ sizeLine := by rw [← Paired.length rel]; exact z
    have hl : (putK kvs k v).length ≤ sizeLine := by have := length_putK kvs k v; omega
    refine wpAny_setItem_heap (hsz := hz) (tupleKind_room_in1 hu) (key_of I.hok eb) dd fun h' dd' hs => h _ ?_
    obtain ⟨q, es, ep, hq, h2, h3, h4, _, h5⟩ := dd'
    refine d_write I (by rw [e]; exact True.intro) hs ⟨q, hq⟩ ⟨hl, hd, _, (rel.put k eb rv).keeps fun c ys ec => ?_, q, es, ep, hq, h2, h3, h4, h5⟩
    rw [upd_ne (ne_of ec e (fun z => nomatch z))]
    exact ec
end

section
variable {X : Cx} {pins : List (Addr × Obj)} {σ : St} {H : Hp} {s : Shared} {a : Addr} {kvs : List (Key × V)} {k : Key} {u : Value} {A : Around} {E : Value → Shared → Prop}
end


/-- the element of a subscription, not a slice -/
def NoSl (i : Expr) : Prop := ∀ ov iv, subscripted i false ov iv = operate [ov, iv] (getItem ov iv)
theorem subD_of {prog : Program} {w : World} {A : Around} {E : Value → Shared → Prop} {s : Shared} {env : Env} {value slice : Expr} {pos : Pos} {T id : String} {Q : Value → Shared → Prop}
    (hl : typeLookup (.type T) "__getitem__" = pure (some (.builtin id))) (hs : NoSl slice)
    (h : wpAny (model prog w) A (eval value env) (fun o s₁ => wpAny (model prog w) A (eval slice env) (fun i s₂ => s₂.TypeIs o T ∧ wpAny (model prog w) A (getItem o i) Q E s₂) E s₁) E s) :
    wpAny (model prog w) A (eval (.Subscript value slice pos) env) Q E s := by
  refine Subscript_ (wpAny_mono h (fun o s₁ h₁ => wpAny_mono h₁ (fun i s₂ h₂ => ?_) fun _ _ x => x) fun _ _ x => x)
  obtain ⟨hT, h₂⟩ := h₂
  unfold subscriptTail
  refine wpAny_bind ?_
  rw [getitemInPython_of_ne hT.not_modules]
  refine wpAny_bind (wpAny_specialOf hT hl ?_)
  have fin : wpAny (model prog w) A (subscripted slice false o i) (fun r s₃ => wpAny (model prog w) A (letTemporaryGo value o r >>= fun _ => pure r) Q E s₃) E s₂ := by
    rw [hs o i]
    exact wpAny_operating (wpAny_mono h₂ (fun r s₃ h₃ => wpAny_bind (wpAny_letTemporaryGo (wpAny_pure h₃))) fun _ _ x => x)
  first
    | exact wpAny_pure (wpAny_bind fin)
    | exact wpAny_bind (wpAny_pure (wpAny_bind fin))
    | exact wpAny_bind fin

/-- d[y] = v -/
def sDPut (td ty tv : TE) : TS := fun D σ H => tv σ H fun v H1 => td σ H1 fun x H2 => ty σ H2 fun y H3 => ∃ a H4, x = .ref a ∧ DPut H3 a y v H4 ∧ D.nx σ H4
section
variable {X : Cx} {o i e value : Expr} {pos pos' tpos : Pos} {td ty tv : TE}
theorem ps_dput (hu : X.A.units + 1 < cLine) (ho : PE X o td) (hi : PE X i ty) (hv : PE X value tv) (hs : swapsWith value (some (.Subscript o i pos')) pos.line X.env = pure false) :
    PS X (.Assign [.Subscript o i pos'] value pos) (sDPut td ty tv) := by
  intro pins s σ H D I h
  refine wpAny_Assign_Subscript (thn (hv pins s σ H _ I h) fun r s1 ⟨v, H1, I1, rv, q1⟩ => thn (ho pins s1 σ H1 _ I1 q1) fun u s2 ⟨x, H2, I2, rx, q2⟩ => thn (hi pins s2 σ H2 _ I2 q2) fun iv s3 ⟨y, H3, I3, ry, a, H4, ex, g, q3⟩ => ?_) hs
  subst ex
  obtain rfl : u = Value.ref a := rx
  exact d_setItem hu I3 g ry rv fun s4 I4 => ⟨σ, H4, I4, q3⟩
end


theorem dk_empty {P : Program} {w : World} {H : Hp} (h : Heap) (hb : sysModules < h.objs.size) : ObjOk P w H (h.push { cls := .type "dict", data := .dict #[] }) h.objs.size (.dK []) :=
  ⟨Nat.zero_le _, beq_eq_false_iff_ne.mpr (Ne.symm (Nat.ne_of_lt hb)), [], .nil, Heap.DictOf.new h⟩
theorem dt_empty {P : Program} {w : World} {H : Hp} (h : Heap) (hb : sysModules < h.objs.size) : ObjOk P w H (h.push { cls := .type "dict", data := .dict #[] }) h.objs.size (.dT []) :=
  ⟨Nat.zero_le _, beq_eq_false_iff_ne.mpr (Ne.symm (Nat.ne_of_lt hb)), [], .nil, _, #[], 0, Heap.get?_push_size _ rfl, ⟨rfl, rfl, rfl⟩, rfl, rfl, List.nodup_nil⟩
/-- {}, to be a dict of the kind that is wanted -/
def tDNewK : TE := fun _ H Q => ∀ p, H p = none → Q (.ref p) (upd H p (.dK []))
def tDNewT : TE := fun _ H Q => ∀ p, H p = none → Q (.ref p) (upd H p (.dT []))
section
variable {X : Cx} {pos : Pos}
theorem pe_dnewK : PE X (.Dict [] [] pos) tDNewK := fun pins s σ H Q I h =>
  wpAny_Dict_empty ⟨.ref s.heap.objs.size, _, I.laid (a := s.heap.objs.size) (o := .dK []) (t' := s.toks) (fun _ _ q => Heap.get?_push_of_some _ q) (Nat.le_refl _) (dk_empty s.heap I.big), rfl, h _ (I.hok.fresh (Nat.le_refl _))⟩
theorem pe_dnewT : PE X (.Dict [] [] pos) tDNewT := fun pins s σ H Q I h =>
  wpAny_Dict_empty ⟨.ref s.heap.objs.size, _, I.laid (a := s.heap.objs.size) (o := .dT []) (t' := s.toks) (fun _ _ q => Heap.get?_push_of_some _ q) (Nat.le_refl _) (dt_empty s.heap I.big), rfl, h _ (I.hok.fresh (Nat.le_refl _))⟩
end

structure M2 (X : Cx) (o : Expr) (m : Str) (apos : Pos) (e f : Expr) (cpos : Pos) : Prop where
  base : attributeBase o m X.env (eval o X.env) = eval o X.env
  few : ((backTo cpos (starEach [e, f] X.env)).all (fun x => !x.1) && (backToKw cpos (keywordEach [] X.env)).all (fun x => x.1.isSome)
    && decide (([e, f] : List Expr).length + ([] : List Keyword).length + (if ([] : List Keyword).isEmpty then 0 else 1) < 30)) = true
  line : (apos.endLine == cpos.line) = true
  trees : backTo cpos (starEach [e, f] X.env) = [(false, eval e X.env), (false, eval f X.env)]

/-- a is a dict, whatever its keys -/
def IsD (H : Hp) (a : Addr) : Prop := (∃ kvs, Rd H a (.dK kvs)) ∨ ∃ kvs, Rd H a (.dT kvs)
theorem isD_at {X : Cx} {pins : List (Addr × Obj)} {σ : St} {H : Hp} {s : Shared} {a : Addr} (I : Inv X pins σ H s) (d : IsD H a) :
    s.TypeIs (.ref a) "dict" ∧ (∀ b, Value.ref a = .ref b → ∃ ob, s.heap.get? b = some ob ∧ ob.dict = none) ∧ (a == sysModules) = false := by
  rcases d with ⟨kvs, e⟩ | ⟨kvs, e⟩
  · obtain ⟨_, hd, vs, _, dd⟩ := dk_rd I.hok e
    refine ⟨dd.typeIs, fun b q => ?_, hd⟩
    cases q
    obtain ⟨ob, _, _, h1, h2, _⟩ := dd
    exact ⟨ob, h1, h2.2.1⟩
  · obtain ⟨_, hd, xs, _, dd⟩ := dt_rd I.hok e
    refine ⟨dd.typeIs, fun b q => ?_, hd⟩
    cases q
    obtain ⟨ob, _, _, h1, h2, _⟩ := dd
    exact ⟨ob, h1, h2.2.1⟩

section
variable {X : Cx} {pins : List (Addr × Obj)} {σ : St} {H : Hp} {s : Shared} {a : Addr} {y d : V} {u r : Value} {o : Option V} {A : Around} {E : Value → Shared → Prop}
/-- d.get(y, x) -/
theorem d_get2 {Q : Value → Shared → Prop} (hu : A.units + 1 < cLine) (I : Inv X pins σ H s) (g : DGet H a y o) (ry : RelV y u) (rd : RelV d r) (h : ∀ w' s', Inv X pins σ H s' → RelV (o.getD d) w' → Q w' s') :
    wpAny (model X.prog X.w) A (call (.builtin "dict.get") [.ref a, u, r]) Q E s := by
  rcases g with ⟨kvs, k, e, ey, l⟩ | ⟨kvs, k, b, e, ey, eb, l⟩
  · subst ey
    obtain ⟨z, hd, vs, rel, dd⟩ := dk_rd I.hok e
    refine call_meetsIn PySem.F.slot_dict_get dd.typeIs PySem.F.entry_dict_get (PySem.F.args_dict_get_3 _ _ _) (meets_dict_get_default (mixKind X.prog X.w) a (kV_is ry) hd r) ⟨_, dd.mapOf, h _ _ (I.tok _) ?_⟩
    rw [l]
    exact (rel.val k).getD rd
  · subst ey
    cases (show u = Value.ref b from ry)
    obtain ⟨z, hd, xs, rel, dd⟩ := dt_rd I.hok e
    refine call_meetsIn PySem.F.slot_dict_get dd.typeIs PySem.F.entry_dict_get (PySem.F.args_dict_get_3 _ _ _) (meetsH_dict_get_default (tupleKind (mixKind X.prog X.w)) a b hd r) ⟨tupleKind_room_in1 hu, k, xs, key_of I.hok eb, dd, h _ _ (I.tok _) ?_⟩
    rw [l]
    exact (rel.val k).getD rd
end

def tDGet2 (td ty tx : TE) : TE := fun σ H Q => td σ H fun x H1 => ∃ a, x = .ref a ∧ IsD H1 a ∧ ty σ H1 fun y H2 => tx σ H2 fun z H3 => ∃ o, DGet H3 a y o ∧ Q (o.getD z) H3
section
variable {X : Cx} {o e f : Expr} {apos cpos : Pos} {td ty tx : TE}
theorem pe_dget2 (hu : X.A.units + 1 < cLine) (ho : PE X o td) (he : PE X e ty) (hf : PE X f tx) (m : M2 X o "get" apos e f cpos) : PE X (.Call (.Attribute o "get" apos) [e, f] [] cpos) (tDGet2 td ty tx) := by
  intro pins s σ H Q I h
  refine wpAny_Call_method m.base m.few m.line PySem.F.plainAttrs_dict PySem.F.slot_dict_get PySem.F.type_dict_get (thn (ho pins s σ H _ I h) fun u s1 ⟨x, H1, I1, rx, a, ex, d, q1⟩ => ?_)
  subst ex
  obtain rfl : u = Value.ref a := rx
  obtain ⟨t1, t2, _⟩ := isD_at I1 d
  refine ⟨t1, t2, ?_⟩
  rw [m.trees]
  refine Calls.callWith_builtin rfl (Calls.evalArgs_plain (Calls.spliced_cons (thn (he pins s1 σ H1 _ I1 q1) fun iv s2 ⟨y, H2, I2, ry, q2⟩ =>
    Calls.spliced_cons (thn (hf pins s2 σ H2 _ I2 q2) fun fv s3 ⟨z, H3, I3, rz, ov, g, q3⟩ => Calls.spliced_nil ?_))))
  exact d_get2 hu I3 g ry rz fun w' s4 I4 rw' => ⟨_, H3, I4, rw', q3⟩
end

section
variable {X : Cx} {pins : List (Addr × Obj)} {σ : St} {H : Hp} {s : Shared} {a : Addr} {kvs : List (Key × V)} {A : Around} {E : Value → Shared → Prop}
end


section
variable {X : Cx} {pins : List (Addr × Obj)} {σ : St} {H : Hp} {s : Shared} {a : Addr} {y : V} {u : Value} {A : Around} {E : Value → Shared → Prop}
end
end L2

namespace L2
open PySem PySem.Spec PyProof.Rows

section
variable {prog : Program} {w : World} {A : Around} {E : Value → Shared → Prop}
end

section
variable {X : Cx}
end
end L2

namespace L2
open PySem PySem.Spec PyProof.Rows

section
variable {X : Cx} {pins : List (Addr × Obj)} {σ : St} {H : Hp} {s : Shared} {h' : Heap}
/-- several records of ours have turned -/
theorem Inv.turnedL {t' : Nat} {ch : List Addr} (I : Inv X pins σ H s) (k : ∀ b o, b ∉ ch → s.heap.get? b = some o → h'.get? b = some o) (hf : ∀ b ∈ ch, FpOk X pins H b) : Inv X pins σ H { s with heap := h', toks := t' } := by
  have nit : ∀ b u, H b = some u → b ∉ ch := fun b u e z => by
    have q := (hf b z).1
    rw [q] at e; cases e
  refine I.step (g' := s.gens) (d' := s.drawn) (ch := ch) (fun b hb => ⟨(hf b hb).2.2.2.1, (hf b hb).2.1, (hf b hb).2.2.2.2.1, (hf b hb).2.2.2.2.2⟩) (fun b o _ _ hc e _ => k b o hc e) (fun b o _ _ hc e _ => ⟨o.slots, k b o hc e⟩)
    (fun _ _ _ _ n => n) (fun b o hc e => ⟨o, k b o hc e⟩) (fun _ _ e => e) (fun _ _ _ e => e) (fun b ps e => ⟨#[], by rw [e]; simp⟩) (fun m hm => ?_) (fun b u e => ?_) I.bare
  · obtain ⟨o, es, ep, ho, r⟩ := hm
    exact ⟨o, es, ep, k _ o (fun z => (hf _ z).2.1 rfl) ho, r⟩
  · refine (I.hok b u e).stay (fun c v hc q => k c v ?_ q) (fun _ q => q) fun _ _ q => q
    rcases hc with z | z
    · rw [z]; exact nit b u e
    · exact nit c _ z
/-- .. and one new object is laid -/
theorem Inv.turnedNew {t' : Nat} {ch : List Addr} {T : Addr} {ob : HO} (I : Inv X pins σ H s) (k : ∀ b o, b ∉ ch → s.heap.get? b = some o → h'.get? b = some o) (hf : ∀ b ∈ ch, FpOk X pins H b) (hT : s.heap.objs.size ≤ T)
    (new : ObjOk X.prog X.w (upd H T ob) h' T ob) : Inv X pins σ (upd H T ob) { s with heap := h', toks := t' } := by
  have hn : H T = none := I.hok.fresh hT
  have nit : ∀ b u, H b = some u → b ∉ ch := fun b u e z => by
    have q := (hf b z).1
    rw [q] at e; cases e
  refine I.step (g' := s.gens) (d' := s.drawn) (ch := ch) (fun b hb => ⟨(hf b hb).2.2.2.1, (hf b hb).2.1, (hf b hb).2.2.2.2.1, (hf b hb).2.2.2.2.2⟩) (fun b o _ _ hc e _ => k b o hc e) (fun b o _ _ hc e _ => ⟨o.slots, k b o hc e⟩)
    (fun b o _ e n => ?_) (fun b o hc e => ⟨o, k b o hc e⟩) (fun b xs e => ?_) (fun b o u e => ?_) (fun b ps e => ⟨#[], ?_⟩) (fun m hm => ?_) (fun b u e => ?_) I.bare
  · rw [upd_ne (Nat.ne_of_lt (Nat.lt_of_lt_of_le (Heap.lt_size e) hT))]; exact n
  · rw [upd_ne (ne_of_none e hn)]; exact e
  · rw [upd_ne (ne_of_none e hn)]; exact e
  · rw [upd_ne (ne_of_none e hn), e]; simp
  · obtain ⟨o, es, ep, ho, r⟩ := hm
    exact ⟨o, es, ep, k _ o (fun z => (hf _ z).2.1 rfl) ho, r⟩
  · by_cases hb : b = T
    · subst hb
      rw [upd_same] at e
      cases e
      exact new
    · rw [upd_ne hb] at e
      refine (I.hok b u e).stay (fun c v hc q => k c v ?_ q) (fun c q => by rw [upd_ne (ne_of_none q hn)]; exact q) fun c xs q => by rw [upd_ne (ne_of_none q hn)]; exact q
      rcases hc with z | z
      · rw [z]; exact nit b u e
      · exact nit c _ z

theorem Inv.lock {d : Addr} {u : HO} (I : Inv X pins σ H s) (h : H d = some u) (mu : Mut (some u)) : ∃ od, Inv X pins σ (upd H d (.frz od u)) s := by
  have x := I.hok d u h
  have ex : ∃ od, s.heap.get? d = some od := by
    cases u with
    | lst xs => obtain ⟨_, _, _, _, e⟩ := x; exact ⟨_, e⟩
    | dK kvs => obtain ⟨_, _, _, _, o, _, _, e, _⟩ := x; exact ⟨o, e⟩
    | dT kvs => obtain ⟨_, _, _, _, o, _, _, e, _⟩ := x; exact ⟨o, e⟩
    | set S n => obtain ⟨o, _, _, _, e, _⟩ := x; exact ⟨o, e⟩
    | ins C dx fs => obtain ⟨_, _, _, e, _⟩ := x; exact ⟨_, e⟩
    | ext φ => obtain ⟨_, ⟨_, e⟩, _⟩ := x; exact ⟨_, e⟩
    | _ => exact False.elim mu
  obtain ⟨od, e⟩ := ex
  have new : ObjOk X.prog X.w (upd H d (.frz od u)) s.heap d (.frz od u) := by
    refine ⟨e, x.stay (fun b v _ q => q) (fun b q => ?_) fun b xs q => ?_⟩
    · rw [upd_ne (fun z => by rw [z, h] at q; cases q; exact mu)]; exact q
    · rw [upd_ne (fun z => by rw [z, h] at q; cases q; exact mu)]; exact q
  exact ⟨od, I.write (x := d) (e := d) (t' := s.toks) (h' := s.heap) (by rw [h]; exact mu) (.inl rfl) (fun b v _ q => q) ⟨od, e⟩ new⟩
end
section
variable {X : Cx}
theorem pi_one {tg : Expr} {pins : List (Addr × Obj)} {σ : St} {H : Hp} {s : Shared} {R : It → Hp → Prop} {J : It} {tn : Nat → Heap → Prop} {tk : Nat} (I : Inv X pins σ H s) (o : Obj)
    (T : Turn X.prog X.w X.K tg J [s.heap.objs.size] s.heap.objs.size tn) (st : tn 0 (s.heap.push o)) (q : R J H) : PIE X pins σ tg R (.ref s.heap.objs.size) { s with heap := s.heap.push o, toks := tk } := by
  refine ⟨s.heap.objs.size, [s.heap.objs.size], tn, J, H, rfl, I.kept fun b ob e => Heap.get?_push_of_some _ e, T, st, fun b hb => ?_, q⟩
  have e : b = s.heap.objs.size := by simpa using hb
  subst e
  exact I.fpOk (Nat.le_refl _) (I.hok.fresh (Nat.le_refl _))
end

section
variable {X : Cx} {tg : Expr}
end
section
variable {X : Cx} {tg : Expr}
end

section
variable {prog : Program} {w : World} {A : Around} {E : Value → Shared → Prop} {s : Shared}
end

theorem kv_get {κ : Type} {kvs : List (κ × V)} {vs : List (κ × Value)} (h : KV kvs vs) : ∀ {i : Nat} {k : κ} {v : V}, kvs[i]? = some (k, v) → ∃ u, vs[i]? = some (k, u) ∧ RelV v u := by
  unfold KV at h
  induction h with
  | nil => intro i k v e; simp at e
  | @cons a b l₁ l₂ r t ih =>
    intro i k v e
    cases i with
    | zero =>
      simp only [List.getElem?_cons_zero, Option.some.injEq] at e
      subst e
      refine ⟨b.2, ?_, r.2⟩
      simp only [List.getElem?_cons_zero]
      exact congrArg some (Prod.ext r.1.symm rfl)
    | succ j =>
      simp only [List.getElem?_cons_succ] at e ⊢
      exact ih e
theorem paired_get {α β : Type} {G : α → β → Prop} {l₁ : List α} {l₂ : List β} (h : Paired G l₁ l₂) : ∀ {i : Nat} {a : α}, l₁[i]? = some a → ∃ b, l₂[i]? = some b ∧ G a b := by
  induction h with
  | nil => intro i a e; simp at e
  | @cons a b l₁ l₂ r t ih =>
    intro i a' e
    cases i with
    | zero =>
      simp only [List.getElem?_cons_zero, Option.some.injEq] at e
      subst e
      exact ⟨b, rfl, r⟩
    | succ j =>
      simp only [List.getElem?_cons_succ] at e ⊢
      exact ih e
section
variable {X : Cx} {pins : List (Addr × Obj)} {σ : St} {H : Hp} {s : Shared} {d : Addr} {o : Obj}
theorem Inv.frzK {kvs : List (Key × V)} (I : Inv X pins σ H s) (h : H d = some (.frz o (.dK kvs))) :
    (d == sysModules) = false ∧ s.heap.get? d = some o ∧ o.ExactDict ∧ ∃ (es : Array DictEntry) (ep : Nat) (vs : List (Key × Value)), o.data = .dict es ep ∧ es.size = kvs.length ∧ KV kvs vs ∧ s.heap.DictAt (mixKind X.prog X.w) d vs ep := by
  obtain ⟨hd, z, hs, vs, kv, o', es, ep, ho, hx, hdt, r⟩ := I.hok d _ h
  rw [hd] at ho
  cases ho
  refine ⟨hs, hd, hx, es, ep, vs, hdt, ?_, kv, o, es, hd, hx, hdt, r⟩
  have l1 := r.2.1.length
  have l2 : kvs.length = vs.length := Paired.length kv
  rw [Array.length_toList] at l1
  omega
end

/-- the values -/
def Itd (d : Addr) (o : Obj) (kvs : List (Key × V)) : It :=
  ⟨fun i H => H d = some (.frz o (.dK kvs)) ∧ i < kvs.length, fun i H x H' => H' = H ∧ ∃ k, kvs[i]? = some (k, x), fun i H => H d = some (.frz o (.dK kvs)) ∧ kvs.length ≤ i⟩
theorem dict_ep {o : Obj} {es es' : Array DictEntry} {ep ep' : Nat} (h : o.data = .dict es ep) (h' : o.data = .dict es' ep') : es' = es ∧ ep' = ep := by
  rw [h] at h'
  cases h'
  exact ⟨rfl, rfl⟩
section
variable {P : Program} {w : World} {K : PySem.W.Frag} {tg : Expr} {d : Addr} {o : Obj} {es : Array DictEntry} {ep : Nat}
theorem turn_vals {kvs : List (Key × V)} (it : Addr) (hod : o.data = .dict es ep) : Turn P w K tg (Itd d o kvs) [it] it (fun i h => h.IsValIter it d i kvs.length ep) where
  mem := by simp
  obj := fun i h st b hb => by
    have e : b = it := by simpa using hb
    subst e
    obtain ⟨oi, e, c, dd⟩ := st
    exact ⟨oi, e, fun v z => by rw [dd] at z; cases z⟩
  keep := fun i h h' st k => st.at fun oi e => k it (by simp) oi e
  item := by
    intro X hP hw hK hc i pins s σ H E I hf st hg
    subst hP hw hK
    obtain ⟨hd, hi⟩ := hg
    obtain ⟨f0, f1, f2, f3, f4, f5⟩ := hf it (by simp)
    obtain ⟨hs, hgd, hx, es', ep', vs, hdt, hsz, kv, hm⟩ := I.frzK hd
    obtain ⟨rfl, rfl⟩ := dict_ep hod hdt
    obtain ⟨⟨k, v⟩, hkv⟩ : ∃ p, kvs[i]? = some p := ⟨kvs[i], List.getElem?_eq_getElem hi⟩
    obtain ⟨u, hu, ru⟩ := kv_get kv hkv
    have hl : kvs.length = vs.length := Paired.length kv
    rw [hl] at st
    refine wpAny_pyNext_values_item st hm hu fun h' st' sb => ?_
    have I1 : Inv X pins σ H { s with heap := h' } := I.turned (t' := s.toks) (fun b ob hb e => (sb.2 b hb).trans e) f0 f1 f3 f4 f5
    obtain ⟨oi, e, c, dd⟩ := id st'
    refine ⟨u, rfl, go_of (s := { s with heap := h' }) e c dd (by decide) ⟨v, H, I1, ru, ⟨rfl, k, hkv⟩, ?_, fun b hb => (hf b hb).1⟩⟩
    show h'.IsValIter it d (i + 1) kvs.length _
    rw [hl]
    exact st'
  done := by
    intro X hP hw hK hc i pins s σ H E I hf st hg
    subst hP hw hK
    obtain ⟨hd, hi⟩ := hg
    obtain ⟨f0, f1, f2, f3, f4, f5⟩ := hf it (by simp)
    obtain ⟨hs, hgd, hx, es', ep', vs, hdt, hsz, kv, hm⟩ := I.frzK hd
    obtain ⟨rfl, rfl⟩ := dict_ep hod hdt
    have hl : kvs.length = vs.length := Paired.length kv
    rw [hl] at st
    exact wpAny_pyNext_values_end (I.ok.hd hc) st hm (List.getElem?_eq_none (by omega)) fun h' eb => ⟨rfl, I.turned (t' := s.toks) (fun b ob hb e => eb b ob hb e) f0 f1 f3 f4 f5⟩
  self := fun A i s Q E st h => wpAny_pyIter_valiter st h
end

section
variable {X : Cx} {tg e : Expr} {td : TE} {apos cpos : Pos}
end

theorem boot_zip5 : bootBuiltins "zip" = some (.type "zip") := by decide +kernel
/-- the lists at a and b as they stand at each turn, the items in new pairs -/
def Itz (K : PySem.W.Frag) (a b : Addr) : It :=
  ⟨fun i H => ∃ (xs ys : List V) (x y : V), SqL K H a xs ∧ SqL K H b ys ∧ xs[i]? = some x ∧ ys[i]? = some y,
    fun i H v H' => ∃ T x y, v = .ref T ∧ H T = none ∧ H' = upd H T (.tup [x, y]) ∧ (∀ xs, SqL K H a xs → xs[i]? = some x) ∧ ∀ ys, SqL K H b ys → ys[i]? = some y,
    fun i H => ∃ xs ys : List V, SqL K H a xs ∧ SqL K H b ys ∧ (xs.length ≤ i ∨ ys.length ≤ i)⟩
end L2

section 
namespace Bits
open PySem PyProof.Rows

end Bits
end 

section 
namespace TL
open PySem PySem.Builtin PySem.Builtin.Str PySem.StrLaws

end TL
end 

namespace L2
open PySem PySem.Spec PyProof.Rows

section
variable {X : Cx} {pins : List (Addr × Obj)} {σ : St} {H : Hp} {s : Shared} {Q : VK}
end

section
variable {X : Cx}

end

section
variable {X : Cx} {o e : Expr} {to te : TE}
end
end L2

namespace L2
open PySem PySem.Spec PyProof.Rows

section
variable {X : Cx}
end

end L2

namespace Att
open PySem PySem.W PySem.Calls PyProof.Rows

section
variable {prog : Program} {w : World} {A : Around} {E : Value → Shared → Prop} {s : Shared} {K : Frag}

end
end Att

namespace L2
open PySem PySem.Spec PyProof.Rows

end L2

namespace L2
open PySem PySem.Spec PyProof.Rows

end L2

/- THE LAST THEOREM (shape; LID, My.* are yours):
   My.Adr: a structure of the addresses that your layer names (classes, functions); My.Txt K t: a structure (Prop) of the equations over K;
   My.txt_mk : {K} {implicit addresses ..} (e1 : nsIn K mainGlobals "law" = some (some (.ref f))) (e2 : K.lookup f = some ⟨oc, od, .func (fnOf "law" "law" params body scope dV kV doc pm an cdv ct), sl⟩) (e3 : codeIn K cdv "law" = true) .. : ∃ t, My.Txt K t

set_option maxRecDepth 100000 in
set_option maxHeartbeats 0 in
theorem cw_LID_holds : PySem.Challenge.rw_LID.Holds := by
  w_on; o_law; k_head; (case hw => w_witness2)
  k_fill
  refine L2.walk_of (l := PySem.Challenge.rw_LID) (n := 63) (k := 40) (x := "script") (CX := fun w => ..) (sp := fun _ => My.sp_law) rfl (by decide) rfl ⟨rfl, by decide, by decide⟩ (fun w h Y => PySem.W.kIn_of Y) ?F ?S ?C
  case F =>
    intro w mg fa h KX G hmg
    have T : ∃ t, My.Txt (L2.KOf KX) t := by
      dsimp only [L2.KOf]                          -- K must stand as «<heap const> w.params» for k_is
      refine' My.txt_mk ?e1 ?e2 ?e3 ..
      (case e1 => PySem.W.k_is)                    -- in the order: a name -> its address -> its object -> its parts
      (case e2 => PySem.W.k_is)
      ..
    obtain ⟨t, T⟩ := T
    have e0 := hmg.symm.trans (PySem.W.mg_of KX G T.law)
    cases e0                                       -- fa is the law's own address
    exact ⟨_, fun s u => .of_eq rfl, fun base kb nb => My.law_fn T kb nb⟩     -- if «.of_eq rfl» comes too early: refine' ⟨_, ?b, fun base kb nb => My.law_fn T kb nb⟩; exact fun s u => .of_eq rfl
  case S => exact fun w H a ns hl hO hS => ..
  case C => exact ..
(the tactic k_is has no namespace: write k_is) -/

namespace L2
open PySem PySem.Spec PyProof.Rows

/-- the j-th statement of a class's body -/
def inClass (s : Stmt) (j : Nat) : Stmt := match s with
  | .ClassDef _ _ _ body _ _ _ _ _ _ _ => body.getD j (.Pass ⟨0, 0, 0, 0⟩)
  | _ => .Pass ⟨0, 0, 0, 0⟩
def defArgs (s : Stmt) : Arguments := match s with
  | .FunctionDef _ a _ _ _ _ _ _ _ _ => a
  | _ => { posonlyargs := [], args := [], vararg := none, kwonlyargs := [], kw_defaults := [], kwarg := none, defaults := [] }
def defBody (s : Stmt) : List Stmt := match s with
  | .FunctionDef _ _ b _ _ _ _ _ _ _ => b
  | _ => []
def defScope (s : Stmt) : Scope := match s with
  | .FunctionDef _ _ _ _ _ _ sc _ _ _ => sc
  | _ => { kind := .function, names := [], isGenerator := false, isCoroutine := false }

abbrev CX0 : CXT := fun _ _ _ _ _ _ => False
abbrev E0 : XK := fun _ _ _ => False
theorem pass0 {X : Cx} : Passes CX0 X E0 := fun _ _ _ _ _ _ _ h => h.elim

structure Fun (K : PySem.W.Frag) (x qual : Str) (st : Stmt) (f : Addr) (fd : FuncData) : Prop where
  ex : ∃ (oc : Value) (od : Option Addr) (kV doc pm : Value) (an : Option Addr) (cdv ct : Value) (osl : Array (Option Value)),
    fd = PySem.W.fnOf x qual (defArgs st) (defBody st) (defScope st) .none kV doc pm an cdv ct ∧ K.lookup f = some ⟨oc, od, .func fd, osl⟩ ∧ PySem.W.codeIn K cdv qual = true
  kp : PySem.W.keepIn K (.ref f) = true
section
variable {P : Program} {w : World} {K : PySem.W.Frag} {mg : Str → Option Value} {base : Heap}
/-- THE RULE for a def: its body as a term of rules, and the reading of that term -/
theorem Fun.ok {x qual : Str} {st : Stmt} {f : Addr} {fd : FuncData} {N ps : List Str} {k : Nat} {sp : Sp} (F : Fun K x qual st f fd) (S : FnScope N ps (defScope st)) (len : ∀ vs H Q E, sp vs H Q E → vs.length = ps.length)
    (hbody : ∀ (cdv : Value) (A : Around) (outer : List Env) (s : Shared) (H : Hp) (vs : List V) (Q : VK) (E : XK), Room k (A.deeper (envOfC qual (defScope st) s.heap.objs.size f cdv)) → sp vs H Q E →
      ∃ t, PSs (cxOf CX0 P w K mg base N qual (defScope st) f cdv A outer s H E).nox (defBody st) t ∧ t { nx := fun _ H' => Q .non H', rt := Q } (start N vs) H) : FnOk P w K mg base CX0 (k + 1) f fd ps sp := by
  obtain ⟨oc, od, kV, doc, pm, an, cdv, ct, osl, rfl, lk, hcd⟩ := F.ex
  refine fn_of lk hcd S len fun A outer s H vs Q E hr hsp => ?_
  obtain ⟨t, h, q⟩ := hbody cdv A outer s H vs Q E hr hsp
  exact ⟨t, h.nox, q⟩
/-- how its arguments bind (no defaults): h is «fun _ _ _ _ _ _ us hl => match us, hl with | [_, _], _ => rfl», one _ a parameter -/
theorem Fun.binds {x qual : Str} {st : Stmt} {f : Addr} {fd : FuncData} {ps : List Str} (F : Fun K x qual st f fd)
    (h : ∀ (kV doc pm : Value) (an : Option Addr) (cdv ct : Value) (us : List Value), us.length = ps.length → bindArgs (PySem.W.fnOf x qual (defArgs st) (defBody st) (defScope st) .none kV doc pm an cdv ct) ⟨us, []⟩ = pure (ps.zip us)) : Binds K fd ps [] := by
  obtain ⟨oc, od, kV, doc, pm, an, cdv, ct, osl, rfl, lk, hcd⟩ := F.ex
  exact .all (h kV doc pm an cdv ct)
theorem fun_mk {x qual : Str} {st : Stmt} {f : Addr} {oc : Value} {od an : Option Addr} {osl : Array (Option Value)} {kV doc pm cdv ct : Value} (l : K.lookup f = some ⟨oc, od, .func (PySem.W.fnOf x qual (defArgs st) (defBody st) (defScope st) .none kV doc pm an cdv ct), osl⟩)
    (c : PySem.W.codeIn K cdv qual = true) (k : PySem.W.keepIn K (.ref f) = true) : Fun K x qual st f (PySem.W.fnOf x qual (defArgs st) (defBody st) (defScope st) .none kV doc pm an cdv ct) := ⟨⟨oc, od, kV, doc, pm, an, cdv, ct, osl, rfl, l, c⟩, k⟩
end
theorem hu_of {A : Around} {k : Nat} (hr : Room k A) : A.units + 1 < cLine := Nat.lt_of_le_of_lt (Nat.add_le_add_left (by decide : 1 ≤ 64) _) hr.units
section
variable {X : Cx}
theorem pv (i : Nat) {x : Str} {pos : Pos} (hN : X.N[i]? = some x := by rfl) (hv : Vis X.env.scope x := by first | exact Or.inl rfl | exact Or.inr (Or.inl rfl) | exact Or.inr (Or.inr rfl)) (hd : (x == ("__debug__" : Str)) = false := by decide)
    (hcd : (x == ("__classdict__" : Str)) = false := by decide) : PE X (.Name x pos) (tVar i) := pe_var hN hv hd hcd
end

theorem iteF {A B : Prop} (h : B) : if false = true then A else B := by
  rw [if_neg Bool.false_ne_true]
  exact h
theorem iteT {A B : Prop} (h : A) : if true = true then A else B := by
  rw [if_pos rfl]
  exact h
theorem ite2 {c A B : Prop} [Decidable c] (h1 : c → A) (h2 : ¬ c → B) : if c then A else B := by
  by_cases h : c
  · rw [if_pos h]
    exact h1 h
  · rw [if_neg h]
    exact h2 h
/-- all that was tracked is as it was -/
def Same (H H' : Hp) : Prop := ∀ b o, H b = some o → H' b = some o
theorem Same.refl (H : Hp) : Same H H := fun _ _ h => h
theorem Same.trans {H H1 H2 : Hp} (a : Same H H1) (b : Same H1 H2) : Same H H2 := fun c o h => b c o (a c o h)
theorem Same.free {H H' : Hp} (e : Same H H') {l : Addr} (h : H' l = Option.none) : H l = Option.none := by
  cases q : H l with
  | none => rfl
  | some o =>
    rw [e l o q] at h
    cases h
theorem Same.seq {K : PySem.W.Frag} {H H' : Hp} {a : Addr} {xs : List V} (e : Same H H') (h : SqL K H a xs) : SqL K H' a xs := by
  rcases h with (h | ⟨o, h⟩) | h
  · exact .inl (.inl (e _ _ h))
  · exact .inl (.inr ⟨o, e _ _ h⟩)
  · exact .inr h

section
variable {κ : Type} [DecidableEq κ]
theorem nd_snoc : ∀ {l : List κ} {k : κ}, l.Nodup → ¬ k ∈ l → (l ++ [k]).Nodup
  | [], k, _, _ => by simp
  | a :: r, k, h, hk => by
    obtain ⟨h1, h2⟩ := List.nodup_cons.mp h
    show (a :: (r ++ [k])).Nodup
    refine List.nodup_cons.mpr ⟨fun m => ?_, nd_snoc h2 fun m => hk (List.mem_cons.mpr (Or.inr m))⟩
    rcases List.mem_append.mp m with q | q
    · exact h1 q
    · exact hk (List.mem_cons.mpr (Or.inl (List.mem_singleton.mp q).symm))
end
theorem at_of {xs : List V} {z : Int} {j : Nat} {v : V} (e : z = (j : Int)) (h : xs[j]? = some v) : atI xs z = some v := by
  rw [e]
  exact atI_nat h
/-- a new instance and its __init__ leave all that was tracked as it was -/
theorem Same.made {H H1 : Hp} {x dx C : Addr} (nx : H x = Option.none) (nd : H dx = Option.none) (k : ∀ b o, (upd (upd H dx (.own x)) x (.ins C dx [])) b = some o → b ≠ x → H1 b = some o) : Same H H1 := fun b o e =>
  k b o (by rw [upd_ne (ne_of_none e nx), upd_ne (ne_of_none e nd)]; exact e) (ne_of_none e nx)
end L2

section
set_option Elab.async false
set_option linter.all false
set_option maxRecDepth 100000
set_option maxHeartbeats 2000000
namespace L2
open PySem PySem.Spec PyProof.Rows
open PySem.W (WData Codec OpenSpec Well WellAll ReadsW ReadsAllW)
mutual
/-- x stands for the datum d, lists and tuples all the way -/
inductive Dw (K : PySem.W.Frag) (H : Hp) : V → WData → Prop
  | non : Dw K H .non .none
  | bl (b : Bool) : Dw K H (.bl b) (.bool b)
  | int (i : Int) : Dw K H (.int i) (.int i)
  | str (x : Str) : Dw K H (.str x) (.str x)
  | byt (b : Array UInt8) : Dw K H (.byt b) (.bytes b.toList)
  | lst {a : Addr} {xs : List V} {ds : List WData} : SqL K H a xs → DwAll K H xs ds → Dw K H (.ref a) (.list ds)
  | tup {a : Addr} {xs : List V} {ds : List WData} : SqT K H a xs → DwAll K H xs ds → Dw K H (.ref a) (.tuple ds)
inductive DwAll (K : PySem.W.Frag) (H : Hp) : List V → List WData → Prop
  | nil : DwAll K H [] []
  | cons {v : V} {vs : List V} {d : WData} {ds : List WData} : Dw K H v d → DwAll K H vs ds → DwAll K H (v :: vs) (d :: ds)
end
theorem dw_ints {K : PySem.W.Frag} {H : Hp} : ∀ ns : List Int, DwAll K H (ns.map V.int) (ns.map WData.int)
  | [] => .nil
  | n :: r => .cons (.int n) (dw_ints r)
theorem ints_dw {K : PySem.W.Frag} {H : Hp} : ∀ (ns : List Int) (xs : List V), DwAll K H xs (ns.map WData.int) → xs = ns.map V.int
  | [], xs, h => by
    cases h
    rfl
  | n :: r, xs, h => by
    cases h with
    | cons h1 h2 =>
      cases h1
      rw [ints_dw r _ h2] <;> rfl
section
variable {P : Program} {w : World} {K : PySem.W.Frag} {H : Hp} {h : Heap} {R : PySem.W.WRecords} {cl : Str → Option Addr}
theorem sqL_at {a : Addr} {xs : List V} (hok : HOk P w H h) (KX : K.In h) (q : SqL K H a xs) : ∃ (its : List Value) (o : Obj) (n : Nat), Vals xs its ∧ h.get? a = some o ∧ o.cls = .type "list" ∧ o.data = .seq its.toArray n := by
  rcases q with q | ⟨o, its, n, e, hc, _, hd, _, hv⟩
  · obtain ⟨_, its, n, hv, e⟩ := (show ObjOk P w H h a (.lst xs) from q.ok hok)
    exact ⟨its, _, n, hv, e, rfl, rfl⟩
  · exact ⟨its.toList, o, n, hv, KX _ _ e, hc, by simp [hd]⟩
theorem sqT_at {a : Addr} {xs : List V} (hok : HOk P w H h) (KX : K.In h) (q : SqT K H a xs) : ∃ (its : List Value) (o : Obj) (n : Nat), Vals xs its ∧ h.get? a = some o ∧ o.cls = .type "tuple" ∧ o.data = .seq its.toArray n := by
  rcases q with q | ⟨o, its, n, e, hc, hd, _, hv⟩
  · obtain ⟨_, its, hv, o, e, hc, n, hd⟩ := (show ObjOk P w H h a (.tup xs) from q.ok hok)
    exact ⟨its, o, n, hv, e, hc, hd⟩
  · exact ⟨its.toList, o, n, hv, KX _ _ e, hc, by simp [hd]⟩
mutual
theorem Dw.reads (hok : HOk P w H h) (KX : K.In h) : ∀ (d : WData) (v : V) (u : Value), Dw K H v d → RelV v u → ∃ as, ReadsW R cl h u d as
  | .none, _, _, x, r => by
    cases x
    cases r
    exact ⟨_, ReadsW.none⟩
  | .bool b, _, _, x, r => by
    cases x
    cases r
    exact ⟨_, ReadsW.bool b⟩
  | .int i, _, _, x, r => by
    cases x
    obtain ⟨t, rfl⟩ := r
    exact ⟨_, ReadsW.int i t⟩
  | .str s, _, _, x, r => by
    cases x
    obtain ⟨t, rfl⟩ := r
    exact ⟨_, ReadsW.str s t⟩
  | .bytes b, _, _, x, r => by
    cases x
    obtain ⟨t, rfl⟩ := r
    exact ⟨_, ReadsW.bytes _ t⟩
  | .list ds, _, _, x, r => by
    cases x with
    | lst hs ha =>
      cases r
      obtain ⟨its, o, n, rv, ho, hc, hd⟩ := sqL_at hok KX hs
      obtain ⟨as, hr⟩ := Dw.readsAll hok KX ds _ its ha rv
      exact ⟨_, ReadsW.list ho hc hd hr⟩
  | .tuple ds, _, _, x, r => by
    cases x with
    | tup hs ha =>
      cases r
      obtain ⟨its, o, n, rv, ho, hc, hd⟩ := sqT_at hok KX hs
      obtain ⟨as, hr⟩ := Dw.readsAll hok KX ds _ its ha rv
      exact ⟨_, ReadsW.tuple ho hc hd hr⟩
  | .float _, _, _, x, _ => by cases x
  | .dict _, _, _, x, _ => by cases x
  | .bytearray _, _, _, x, _ => by cases x
  | .set _, _, _, x, _ => by cases x
  | .frozenset _, _, _, x, _ => by cases x
  | .obj _ _, _, _, x, _ => by cases x
theorem Dw.readsAll (hok : HOk P w H h) (KX : K.In h) : ∀ (ds : List WData) (vs : List V) (us : List Value), DwAll K H vs ds → Vals vs us → ∃ as, ReadsAllW R cl h us ds as
  | [], _, _, x, r => by
    cases x
    cases r
    exact ⟨_, ReadsAllW.nil⟩
  | d :: ds, _, _, x, r => by
    cases x with
    | cons h1 h2 =>
      cases r with
      | cons r1 r2 =>
        obtain ⟨as, q1⟩ := Dw.reads hok KX d _ _ h1 r1
        obtain ⟨bs, q2⟩ := Dw.readsAll hok KX ds _ _ h2 r2
        exact ⟨_, ReadsAllW.cons q1 q2⟩
end
end
mutual
/-- data that a codec tells -/
def plW : WData → Bool
  | .none => true
  | .bool _ => true
  | .int _ => true
  | .str _ => true
  | .bytes _ => true
  | .list xs => plWs xs
  | .tuple xs => plWs xs
  | _ => false
def plWs : List WData → Bool
  | [] => true
  | x :: r => plW x && plWs r
end
theorem plWs_map {α : Type} {f : α → WData} (h : ∀ a, plW (f a) = true) : ∀ l : List α, plWs (l.map f) = true
  | [] => rfl
  | x :: r => by
    show (plW (f x) && plWs (r.map f)) = true
    rw [h x, plWs_map h r] <;> rfl
theorem pl_enc : ∀ (c : Codec) (a : c.denote), plW (c.enc a) = true
  | .unit, _ => rfl
  | .bool, _ => rfl
  | .int _ _, _ => rfl
  | .nat _ _, _ => rfl
  | .u8, _ => rfl
  | .bytes _ _, _ => rfl
  | .text _ _ _ _, _ => rfl
  | .list _ _ c, a => plWs_map (fun x => pl_enc c x) a
  | .pair c d, a => by
    show (plW (c.enc a.1) && (plW (d.enc a.2) && true)) = true
    rw [pl_enc c a.1, pl_enc d a.2] <;> rfl
  | .triple c d e, a => by
    show (plW (c.enc a.1) && (plW (d.enc a.2.1) && (plW (e.enc a.2.2) && true))) = true
    rw [pl_enc c a.1, pl_enc d a.2.1, pl_enc e a.2.2] <;> rfl
  | .option c, none => rfl
  | .option c, some x => pl_enc c x
theorem pl_encAll : ∀ (cs : List Codec) (a : Codec.denoteAll cs), plWs (Codec.encAll cs a) = true
  | [], _ => rfl
  | c :: cs, a => by
    show (plW (c.enc a.1) && plWs (Codec.encAll cs a.2)) = true
    rw [pl_enc c a.1, pl_encAll cs a.2] <;> rfl
theorem weight_mem : ∀ {xs : List WData} {d : WData}, d ∈ xs → d.weight ≤ WData.weightAll xs
  | [], d, h => absurd h (by simp)
  | x :: r, d, h => by
    show d.weight ≤ x.weight + 1 + WData.weightAll r
    rcases List.mem_cons.mp h with e | m
    · rw [e]
      omega
    · have z := weight_mem m
      omega
def toV : Value → V
  | .none => .non
  | .bool b => .bl b
  | .int i _ => .int i
  | .str x _ => .str x
  | .bytes b _ => .byt b
  | .ref a => .ref a
  | _ => .non
/-- a value of the arguments, its objects among A -/
def OkU (A : List Addr) : Value → Prop
  | .none => True
  | .bool _ => True
  | .int _ _ => True
  | .str _ _ => True
  | .bytes _ _ => True
  | .ref a => a ∈ A
  | _ => False
theorem OkU.mono {A B : List Addr} (h : ∀ a ∈ A, a ∈ B) : ∀ {u : Value}, OkU A u → OkU B u := fun {u} x => by
  cases u with
  | ref a => exact h a x
  | none => trivial
  | bool b => trivial
  | int i t => trivial
  | str s t => trivial
  | bytes b t => trivial
  | _ => exact False.elim x
theorem relV_toV {A : List Addr} {u : Value} (x : OkU A u) : RelV (toV u) u := by
  cases u with
  | ref a => rfl
  | none => rfl
  | bool b => rfl
  | int i t => exact ⟨t, rfl⟩
  | str s t => exact ⟨t, rfl⟩
  | bytes b t => exact ⟨t, rfl⟩
  | _ => exact False.elim x
theorem vals_toV {A : List Addr} : ∀ {vs : List Value}, (∀ u ∈ vs, OkU A u) → Vals (vs.map toV) vs
  | [], _ => .nil
  | u :: r, h => .cons (relV_toV (h u (List.mem_cons_self ..))) (vals_toV fun x hx => h x (List.mem_cons_of_mem _ hx))
/-- an object of the arguments -/
def ArgOb (h : Heap) (A : List Addr) (a : Addr) : Prop := ∃ vs : List Value, vs.length ≤ sizeLine ∧ (∀ u ∈ vs, OkU A u) ∧
  (h.get? a = some { cls := .type "list", data := .seq vs.toArray } ∨ h.get? a = some { cls := .type "tuple", data := .seq vs.toArray })
theorem ArgOb.mono {h : Heap} {A B : List Addr} {a : Addr} (k : ∀ a ∈ A, a ∈ B) (x : ArgOb h A a) : ArgOb h B a := by
  obtain ⟨vs, h1, h2, h3⟩ := x
  exact ⟨vs, h1, fun u hu => (h2 u hu).mono k, h3⟩
theorem wellAll_len {P : Params} {h : Heap} : ∀ {vs : List Value} {ds : List WData}, WellAll P h vs ds → vs.length = ds.length
  | _, _, .nil => rfl
  | _, _, .cons _ b => by
    show _ + 1 = _ + 1
    rw [wellAll_len b]
theorem well_list {P : Params} {h : Heap} {v : Value} {ds : List WData} (x : Well P h v (.list ds)) : ∃ (a : Addr) (vs : List Value), v = .ref a ∧ h.get? a = some { cls := .type "list", data := .seq vs.toArray } ∧ WellAll P h vs ds := by
  cases x with
  | list ho hall => exact ⟨_, _, rfl, ho, hall⟩
theorem well_tuple {P : Params} {h : Heap} {v : Value} {ds : List WData} (x : Well P h v (.tuple ds)) : ∃ (a : Addr) (vs : List Value), v = .ref a ∧ h.get? a = some { cls := .type "tuple", data := .seq vs.toArray } ∧ WellAll P h vs ds := by
  cases x with
  | tuple ho hall => exact ⟨_, _, rfl, ho, hall⟩
theorem well_cons {P : Params} {h : Heap} {us : List Value} {d : WData} {ds : List WData} (x : WellAll P h us (d :: ds)) : ∃ (v : Value) (vs : List Value), us = v :: vs ∧ Well P h v d ∧ WellAll P h vs ds := by
  cases x with
  | cons a b => exact ⟨_, _, rfl, a, b⟩
theorem line_of {n : Nat} (h : n ≤ 1048576) : n ≤ sizeLine := Nat.le_trans h (by decide)
section
variable {P : Params} {h : Heap}
mutual
theorem area_one : ∀ (d : WData) (v : Value), Well P h v d → plW d = true → d.weight ≤ 1048576 → ∃ A : List Addr, OkU A v ∧ ∀ a ∈ A, ArgOb h A a
  | .none, _, x, _, _ => by
    cases x
    exact ⟨[], trivial, fun a m => absurd m (by simp)⟩
  | .bool b, _, x, _, _ => by
    cases x
    exact ⟨[], trivial, fun a m => absurd m (by simp)⟩
  | .int i, _, x, _, _ => by
    cases x
    exact ⟨[], trivial, fun a m => absurd m (by simp)⟩
  | .str s, _, x, _, _ => by
    cases x
    exact ⟨[], trivial, fun a m => absurd m (by simp)⟩
  | .bytes b, _, x, _, _ => by
    cases x
    exact ⟨[], trivial, fun a m => absurd m (by simp)⟩
  | .list ds, _, x, p, z => by
    obtain ⟨a, vs, rfl, ho, hall⟩ := well_list x
    have z2 : WData.weightAll ds ≤ 1048576 := z
    obtain ⟨A, h1, h2⟩ := area_all ds _ hall p fun d hd => Nat.le_trans (weight_mem hd) z2
    have k : ∀ b ∈ A, b ∈ a :: A := fun b hb => List.mem_cons_of_mem _ hb
    refine ⟨a :: A, List.mem_cons_self .., fun b hb => ?_⟩
    rcases List.mem_cons.mp hb with e | m
    · rw [e]
      exact ⟨vs, line_of (by rw [wellAll_len hall]; exact Nat.le_trans (PySem.W.length_le_weightAllW ds) z2), fun u hu => (h1 u hu).mono k, .inl ho⟩
    · exact (h2 b m).mono k
  | .tuple ds, _, x, p, z => by
    obtain ⟨a, vs, rfl, ho, hall⟩ := well_tuple x
    have z2 : WData.weightAll ds ≤ 1048576 := z
    obtain ⟨A, h1, h2⟩ := area_all ds _ hall p fun d hd => Nat.le_trans (weight_mem hd) z2
    have k : ∀ b ∈ A, b ∈ a :: A := fun b hb => List.mem_cons_of_mem _ hb
    refine ⟨a :: A, List.mem_cons_self .., fun b hb => ?_⟩
    rcases List.mem_cons.mp hb with e | m
    · rw [e]
      exact ⟨vs, line_of (by rw [wellAll_len hall]; exact Nat.le_trans (PySem.W.length_le_weightAllW ds) z2), fun u hu => (h1 u hu).mono k, .inr ho⟩
    · exact (h2 b m).mono k
  | .float _, _, _, p, _ => Bool.noConfusion (show false = true from p)
  | .dict _, _, _, p, _ => Bool.noConfusion (show false = true from p)
  | .bytearray _, _, _, p, _ => Bool.noConfusion (show false = true from p)
  | .set _, _, _, p, _ => Bool.noConfusion (show false = true from p)
  | .frozenset _, _, _, p, _ => Bool.noConfusion (show false = true from p)
  | .obj _ _, _, _, p, _ => Bool.noConfusion (show false = true from p)
theorem area_all : ∀ (ds : List WData) (vs : List Value), WellAll P h vs ds → plWs ds = true → (∀ d ∈ ds, d.weight ≤ 1048576) → ∃ A : List Addr, (∀ u ∈ vs, OkU A u) ∧ ∀ a ∈ A, ArgOb h A a
  | [], _, x, _, _ => by
    cases x
    exact ⟨[], fun u m => absurd m (by simp), fun a m => absurd m (by simp)⟩
  | d :: ds, _, x, p, z => by
    obtain ⟨v, vs, rfl, x1, x2⟩ := well_cons x
    have q : plW d = true ∧ plWs ds = true := Bool.and_eq_true_iff.mp p
    obtain ⟨A, a1, a2⟩ := area_one d v x1 q.1 (z d (List.mem_cons_self ..))
    obtain ⟨B, b1, b2⟩ := area_all ds vs x2 q.2 fun e he => z e (List.mem_cons_of_mem _ he)
    have kA : ∀ b ∈ A, b ∈ A ++ B := fun b hb => List.mem_append.mpr (.inl hb)
    have kB : ∀ b ∈ B, b ∈ A ++ B := fun b hb => List.mem_append.mpr (.inr hb)
    refine ⟨A ++ B, fun u hu => ?_, fun b hb => ?_⟩
    · rcases List.mem_cons.mp hu with e | m
      · rw [e]
        exact a1.mono kA
      · exact (b1 u m).mono kB
    · rcases List.mem_append.mp hb with m | m
      · exact (a2 b m).mono kA
      · exact (b2 b m).mono kB
end
end
/-- what is tracked of an argument's object -/
def hoOf (o : Obj) : Option HO := match o.data with
  | .seq vs _ => if (o.cls == Value.type "list") = true then some (.frz o (.lst (vs.toList.map toV))) else some (.frz o (.tup (vs.toList.map toV)))
  | _ => none
def argH (K : PySem.W.Frag) (h : Heap) (A : List Addr) : Hp := fun b => if b ∈ A then (if (K.lookup b).isNone = true then (h.get? b).bind hoOf else none) else none
/-- nothing is tracked but what is known to the object -/
def OnlyF (H : Hp) : Prop := ∀ b, H b = none ∨ ∃ o u, H b = some (.frz o u)
theorem hoOf_lst (vs : List Value) : hoOf { cls := .type "list", data := .seq vs.toArray } = some (.frz { cls := .type "list", data := .seq vs.toArray } (.lst (vs.map toV))) := by
  show (if (Value.type "list" == Value.type "list") = true then some (HO.frz { cls := .type "list", data := .seq vs.toArray } (.lst (vs.toArray.toList.map toV))) else some (HO.frz { cls := .type "list", data := .seq vs.toArray } (.tup (vs.toArray.toList.map toV)))) = _
  rw [if_pos (beq_self_eq_true _)]
theorem hoOf_tup (vs : List Value) : hoOf { cls := .type "tuple", data := .seq vs.toArray } = some (.frz { cls := .type "tuple", data := .seq vs.toArray } (.tup (vs.map toV))) := by
  show (if (Value.type "tuple" == Value.type "list") = true then some (HO.frz { cls := .type "tuple", data := .seq vs.toArray } (.lst (vs.toArray.toList.map toV))) else some (HO.frz { cls := .type "tuple", data := .seq vs.toArray } (.tup (vs.toArray.toList.map toV)))) = _
  rw [if_neg (by decide)]
section
variable {P : Program} {w : World} {K : PySem.W.Frag} {h : Heap} {A : List Addr}
theorem argH_at {b : Addr} {o : Obj} (hb : b ∈ A) (hk : K.lookup b = none) (e : h.get? b = some o) : argH K h A b = hoOf o := by
  unfold argH
  rw [if_pos hb, hk, if_pos (show (none : Option Obj).isNone = true from rfl), e] <;> rfl
theorem of_argH {b : Addr} {u : HO} (q : argH K h A b = some u) : b ∈ A ∧ K.lookup b = none := by
  unfold argH at q
  by_cases hb : b ∈ A
  · rw [if_pos hb] at q
    cases hk : K.lookup b with
    | none => exact ⟨hb, rfl⟩
    | some o =>
      rw [hk, if_neg (by simp)] at q
      cases q
  · rw [if_neg hb] at q
    cases q
/-- what stands tracked -/
theorem argH_is (ar : ∀ a ∈ A, ArgOb h A a) {b : Addr} {u : HO} (q : argH K h A b = some u) : K.lookup b = none ∧ ∃ vs : List Value, vs.length ≤ sizeLine ∧ (∀ u ∈ vs, OkU A u) ∧
    ((h.get? b = some { cls := .type "list", data := .seq vs.toArray } ∧ u = .frz { cls := .type "list", data := .seq vs.toArray } (.lst (vs.map toV))) ∨
     (h.get? b = some { cls := .type "tuple", data := .seq vs.toArray } ∧ u = .frz { cls := .type "tuple", data := .seq vs.toArray } (.tup (vs.map toV)))) := by
  obtain ⟨hb, hk⟩ := of_argH q
  obtain ⟨vs, h1, h2, h3⟩ := ar b hb
  refine ⟨hk, vs, h1, h2, ?_⟩
  rcases h3 with e | e
  · rw [argH_at hb hk e, hoOf_lst] at q
    exact .inl ⟨e, (Option.some.inj q).symm⟩
  · rw [argH_at hb hk e, hoOf_tup] at q
    exact .inr ⟨e, (Option.some.inj q).symm⟩
theorem argH_only (ar : ∀ a ∈ A, ArgOb h A a) : OnlyF (argH K h A) := fun b => by
  cases q : argH K h A b with
  | none => exact .inl rfl
  | some u =>
    obtain ⟨_, vs, _, _, ⟨_, e⟩ | ⟨_, e⟩⟩ := argH_is ar q
    · exact .inr ⟨_, _, by rw [e]⟩
    · exact .inr ⟨_, _, by rw [e]⟩
theorem argH_ok (ar : ∀ a ∈ A, ArgOb h A a) : HOk P w (argH K h A) h := fun b u q => by
  obtain ⟨_, vs, h1, h2, ⟨e, rfl⟩ | ⟨e, rfl⟩⟩ := argH_is ar q
  · exact ⟨e, by rw [List.length_map]; exact h1, vs, _, vals_toV h2, e⟩
  · exact ⟨e, by rw [List.length_map]; exact h1, vs, vals_toV h2, _, e, rfl, _, rfl⟩
theorem seq_inj {c c' : Value} {vs us : List Value} (e : (some { cls := c, data := .seq vs.toArray } : Option Obj) = some { cls := c', data := .seq us.toArray }) : c = c' ∧ vs = us := by
  have e1 := Option.some.inj e
  have e2 : c = c' := congrArg Obj.cls e1
  have e3 : Data.seq vs.toArray = Data.seq us.toArray := congrArg Obj.data e1
  injection e3 with e4
  refine ⟨e2, ?_⟩
  have e5 := congrArg Array.toList e4
  simpa using e5
/-- a list argument -/
theorem argL (KX : K.In h) (ar : ∀ a ∈ A, ArgOb h A a) {a : Addr} {vs : List Value} (ha : a ∈ A) (e : h.get? a = some { cls := .type "list", data := .seq vs.toArray }) : (∀ u ∈ vs, OkU A u) ∧ SqL K (argH K h A) a (vs.map toV) := by
  obtain ⟨us, h1, h2, h3⟩ := ar a ha
  have hu : us = vs := by
    rcases h3 with q | q
    · rw [e] at q
      exact (seq_inj q).2.symm
    · rw [e] at q
      exact absurd (Value.type.inj (seq_inj q).1) (by decide)
  subst hu
  refine ⟨h2, ?_⟩
  cases hk : K.lookup a with
  | none => exact .inl (.inr ⟨_, by rw [argH_at ha hk e, hoOf_lst]⟩)
  | some o =>
    have e2 := KX a o hk
    rw [e] at e2
    obtain rfl := Option.some.inj e2
    exact .inr ⟨_, us.toArray, _, hk, rfl, rfl, rfl, by rw [List.size_toArray]; exact h1, by simpa using vals_toV h2⟩
theorem argT (KX : K.In h) (ar : ∀ a ∈ A, ArgOb h A a) {a : Addr} {vs : List Value} (ha : a ∈ A) (e : h.get? a = some { cls := .type "tuple", data := .seq vs.toArray }) : (∀ u ∈ vs, OkU A u) ∧ SqT K (argH K h A) a (vs.map toV) := by
  obtain ⟨us, h1, h2, h3⟩ := ar a ha
  have hu : us = vs := by
    rcases h3 with q | q
    · rw [e] at q
      exact absurd (Value.type.inj (seq_inj q).1) (by decide)
    · rw [e] at q
      exact (seq_inj q).2.symm
  subst hu
  refine ⟨h2, ?_⟩
  cases hk : K.lookup a with
  | none => exact .inl (.inr ⟨_, by rw [argH_at ha hk e, hoOf_tup]⟩)
  | some o =>
    have e2 := KX a o hk
    rw [e] at e2
    obtain rfl := Option.some.inj e2
    exact .inr ⟨_, us.toArray, _, hk, rfl, rfl, by rw [List.size_toArray]; exact h1, by simpa using vals_toV h2⟩
mutual
theorem dw_one {Pm : Params} (KX : K.In h) (ar : ∀ a ∈ A, ArgOb h A a) : ∀ (d : WData) (v : Value), Well Pm h v d → plW d = true → OkU A v → Dw K (argH K h A) (toV v) d
  | .none, _, x, _, _ => by
    cases x
    exact .non
  | .bool b, _, x, _, _ => by
    cases x
    exact .bl b
  | .int i, _, x, _, _ => by
    cases x
    exact .int i
  | .str s, _, x, _, _ => by
    cases x
    exact .str s
  | .bytes b, _, x, _, _ => by
    cases x
    have z := Dw.byt (K := K) (H := argH K h A) b.toArray
    exact z
  | .list ds, _, x, p, hu => by
    obtain ⟨a, vs, rfl, ho, hall⟩ := well_list x
    obtain ⟨h2, hs⟩ := argL KX ar hu ho
    exact .lst hs (dw_all KX ar ds _ hall p h2)
  | .tuple ds, _, x, p, hu => by
    obtain ⟨a, vs, rfl, ho, hall⟩ := well_tuple x
    obtain ⟨h2, hs⟩ := argT KX ar hu ho
    exact .tup hs (dw_all KX ar ds _ hall p h2)
  | .float _, _, _, p, _ => Bool.noConfusion (show false = true from p)
  | .dict _, _, _, p, _ => Bool.noConfusion (show false = true from p)
  | .bytearray _, _, _, p, _ => Bool.noConfusion (show false = true from p)
  | .set _, _, _, p, _ => Bool.noConfusion (show false = true from p)
  | .frozenset _, _, _, p, _ => Bool.noConfusion (show false = true from p)
  | .obj _ _, _, _, p, _ => Bool.noConfusion (show false = true from p)
theorem dw_all {Pm : Params} (KX : K.In h) (ar : ∀ a ∈ A, ArgOb h A a) : ∀ (ds : List WData) (vs : List Value), WellAll Pm h vs ds → plWs ds = true → (∀ u ∈ vs, OkU A u) → DwAll K (argH K h A) (vs.map toV) ds
  | [], _, x, _, _ => by
    cases x
    exact .nil
  | d :: ds, _, x, p, hu => by
    obtain ⟨v, vs, rfl, x1, x2⟩ := well_cons x
    have q : plW d = true ∧ plWs ds = true := Bool.and_eq_true_iff.mp p
    exact .cons (dw_one KX ar d v x1 q.1 (hu _ (List.mem_cons_self ..))) (dw_all KX ar ds vs x2 q.2 fun u m => hu u (List.mem_cons_of_mem _ m))
end
end
theorem spec_call {P : Program} {w : World} {K : PySem.W.Frag} {mg mb : Str → Option Value} {CX : CXT} {k : Nat} {fa : Addr} {fd : FuncData} {ps : List Str} {sp : Sp} {s₁ : Shared} {vals : List Value} {ds : List WData} {R : PySem.W.WRecords} {cl : Str → Option Addr} {d0 : WData}
    (KX : K.In s₁.heap) (hns : s₁.heap.Ns mainGlobals mg) (hb : s₁.heap.Ns builtinsNs mb) (hbb : ∀ x : Str, x ≠ "__name__" → mb x = bootBuiltins x) (hlim : s₁.heap.NoLimit) (hg : s₁.gens = #[])
    (hwl : WellAll w.params s₁.heap vals ds) (hpl : plWs ds = true) (hwt : ∀ d ∈ ds, d.weight ≤ 1048576) (hr : Room k callerA)
    (F : ∀ base : Heap, K.In base → base.Ns mainGlobals mg → FnOk P w K mg base CX k fa fd ps sp) (hbind : ∀ (s : Shared) (us : List Value), us.length = ps.length → BindsTo s fd ⟨us, []⟩ (ps.zip us)) (hlen : ds.length = ps.length)
    (hsp : ∀ (H : Hp) (xs : List V), OnlyF H → DwAll K H xs ds → sp xs H (fun v H' => Dw K H' v d0) fun _ _ _ => False)
    (hCX : ∀ H e s', CX [] H s₁ (fun _ _ _ => False) e s' → False) :
    codeAny (model P w) callerA (.call (.ref fa) ⟨vals, []⟩) (fun r s' => ∃ u as, r = .ok (.ret u) ∧ ReadsW R cl s'.heap u d0 as ∧ OldK s₁.heap s'.heap ∧ s'.os = s₁.os ∧ AllBare s'.gens) s₁ := by
  obtain ⟨A, ho, ar⟩ := area_all ds vals hwl hpl hwt
  have hO : OnlyF (argH K s₁.heap A) := argH_only ar
  have hok : HOk P w (argH K s₁.heap A) s₁.heap := argH_ok ar
  have hS := dw_all KX ar ds vals hwl hpl ho
  have hV := vals_toV ho
  have hK : ∀ b u, argH K s₁.heap A b = some u → K.lookup b = none := fun b u q => (argH_is ar q).1
  have noA : ∀ {b : Addr} {o : Obj} {es : Array DictEntry} {ep : Nat}, s₁.heap.get? b = some o → o.data = .dict es ep → argH K s₁.heap A b = none := fun {b o es ep} e d => by
    cases q : argH K s₁.heap A b with
    | none => rfl
    | some u =>
      obtain ⟨_, vs, _, _, ⟨e2, _⟩ | ⟨e2, _⟩⟩ := argH_is ar q
      · rw [e2] at e
        cases e
        have d' : Data.seq vs.toArray _ = Data.dict es ep := d
        cases d'
      · rw [e2] at e
        cases e
        have d' : Data.seq vs.toArray _ = Data.dict es ep := d
        cases d'
  generalize argH K s₁.heap A = H at hO hok hS hK noA
  have base_of : ∀ {b : Addr} {o : Obj}, s₁.heap.get? b = some o → H b = none → (hidT s₁.heap H).get? b = some o := fun e n => hidT_get e n
  have nsK : ∀ {b : Addr} {m : Str → Option Value}, s₁.heap.Ns b m → (hidT s₁.heap H).Ns b m := fun {b m} ⟨o, es, ep, e, d, r⟩ => ⟨o, es, ep, base_of e (noA e d), d, r⟩
  have nK : ∀ b o, K.lookup b = some o → H b = none := fun b o e => by
    cases q : H b with
    | none => rfl
    | some u =>
      rw [hK b u q] at e
      cases e
  have hKb : K.In (hidT s₁.heap H) := fun b o e => base_of (KX b o e) (nK b o e)
  have hM : Mod K mg (hidT s₁.heap H) := ⟨hKb, nsK hns, ⟨mb, nsK hb, hbb⟩, let ⟨mc, h1, h2⟩ := hlim; ⟨mc, nsK h1, h2⟩⟩
  have e0 : Env0 P w K mg (hidT s₁.heap H) callerA [] s₁ H := ⟨rfl, hM, fun b o e => of_hidT e, Nat.le_of_eq (hidT_size _ _), trivial, fun b hb => absurd (show b ∈ ([] : List Addr) from hb) (by simp), hok, .of_eq hg⟩
  have hl : vals.length = ps.length := by rw [wellAll_len hwl]; exact hlen
  refine codeAny_mono ((F _ hKb (nsK hns)).run callerA [] s₁ H ⟨vals, []⟩ vals (vals.map toV) _ _ hr e0 (hbind s₁ vals hl) hV (hsp H _ hO hS)) fun r s' x => ?_
  cases r with
  | error e => exact (hCX H e s' x).elim
  | ok fl =>
    cases fl with
    | next => exact False.elim x
    | brk => exact False.elim x
    | cont => exact False.elim x
    | ret u =>
      obtain ⟨v, H', os, bare, un, hok', r', q⟩ := x
      have kept : ∀ b o, s₁.heap.get? b = some o → s'.heap.get? b = some o := fun b o e => by
        cases q2 : H b with
        | none => exact un.keep b o e q2 (by intro z; exact absurd (show b ∈ ([] : List Addr) from z) (by simp)) (by simp)
        | some u2 =>
          rcases hO b with z | ⟨ob, u3, z⟩
          · rw [q2] at z
            cases z
          · have z2 := un.frzs b ob _ z
            obtain ⟨e1, _⟩ := hok b _ z
            obtain ⟨e2, _⟩ := hok' b _ z2
            rw [e] at e1
            cases e1
            exact e2
      have KX' : K.In s'.heap := fun b o e => kept b o (KX b o e)
      obtain ⟨as, hrd⟩ := Dw.reads (R := R) (cl := cl) hok' KX' d0 v u q r'
      exact ⟨u, as, rfl, hrd, OldK.of_keep kept, os, bare⟩
theorem layable_weight {ds : List WData} (h : WData.layableAll ds = true) : ∀ d ∈ ds, d.weight ≤ 1048576 := fun d hd =>
  (PySem.W.layableW_iff.mp (List.all_eq_true.mp h d hd)).2.2
theorem encAll_len : ∀ (cs : List Codec) (a : Codec.denoteAll cs), (Codec.encAll cs a).length = cs.length
  | [], _ => rfl
  | c :: cs, a => by
    show (Codec.encAll cs a.2).length + 1 = cs.length + 1
    rw [encAll_len cs a.2]
/-- the goal that k_headS leaves (case hc), from the promise of the row's def: whatever the arguments that the codecs let and the row asks for, the def gives what stands for enc (f ..) -/
theorem walk_spec {r : OpenSpec} {k : Nat} {q : Program} {loose : List Str} {XP : (Str → Option Value) → Heap → Prop} {YP : World → Heap → Prop} {d : DefRec} {K : Params → PySem.W.Frag} {CX : World → CXT} {ps : List Str} {sp : World → Sp}
    (hwell : r.wellSaid = true) (hdf : d.params.defaults = []) (hlen : r.args.length = ps.length) (hr : Room k callerA)
    (hY : ∀ (w : World) (h : Heap), YP w h → (K w.params).In h)
    (F : ∀ (w : World) (mg : Str → Option Value) (fa : Addr) (h : Heap), YP w h → (K w.params).In h → h.Ns mainGlobals mg → mg d.name = some (.ref fa) →
      ∃ fd : FuncData, (∀ (s : Shared) (us : List Value), us.length = ps.length → BindsTo s fd ⟨us, []⟩ (ps.zip us)) ∧
        ∀ base : Heap, (K w.params).In base → base.Ns mainGlobals mg → FnOk r.prog w (K w.params) mg base (CX w) k fa fd ps (sp w))
    (hsp : ∀ (w : World) (H : Hp) (xs : List V) (a : Codec.denoteAll r.args), OnlyF H → Codec.withinAll r.args a = true → Codec.app r.args r.asked a = true → DwAll (K w.params) H xs (Codec.encAll r.args a) →
      sp w xs H (fun v H' => Dw (K w.params) H' v (r.ret.enc (Codec.app r.args r.f a))) fun _ _ _ => False)
    (hCX : ∀ (w : World) (H : Hp) (s : Shared) (e : Value) (s' : Shared), CX w [] H s (fun _ _ _ => False) e s' → False) :
    PySem.W.WalkOS q loose XP YP r d [] (fun f vs => PySem.call f vs) := by
  intro w s_0 s₁ mg mb G Y fa o pm cd doc dV kV ho hd hcd hD hmg hg args vals as hpre hlay hrd hwl hlo
  obtain ⟨a, e1, e2⟩ := PySem.W.os_pre_some hpre
  obtain ⟨e3, hwi⟩ := Codec.encAll_of_decAll r.args args a e1
  subst e3
  have KX := hY w _ Y
  obtain ⟨fd, hb, hF⟩ := F w mg fa _ Y KX G.T.g hmg
  refine PySem.W.enter_call (codeAny_mono (spec_call (R := []) (cl := classAt s_0.heap) (d0 := r.ret.enc (Codec.app r.args r.f a)) KX G.T.g G.T.b G.T.builtins G.T.nolimit hg hwl (pl_encAll _ _) (layable_weight hlay) hr hF hb (by rw [encAll_len]; exact hlen)
    (fun H xs hO hS => hsp w H xs a hO hwi e2 hS) fun H e s' => hCX w H s₁ e s') fun r' s' hq => ?_)
  obtain ⟨u, as', rfl, h1, h2, h3, h4⟩ := hq
  exact ⟨.inl ⟨u, _, as', rfl, fun _ => rfl, h1, (OpenSpec.post_iff hwell hwi _ _).mpr rfl, fun z => Bool.noConfusion (show false = true from z)⟩, h2, h3, h4⟩
/-- the same where the promise hangs on the written part alone -/
theorem walk_specK {r : OpenSpec} {k : Nat} {q : Program} {loose : List Str} {XP : (Str → Option Value) → Heap → Prop} {YP : World → Heap → Prop} {d : DefRec} {K : Params → PySem.W.Frag} {CX : CXT} {ps : List Str} {sp : PySem.W.Frag → Sp}
    (hwell : r.wellSaid = true) (hdf : d.params.defaults = []) (hlen : r.args.length = ps.length) (hr : Room k callerA)
    (hY : ∀ (w : World) (h : Heap), YP w h → (K w.params).In h)
    (F : ∀ (w : World) (mg : Str → Option Value) (fa : Addr) (h : Heap), YP w h → (K w.params).In h → h.Ns mainGlobals mg → mg d.name = some (.ref fa) →
      ∃ fd : FuncData, (∀ (s : Shared) (us : List Value), us.length = ps.length → BindsTo s fd ⟨us, []⟩ (ps.zip us)) ∧
        ∀ base : Heap, (K w.params).In base → base.Ns mainGlobals mg → FnOk r.prog w (K w.params) mg base CX k fa fd ps (sp (K w.params)))
    (hsp : ∀ (K : PySem.W.Frag) (H : Hp) (xs : List V) (a : Codec.denoteAll r.args), OnlyF H → Codec.withinAll r.args a = true → Codec.app r.args r.asked a = true → DwAll K H xs (Codec.encAll r.args a) →
      sp K xs H (fun v H' => Dw K H' v (r.ret.enc (Codec.app r.args r.f a))) fun _ _ _ => False)
    (hCX : ∀ (H : Hp) (s : Shared) (e : Value) (s' : Shared), CX [] H s (fun _ _ _ => False) e s' → False) :
    PySem.W.WalkOS q loose XP YP r d [] (fun f vs => PySem.call f vs) :=
  walk_spec (K := K) (CX := fun _ => CX) (sp := fun w => sp (K w.params)) hwell hdf hlen hr hY F (fun w H xs a h1 h2 h3 h4 => hsp (K w.params) H xs a h1 h2 h3 h4) fun _ H s e s' => hCX H s e s'
end L2
end

end
section
set_option Elab.async false
set_option linter.all false
set_option maxRecDepth 100000
set_option maxHeartbeats 4000000
namespace Er
open Lw LwSt

theorem two_ne : (2 : Rat) ≠ 0 := by decide
theorem pow2_eq (z : Int) : pow2 z = (2 : Rat) ^ z := by
  unfold pow2
  split
  · rename_i h
    obtain ⟨n, rfl⟩ := Int.eq_ofNat_of_zero_le h
    rw [Rat.zpow_natCast, Int.toNat_natCast, Rat.natCast_pow]
    rfl
  · rename_i h
    obtain ⟨n, hn⟩ : ∃ n : Nat, z = -(n : Int) := ⟨(-z).toNat, by omega⟩
    subst hn
    rw [Rat.zpow_neg, Rat.zpow_natCast]
    have : (- -(n : Int)).toNat = n := by omega
    rw [this, Rat.natCast_pow, Rat.div_def, Rat.one_mul]
    rfl
theorem pow2_pos (z : Int) : 0 < pow2 z := by rw [pow2_eq]; exact Rat.zpow_pos (by decide)
theorem pow2_ne (z : Int) : pow2 z ≠ 0 := Rat.ne_of_gt (pow2_pos z)
theorem pow2_add (a b : Int) : pow2 (a + b) = pow2 a * pow2 b := by rw [pow2_eq, pow2_eq, pow2_eq, Rat.zpow_add two_ne]
theorem pow2_nat (n : Nat) : pow2 (n : Int) = ((2 ^ n : Nat) : Rat) := by rw [pow2_eq, Rat.zpow_natCast, Rat.natCast_pow]; rfl
end Er
end
section
set_option Elab.async false
set_option linter.all false
set_option maxRecDepth 100000
set_option maxHeartbeats 4000000
namespace Er
open Lw LwSt

end Er
end
section
set_option Elab.async false
set_option linter.all false
set_option maxRecDepth 100000
set_option maxHeartbeats 4000000
namespace Er
open Lw LwSt

structure Good (f : Fmt) : Prop where
  e : 2 ≤ f.e
  m : 1 ≤ f.m

section
variable {f : Fmt} {a b : Int}
end

end Er
end
section
set_option Elab.async false
set_option linter.all false
set_option maxRecDepth 100000
set_option maxHeartbeats 4000000
namespace Er
open Lw LwSt

def xOf (f : Fmt) (c : Nat) : Nat := c / 2 ^ f.m % 2 ^ f.e
def rOf (f : Fmt) (c : Nat) : Nat := c % 2 ^ f.m
def sOf (f : Fmt) (c : Nat) : Bool := c.testBit (f.e + f.m)
def isNum (f : Fmt) (c : Nat) : Bool := !(xOf f c == 2 ^ f.e - 1)
def sizeU (f : Fmt) (c : Nat) : Nat := if 0 < xOf f c then (2 ^ f.m + rOf f c) * 2 ^ (xOf f c - 1) else rOf f c
def unitsOf (f : Fmt) (c : Nat) : Int := if sOf f c = true then -(sizeU f c : Int) else (sizeU f c : Int)
def unit (f : Fmt) : Rat := pow2 (f.least - (f.m : Int))

theorem and_high (c e m : Nat) : c &&& ((2 ^ e - 1) * 2 ^ m) = c / 2 ^ m % 2 ^ e * 2 ^ m := by
  have h1 : c &&& ((2 ^ e - 1) <<< m) = ((c >>> m) &&& (2 ^ e - 1)) <<< m := by
    apply Nat.eq_of_testBit_eq
    intro i
    simp only [Nat.testBit_and, Nat.testBit_shiftLeft, Nat.testBit_shiftRight]
    by_cases h : m ≤ i
    · simp [h, Nat.add_sub_cancel' h]
    · simp [h]
  rw [← Nat.shiftLeft_eq, h1, Nat.shiftLeft_eq, Nat.shiftRight_eq_div_pow, Nat.and_two_pow_sub_one_eq_mod]
theorem and_low (c m : Nat) : c &&& (2 ^ m - 1) = c % 2 ^ m := Nat.and_two_pow_sub_one_eq_mod c m
theorem and_bit_eq (c i : Nat) : c &&& 2 ^ i = if c.testBit i = true then 2 ^ i else 0 := by
  apply Nat.eq_of_testBit_eq
  intro j
  rw [Nat.testBit_and, Nat.testBit_two_pow]
  by_cases hj : i = j
  · subst hj
    cases h : c.testBit i
    · simp
    · simp [Nat.testBit_two_pow_self]
  · cases h : c.testBit i
    · simp [hj]
    · simp [hj, Nat.testBit_two_pow]
theorem and_bit (c i : Nat) : (c &&& 2 ^ i ≠ 0) ↔ c.testBit i = true := by
  rw [and_bit_eq]
  cases h : c.testBit i
  · simp
  · simp

theorem decode_num {f : Fmt} {c : Nat} (h : isNum f c = true) : decode f c = .num (sOf f c) ((sizeU f c : Rat) * unit f) := by
  have hx : ¬ xOf f c = 2 ^ f.e - 1 := by
    intro z; rw [isNum, z] at h; simp at h
  unfold decode
  dsimp only
  rw [if_neg (show ¬ c / 2 ^ f.m % 2 ^ f.e = 2 ^ f.e - 1 from hx)]
  unfold sizeU
  by_cases h0 : c / 2 ^ f.m % 2 ^ f.e = 0
  · rw [if_pos h0, if_neg (show ¬ 0 < xOf f c by unfold xOf; omega)]
    rfl
  · rw [if_neg h0, if_pos (show 0 < xOf f c by unfold xOf; omega)]
    show Val.num _ _ = Val.num _ _
    congr 1
    rw [Rat.natCast_mul, Rat.mul_assoc]
    congr 1
    rw [← pow2_nat, unit, ← pow2_add]
    congr 1
    unfold Fmt.least xOf
    omega
theorem unit_ne (f : Fmt) : unit f ≠ 0 := pow2_ne _
end Er
end
section
set_option Elab.async false
set_option linter.all false
set_option maxRecDepth 100000
set_option maxHeartbeats 4000000
namespace Er
open Lw LwSt

def IsK (k : Nat) : Prop := k = 9 ∨ k = 10 ∨ k = 11 ∨ k = 12
theorem IsK.good {k : Nat} (h : IsK k) : Good (fmt k) := by
  rcases h with h | h | h | h <;> subst h <;> exact ⟨by decide, by decide⟩
theorem IsK.e {k : Nat} (h : IsK k) : (fmt k).e ≤ 11 := by rcases h with h | h | h | h <;> subst h <;> decide
theorem IsK.m {k : Nat} (h : IsK k) : (fmt k).m ≤ 52 := by rcases h with h | h | h | h <;> subst h <;> decide
def okKind (kind : Int) : Bool := decide (kind = 9) || (decide (kind = 10) || (decide (kind = 11) || decide (kind = 12)))
theorem okKind_iff {kind : Int} : okKind kind = true ↔ IsK kind.toNat := by
  unfold okKind IsK
  simp only [Bool.or_eq_true, decide_eq_true_eq]
  omega
end Er
end
section
set_option Elab.async false
set_option linter.all false
set_option maxRecDepth 100000
set_option maxHeartbeats 4000000
namespace Er
open Lw LwSt

end Er
end
section
set_option Elab.async false
set_option linter.all false
set_option maxRecDepth 100000
set_option maxHeartbeats 4000000
namespace Er
open Lw LwSt

/-- |i| is below 2 to the n -/
def Lt2 (i : Int) (n : Nat) : Prop := i.natAbs < 2 ^ n
theorem Lt2.mono {i : Int} {n m : Nat} (h : Lt2 i n) (hm : n ≤ m) : Lt2 i m := Nat.lt_of_lt_of_le h (Nat.pow_le_pow_right (by decide) hm)
theorem Lt2.two (n : Nat) : Lt2 (2 ^ n) (n + 1) := by
  unfold Lt2
  rw [Int.natAbs_pow]
  exact Nat.pow_lt_pow_right (by decide) (Nat.lt_succ_self n)
theorem Lt2.of_lt {i : Int} {n : Nat} (h0 : 0 ≤ i) (h : i < 2 ^ n) : Lt2 i n := by
  unfold Lt2
  have : ((i.natAbs : Nat) : Int) < ((2 ^ n : Nat) : Int) := by
    rw [Int.natCast_pow]
    have : ((i.natAbs : Nat) : Int) = i := by omega
    rw [this]; exact h
  omega
end Er
end
section
set_option Elab.async false
set_option linter.all false
set_option maxRecDepth 100000
set_option maxHeartbeats 4000000
namespace Er
open Lw LwSt

/-- the low bits: exponent and fraction -/
def mag (f : Fmt) (c : Nat) : Nat := c % 2 ^ (f.e + f.m)
theorem mag_parts (f : Fmt) (c : Nat) : mag f c = xOf f c * 2 ^ f.m + rOf f c := by
  unfold mag xOf rOf
  have h : 2 ^ (f.e + f.m) = 2 ^ f.m * 2 ^ f.e := by rw [Nat.pow_add, Nat.mul_comm]
  rw [h, Nat.mod_mul, Nat.mul_comm (2 ^ f.m), Nat.add_comm]
theorem rOf_lt (f : Fmt) (c : Nat) : rOf f c < 2 ^ f.m := Nat.mod_lt _ (Nat.two_pow_pos _)
theorem xOf_lt (f : Fmt) (c : Nat) : xOf f c < 2 ^ f.e := Nat.mod_lt _ (Nat.two_pow_pos _)
theorem parts_lt {f : Fmt} {x y r s : Nat} (hr : r < 2 ^ f.m) (hs : s < 2 ^ f.m) : x * 2 ^ f.m + r < y * 2 ^ f.m + s ↔ x < y ∨ (x = y ∧ r < s) := by
  constructor
  · intro h
    by_cases hx : x < y
    · exact Or.inl hx
    · by_cases he : x = y
      · subst he; exact Or.inr ⟨rfl, by omega⟩
      · have : (y + 1) * 2 ^ f.m ≤ x * 2 ^ f.m := Nat.mul_le_mul_right _ (by omega)
        rw [Nat.add_mul] at this
        omega
  · rintro (h | ⟨rfl, h⟩)
    · have : (x + 1) * 2 ^ f.m ≤ y * 2 ^ f.m := Nat.mul_le_mul_right _ (by omega)
      rw [Nat.add_mul] at this
      omega
    · omega
/-- sizes by exponent and fraction -/
def szU (f : Fmt) (x r : Nat) : Nat := if 0 < x then (2 ^ f.m + r) * 2 ^ (x - 1) else r
theorem szU_lt {f : Fmt} {x y r s : Nat} (hr : r < 2 ^ f.m) (hs : s < 2 ^ f.m) (h : x < y ∨ (x = y ∧ r < s)) : szU f x r < szU f y s := by
  unfold szU
  rcases h with h | ⟨rfl, h⟩
  · rw [if_pos (show 0 < y by omega)]
    have h1 : 2 ^ f.m * 2 ^ (y - 1) ≤ (2 ^ f.m + s) * 2 ^ (y - 1) := Nat.mul_le_mul_right _ (by omega)
    by_cases h0 : 0 < x
    · rw [if_pos h0]
      have h2 : (2 ^ f.m + r) * 2 ^ (x - 1) < (2 ^ f.m + 2 ^ f.m) * 2 ^ (x - 1) := Nat.mul_lt_mul_of_pos_right (by omega) (Nat.two_pow_pos _)
      have h3 : (2 ^ f.m + 2 ^ f.m) * 2 ^ (x - 1) = 2 ^ f.m * 2 ^ x := by
        have : 2 ^ x = 2 ^ (x - 1) * 2 := by rw [← Nat.pow_succ]; congr 1; omega
        rw [this, Nat.add_mul, Nat.mul_comm (2 ^ (x - 1)) 2, ← Nat.mul_assoc, Nat.mul_comm (2 ^ f.m) 2, Nat.mul_assoc]
        omega
      have h4 : 2 ^ f.m * 2 ^ x ≤ 2 ^ f.m * 2 ^ (y - 1) := Nat.mul_le_mul_left _ (Nat.pow_le_pow_right (by decide) (by omega))
      omega
    · rw [if_neg h0]
      have h4 : 2 ^ f.m * 1 ≤ 2 ^ f.m * 2 ^ (y - 1) := Nat.mul_le_mul_left _ Nat.one_le_two_pow
      omega
  · split
    · exact Nat.mul_lt_mul_of_pos_right (by omega) (Nat.two_pow_pos _)
    · exact h
theorem sizeU_eq (f : Fmt) (c : Nat) : sizeU f c = szU f (xOf f c) (rOf f c) := rfl
theorem sizeU_lt_iff {f : Fmt} (a b : Nat) : sizeU f a < sizeU f b ↔ mag f a < mag f b := by
  rw [mag_parts, mag_parts, parts_lt (rOf_lt f a) (rOf_lt f b), sizeU_eq, sizeU_eq]
  constructor
  · intro h
    rcases Nat.lt_trichotomy (xOf f a) (xOf f b) with h1 | h1 | h1
    · exact Or.inl h1
    · rcases Nat.lt_trichotomy (rOf f a) (rOf f b) with h2 | h2 | h2
      · exact Or.inr ⟨h1, h2⟩
      · rw [h1, h2] at h; omega
      · have := szU_lt (f := f) (rOf_lt f b) (rOf_lt f a) (Or.inr ⟨h1.symm, h2⟩)
        omega
    · have := szU_lt (f := f) (rOf_lt f b) (rOf_lt f a) (Or.inl h1)
      omega
  · exact szU_lt (rOf_lt f a) (rOf_lt f b)
theorem sizeU_eq_iff {f : Fmt} (a b : Nat) : sizeU f a = sizeU f b ↔ mag f a = mag f b := by
  have h1 := sizeU_lt_iff (f := f) a b
  have h2 := sizeU_lt_iff (f := f) b a
  omega
/-- none -/
def nanC (f : Fmt) (c : Nat) : Bool := decide (f.infBits < mag f c)
theorem mag_inf {f : Fmt} (c : Nat) : isNum f c = false ↔ f.infBits ≤ mag f c := by
  rw [mag_parts]
  unfold isNum Fmt.infBits
  have h := xOf_lt f c
  have hr := rOf_lt f c
  constructor
  · intro z
    have z : xOf f c = 2 ^ f.e - 1 := by simpa using z
    rw [z]; omega
  · intro z
    simp only [Bool.not_eq_false', beq_iff_eq]
    by_cases h2 : xOf f c = 2 ^ f.e - 1
    · exact h2
    · have : (xOf f c + 1) * 2 ^ f.m ≤ (2 ^ f.e - 1) * 2 ^ f.m := Nat.mul_le_mul_right _ (by omega)
      rw [Nat.add_mul] at this
      omega
theorem mag_num {f : Fmt} {c : Nat} (h : isNum f c = true) : mag f c < f.infBits := by
  have := mag_inf (f := f) c
  by_cases h2 : f.infBits ≤ mag f c
  · rw [this.mpr h2] at h; cases h
  · omega
theorem decode_not {f : Fmt} {c : Nat} (h : isNum f c = false) : decode f c = if nanC f c = true then .nan else .inf (sOf f c) := by
  have hx : xOf f c = 2 ^ f.e - 1 := by unfold isNum at h; simpa using h
  unfold decode nanC
  dsimp only
  rw [if_pos (show c / 2 ^ f.m % 2 ^ f.e = 2 ^ f.e - 1 from hx), mag_parts, hx]
  by_cases h0 : c % 2 ^ f.m = 0
  · rw [if_pos h0, if_neg]
    · rfl
    · unfold Fmt.infBits rOf
      simp [h0]
  · rw [if_neg h0, if_pos]
    unfold Fmt.infBits rOf
    simp
    omega
theorem isNan_eq (f : Fmt) (c : Nat) : isNan (decode f c) = nanC f c := by
  cases h : isNum f c
  · rw [decode_not h]
    cases nanC f c <;> rfl
  · rw [decode_num h]
    have := mag_num h
    unfold nanC
    simp [isNan]
    omega
/-- by value: sign and size -/
def vKey (f : Fmt) (c : Nat) : Int := if sOf f c = true then -(mag f c : Int) else (mag f c : Int)
/-- in order: the nought with the sign ahead -/
def oKey (f : Fmt) (c : Nat) : Int := if sOf f c = true then -(mag f c : Int) - 1 else (mag f c : Int)

theorem unit_pos (f : Fmt) : 0 < unit f := pow2_pos _
theorem signed_units (f : Fmt) (c : Nat) : signedOf (sOf f c) ((sizeU f c : Rat) * unit f) = ((unitsOf f c : Int) : Rat) * unit f := by
  unfold signedOf unitsOf
  cases sOf f c
  · simp only [Bool.false_eq_true, if_false]
    rw [Rat.intCast_natCast]
  · simp only [if_true]
    rw [Rat.intCast_neg, Rat.intCast_natCast, Rat.neg_mul]
theorem mul_unit_lt (f : Fmt) (a b : Int) : (a : Rat) * unit f < (b : Rat) * unit f ↔ a < b := by
  have h := unit_pos f
  rw [← Rat.intCast_lt_intCast]
  constructor
  · intro z; exact Rat.lt_of_mul_lt_mul_right z (Rat.le_of_lt h)
  · intro z; exact Rat.mul_lt_mul_of_pos_right z h
theorem mul_unit_eq (f : Fmt) (a b : Int) : (a : Rat) * unit f = (b : Rat) * unit f ↔ a = b := by
  have h := unit_pos f
  rw [← Rat.intCast_inj]
  constructor
  · intro z
    have h0 := unit_ne f
    grind
  · intro z; rw [z]
theorem units_lt_key (f : Fmt) (a b : Nat) : unitsOf f a < unitsOf f b ↔ vKey f a < vKey f b := by
  have h1 := sizeU_lt_iff (f := f) a b
  have h2 := sizeU_lt_iff (f := f) b a
  have z1 : sizeU f a = 0 ↔ mag f a = 0 := by
    have := sizeU_eq_iff (f := f) a 0
    have e0 : mag f 0 = 0 := Nat.zero_mod _
    have e1 : sizeU f 0 = 0 := by unfold sizeU xOf rOf; simp
    omega
  have z2 : sizeU f b = 0 ↔ mag f b = 0 := by
    have := sizeU_eq_iff (f := f) b 0
    have e0 : mag f 0 = 0 := Nat.zero_mod _
    have e1 : sizeU f 0 = 0 := by unfold sizeU xOf rOf; simp
    omega
  unfold unitsOf vKey
  cases sOf f a <;> cases sOf f b <;> simp only [Bool.false_eq_true, if_false, if_true] <;> omega
theorem units_eq_key (f : Fmt) (a b : Nat) : unitsOf f a = unitsOf f b ↔ vKey f a = vKey f b := by
  have h1 := units_lt_key f a b
  have h2 := units_lt_key f b a
  omega
theorem inf_pos {f : Fmt} (g : Good f) : 0 < f.infBits := by
  unfold Fmt.infBits
  have h1 : 2 ^ 1 ≤ 2 ^ f.e := Nat.pow_le_pow_right (by decide) (by have := g.e; omega)
  exact Nat.mul_pos (by omega) (Nat.two_pow_pos _)
theorem decode_inf {f : Fmt} {a : Nat} (ha : nanC f a = false) (h1 : isNum f a = false) : decode f a = .inf (sOf f a) ∧ mag f a = f.infBits := by
  have A := (mag_inf (f := f) a).mp h1
  rw [decode_not h1, ha]
  unfold nanC at ha
  rw [decide_eq_false_iff_not] at ha
  exact ⟨rfl, by omega⟩
theorem lessV_key {f : Fmt} (g : Good f) {a b : Nat} (ha : nanC f a = false) (hb : nanC f b = false) : lessV (decode f a) (decode f b) = decide (vKey f a < vKey f b) := by
  have hp := inf_pos g
  cases h1 : isNum f a <;> cases h2 : isNum f b
  · rw [(decode_inf ha h1).1, (decode_inf hb h2).1]
    have e1 := (decode_inf ha h1).2
    have e2 := (decode_inf hb h2).2
    unfold vKey lessV
    rw [e1, e2]
    cases sOf f a <;> cases sOf f b <;> simp <;> omega
  · rw [(decode_inf ha h1).1, decode_num h2]
    have e1 := (decode_inf ha h1).2
    have e2 := mag_num h2
    unfold vKey lessV
    cases sOf f a <;> cases sOf f b <;> simp <;> omega
  · rw [(decode_inf hb h2).1, decode_num h1]
    have e1 := (decode_inf hb h2).2
    have e2 := mag_num h1
    unfold vKey lessV
    cases sOf f a <;> cases sOf f b <;> simp <;> omega
  · rw [decode_num h1, decode_num h2]
    show decide (signedOf _ _ < signedOf _ _) = _
    rw [signed_units, signed_units, Bool.eq_iff_iff, decide_eq_true_eq, decide_eq_true_eq, mul_unit_lt, units_lt_key]
theorem sameV_key {f : Fmt} (g : Good f) {a b : Nat} (ha : nanC f a = false) (hb : nanC f b = false) : sameV (decode f a) (decode f b) = decide (vKey f a = vKey f b) := by
  have hp := inf_pos g
  cases h1 : isNum f a <;> cases h2 : isNum f b
  · rw [(decode_inf ha h1).1, (decode_inf hb h2).1]
    have e1 := (decode_inf ha h1).2
    have e2 := (decode_inf hb h2).2
    unfold vKey sameV
    rw [e1, e2]
    cases sOf f a <;> cases sOf f b <;> simp <;> omega
  · rw [(decode_inf ha h1).1, decode_num h2]
    have e1 := (decode_inf ha h1).2
    have e2 := mag_num h2
    unfold vKey sameV
    cases sOf f a <;> cases sOf f b <;> simp <;> omega
  · rw [(decode_inf hb h2).1, decode_num h1]
    have e1 := (decode_inf hb h2).2
    have e2 := mag_num h1
    unfold vKey sameV
    cases sOf f a <;> cases sOf f b <;> simp <;> omega
  · rw [decode_num h1, decode_num h2]
    show decide (signedOf _ _ = signedOf _ _) = _
    rw [signed_units, signed_units, Bool.eq_iff_iff, decide_eq_true_eq, decide_eq_true_eq, mul_unit_eq, units_eq_key]
/-- by value; what is none behind all, together -/
def valKey (k : Nat) (c : Nat) : Int := if isFloat k = true then (if nanC (fmt k) c = true then 2 ^ 64 else vKey (fmt k) c) else toInt k c
def nanK (k c : Nat) : Bool := isFloat k && nanC (fmt k) c
theorem isFloat_isK {k : Nat} : isFloat k = true ↔ IsK k := by
  unfold isFloat IsK
  rw [Bool.and_eq_true, decide_eq_true_eq, decide_eq_true_eq]
  show (9 : Nat) ≤ k ∧ k ≤ (12 : Nat) ↔ _
  omega
theorem mag_lt {k : Nat} (h : IsK k) (c : Nat) : (mag (fmt k) c : Int) < 2 ^ 64 := by
  have h1 : mag (fmt k) c < 2 ^ ((fmt k).e + (fmt k).m) := Nat.mod_lt _ (Nat.two_pow_pos _)
  have h2 : 2 ^ ((fmt k).e + (fmt k).m) ≤ 2 ^ 63 := Nat.pow_le_pow_right (by decide) (by rcases h with h | h | h | h <;> subst h <;> decide)
  have h3 : (2 : Int) ^ 64 = 18446744073709551616 := by decide
  have h4 : 2 ^ 63 = 9223372036854775808 := by decide
  omega
theorem keys_lt {k : Nat} (h : IsK k) (c : Nat) : oKey (fmt k) c < 2 ^ 64 ∧ vKey (fmt k) c < 2 ^ 64 := by
  have := mag_lt h c
  have h3 : (2 : Int) ^ 64 = 18446744073709551616 := by decide
  unfold oKey vKey
  cases sOf (fmt k) c <;> simp <;> omega
theorem less_key {k a b : Nat} (ha : nanK k a = false) (hb : nanK k b = false) : cmp k 1 a b = decide (valKey k a < valKey k b) := by
  unfold cmp valKey nanK at *
  cases hf : isFloat k
  · simp
  · rw [hf, Bool.true_and] at ha hb
    simp only [if_true, ha, hb, Bool.false_eq_true, if_false, Nat.one_ne_zero]
    rw [lessV_key (isFloat_isK.mp hf).good ha hb]
/-- a whole kind's cell that is one -/
def cellK (k c : Nat) : Prop := c < 2 ^ (8 * Lw.sizeOf k)
def kindK (k : Nat) : Prop := 1 ≤ k ∧ k ≤ 12
theorem toInt_inj {k a b : Nat} (hk : kindK k) (hf : isFloat k = false) (ha : cellK k a) (hb : cellK k b) (h : toInt k a = toInt k b) : a = b := by
  unfold toInt at h
  have hw : width k = 8 * Lw.sizeOf k := by have h1 := hk.1; unfold width; rw [if_neg (show ¬ k = 0 by omega)]
  rw [hw] at h
  unfold cellK at ha hb
  have e : ((2 ^ (8 * Lw.sizeOf k) : Nat) : Int) = (2 : Int) ^ (8 * Lw.sizeOf k) := by exact_mod_cast rfl
  generalize 2 ^ (8 * Lw.sizeOf k) = W at *
  rw [← e] at h
  split at h <;> split at h <;> omega
theorem same_key {k a b : Nat} (hk : kindK k) (ca : cellK k a) (cb : cellK k b) (ha : nanK k a = false) (hb : nanK k b = false) : cmp k 0 a b = decide (valKey k a = valKey k b) := by
  unfold cmp valKey nanK at *
  cases hf : isFloat k
  · simp only [Bool.false_eq_true, if_false, if_true]
    rw [Bool.eq_iff_iff, beq_iff_eq, decide_eq_true_eq]
    exact ⟨fun z => by rw [z], fun z => toInt_inj hk hf ca cb z⟩
  · rw [hf, Bool.true_and] at ha hb
    simp only [if_true, ha, hb, Bool.false_eq_true, if_false]
    rw [sameV_key (isFloat_isK.mp hf).good ha hb]
theorem valKey_nan {k c : Nat} (h : nanK k c = true) : valKey k c = 2 ^ 64 := by
  unfold nanK at h
  unfold valKey
  rw [Bool.and_eq_true] at h
  rw [if_pos h.1, if_pos h.2]
theorem valKey_lt {k c : Nat} (hk : kindK k) (cc : cellK k c) (h : nanK k c = false) : valKey k c < 2 ^ 64 := by
  unfold nanK at h
  unfold valKey
  cases hf : isFloat k
  · simp only [Bool.false_eq_true, if_false]
    unfold toInt
    have hw : 2 ^ (8 * Lw.sizeOf k) ≤ 2 ^ 64 := Nat.pow_le_pow_right (by decide) (by
      have h1 := hk.1; have h2 := hk.2
      have : k = 1 ∨ k = 2 ∨ k = 3 ∨ k = 4 ∨ k = 5 ∨ k = 6 ∨ k = 7 ∨ k = 8 ∨ k = 9 ∨ k = 10 ∨ k = 11 ∨ k = 12 := by omega
      rcases this with h | h | h | h | h | h | h | h | h | h | h | h <;> subst h <;> decide)
    unfold cellK at cc
    have h3 : (2 : Int) ^ 64 = 18446744073709551616 := by decide
    have h4 : 2 ^ 64 = 18446744073709551616 := by decide
    have h5 : (0 : Int) < 2 ^ width k := Int.pow_pos (by decide)
    split <;> omega
  · rw [hf, Bool.true_and] at h
    simp only [if_true, h, Bool.false_eq_true, if_false]
    exact (keys_lt (isFloat_isK.mp hf) c).2
end Er
end
section
set_option Elab.async false
set_option linter.all false
set_option maxRecDepth 100000
set_option maxHeartbeats 4000000
namespace Er
open Lw LwSt

theorem form_eq {k : Nat} (hk : k ≠ 0) (c : Nat) : form k c = if nanK k c = true then (fmt k).nanBits else c := by
  unfold form nanK
  rw [if_neg hk]
  cases hf : isFloat k
  · simp
  · have := isNan_eq (fmt k) c
    simp only [if_true, Bool.true_and]
    cases e : decode (fmt k) c <;> rw [e] at this <;> rw [← this] <;> rfl
theorem nanBits_lt {k : Nat} (h : IsK k) : (fmt k).nanBits < 2 ^ ((fmt k).e + (fmt k).m) ∧ (fmt k).infBits < (fmt k).nanBits ∧ 2 ^ ((fmt k).e + (fmt k).m + 1) = 2 ^ (8 * Lw.sizeOf k) := by
  rcases h with h | h | h | h <;> subst h <;> decide +kernel
theorem nanC_nan {k : Nat} (h : IsK k) : nanC (fmt k) (fmt k).nanBits = true := by
  have := nanBits_lt h
  unfold nanC mag
  rw [Nat.mod_eq_of_lt this.1]
  simpa using this.2.1
theorem nanK_nan {k c : Nat} (h : nanK k c = true) : nanK k (fmt k).nanBits = true := by
  unfold nanK at *
  rw [Bool.and_eq_true] at h
  rw [h.1, nanC_nan (isFloat_isK.mp h.1)]; rfl
theorem nanK_form {k : Nat} (hk : k ≠ 0) (c : Nat) : nanK k (form k c) = nanK k c := by
  rw [form_eq hk]
  cases h : nanK k c
  · rw [if_neg (by simp)]; exact h
  · rw [if_pos rfl]; exact nanK_nan h
theorem cellK_form {k c : Nat} (hk : k ≠ 0) (h : cellK k c) : cellK k (form k c) := by
  rw [form_eq hk]
  split
  · rename_i hn
    unfold nanK at hn
    rw [Bool.and_eq_true] at hn
    have := nanBits_lt (isFloat_isK.mp hn.1)
    unfold cellK
    rw [← this.2.2, Nat.pow_succ]
    omega
  · exact h
theorem valKey_form {k : Nat} (hk : k ≠ 0) (c : Nat) : valKey k (form k c) = valKey k c := by
  rw [form_eq hk]
  split
  · rename_i hn
    rw [valKey_nan (nanK_nan hn), valKey_nan hn]
  · rfl
end Er
end
section
set_option Elab.async false
set_option linter.all false
set_option maxRecDepth 100000
set_option maxHeartbeats 4000000
namespace Er
open Lw LwSt

end Er
end
section
set_option Elab.async false
set_option linter.all false
set_option maxRecDepth 100000
set_option maxHeartbeats 4000000
namespace Er
open Lw LwSt

end Er
end
section
set_option Elab.async false
set_option linter.all false
set_option maxRecDepth 100000
set_option maxHeartbeats 4000000
namespace Er
open Lw LwSt

end Er
end
section
set_option Elab.async false
set_option linter.all false
set_option maxRecDepth 100000
set_option maxHeartbeats 4000000
namespace Er
open Lw LwSt

end Er
end
section
set_option Elab.async false
set_option linter.all false
set_option maxRecDepth 100000
set_option maxHeartbeats 4000000
namespace Er
open Lw LwSt

end Er
end
section
set_option Elab.async false
set_option linter.all false
set_option maxRecDepth 100000
set_option maxHeartbeats 4000000
namespace Er
open Lw LwSt

end Er
end
section
set_option Elab.async false
set_option linter.all false
set_option maxRecDepth 100000
set_option maxHeartbeats 4000000
namespace Er
open Lw LwSt

theorem pair_key {k : Nat} (hk : kindK k) {a b c d : Nat} (ca : cellK k a) (cb : cellK k b) (cc : cellK k c) (cd : cellK k d) : pairSort k a b c d =
    if (nanK k a || (nanK k b || (nanK k c || nanK k d))) = true then 3
    else if valKey k a = valKey k b ∨ valKey k c = valKey k d then 2
    else if (valKey k a < valKey k b ↔ valKey k c < valKey k d) then 0 else 1 := by
  unfold pairSort valueOf_
  simp only [isNan_eq]
  have e1 : (isFloat k = true ∧ (nanC (fmt k) a || (nanC (fmt k) b || (nanC (fmt k) c || nanC (fmt k) d))) = true) ↔ (nanK k a || (nanK k b || (nanK k c || nanK k d))) = true := by
    unfold nanK
    cases isFloat k <;> simp
  by_cases h : (nanK k a || (nanK k b || (nanK k c || nanK k d))) = true
  · rw [if_pos (e1.mpr h), if_pos h]
  · rw [if_neg (fun z => h (e1.mp z)), if_neg h]
    have h : (nanK k a || (nanK k b || (nanK k c || nanK k d))) = false := by simpa using h
    simp only [Bool.or_eq_false_iff] at h
    obtain ⟨na, nb, nc, nd⟩ := h
    rw [same_key hk ca cb na nb, same_key hk cc cd nc nd, less_key na nb, less_key nc nd]
    simp only [Bool.or_eq_true, decide_eq_true_eq, decide_eq_decide]
/-- how often a sort comes among pairs -/
def pairN (k : Nat) (l : List (Nat × Nat)) (i : Nat) : Nat := ((pairSorts k l).filter fun (j : Nat) => j == i).length
theorem pairN_cons (k : Nat) (x : Nat × Nat) (l : List (Nat × Nat)) (i : Nat) : pairN k (x :: l) i = (l.filter fun y => pairSort k x.1 y.1 x.2 y.2 == i).length + pairN k l i := by
  unfold pairN
  show (((l.map fun (y : Cell × Cell) => pairSort k x.1 y.1 x.2 y.2) ++ pairSorts k l).filter _).length = _
  rw [List.filter_append, List.length_append, List.filter_map, List.length_map]
  rfl
end Er
end
section
set_option Elab.async false
set_option linter.all false
set_option maxRecDepth 100000
set_option maxHeartbeats 4000000
namespace Er
open Lw LwSt

end Er
end
section
set_option Elab.async false
set_option linter.all false
set_option maxRecDepth 100000
set_option maxHeartbeats 4000000
namespace Er
open Lw LwSt
open BdNeutral (nats)

def bitsK (k : Nat) : Nat := 8 * Lw.sizeOf k
def kindI (kind : Int) : Bool := decide (1 ≤ kind) && decide (kind ≤ 12)
def cellI (k : Nat) (c : Int) : Bool := decide (0 ≤ c) && decide (c < 2 ^ bitsK k)
def rowI (k most : Nat) (x : List Int) : Bool := decide (x.length ≤ most) && x.all (cellI k)
theorem kindBad_eq {kind : Int} (h : 0 ≤ kind) : Bd.kindBad kind.toNat = !kindI kind := by
  unfold Bd.kindBad kindI
  rw [Bool.eq_iff_iff]
  simp only [Bool.not_eq_true', Bool.and_eq_false_iff, decide_eq_false_iff_not]
  omega
theorem kindI_K {kind : Int} (h : kindI kind = true) : kindK kind.toNat := by
  unfold kindI at h
  simp only [Bool.and_eq_true, decide_eq_true_eq] at h
  exact ⟨by omega, by omega⟩
theorem rowBadK {k most : Nat} {x : List Int} (hx : ∀ c ∈ x, 0 ≤ c) : Bd.rowBad k most (nats x) = !rowI k most x := by
  unfold Bd.rowBad rowI nats
  rw [List.length_map, List.any_map]
  have e : (x.any ((fun (c : Nat) => decide (2 ^ (8 * Lw.sizeOf k) ≤ c)) ∘ Int.toNat)) = !x.all (cellI k) := by
    have key : ∀ l : List Int, (∀ c ∈ l, 0 ≤ c) → (l.any ((fun (c : Nat) => decide (2 ^ (8 * Lw.sizeOf k) ≤ c)) ∘ Int.toNat)) = !l.all (cellI k) := by
      intro l
      induction l with
      | nil => intro _; rfl
      | cons c l ih =>
        intro hl
        rw [List.any_cons, List.all_cons, ih fun d hd => hl d (List.mem_cons_of_mem _ hd), Bool.not_and]
        congr 1
        have h0 := hl c (List.mem_cons_self ..)
        unfold cellI bitsK
        simp only [Function.comp]
        have ep : ((2 ^ (8 * Lw.sizeOf k) : Nat) : Int) = (2 : Int) ^ (8 * Lw.sizeOf k) := by exact_mod_cast rfl
        rw [Bool.eq_iff_iff]
        simp only [decide_eq_true_eq, Bool.not_eq_true', Bool.and_eq_false_iff, decide_eq_false_iff_not, ← ep]
        generalize 2 ^ (8 * Lw.sizeOf k) = W
        omega
    exact key x hx
  rw [e, Bool.eq_iff_iff]
  simp only [Bool.or_eq_true, decide_eq_true_eq, Bool.not_eq_true', Bool.and_eq_false_iff, decide_eq_false_iff_not]
  constructor
  · rintro (h | h)
    · exact Or.inl (by omega)
    · exact Or.inr h
  · rintro (h | h)
    · exact Or.inl (by omega)
    · exact Or.inr h
theorem rowI_cells {k most : Nat} {x : List Int} (h : rowI k most x = true) : x.length ≤ most ∧ ∀ c ∈ x, 0 ≤ c ∧ cellK k c.toNat := by
  unfold rowI at h
  simp only [Bool.and_eq_true, decide_eq_true_eq] at h
  refine ⟨h.1, fun c hc => ?_⟩
  have := List.all_eq_true.mp h.2 c hc
  unfold cellI bitsK at this
  simp only [Bool.and_eq_true, decide_eq_true_eq] at this
  refine ⟨this.1, ?_⟩
  unfold cellK
  have ep : ((2 ^ (8 * Lw.sizeOf k) : Nat) : Int) = (2 : Int) ^ (8 * Lw.sizeOf k) := by exact_mod_cast rfl
  rw [← ep] at this
  omega
def valI (k : Nat) (c : Int) : Int := valKey k c.toNat
def nanI (k : Nat) (c : Int) : Bool := nanK k c.toNat
theorem formed_nats (k : Nat) (x : List Int) : Bd.formed k (nats x) = x.map fun c => form k c.toNat := by
  unfold Bd.formed nats
  rw [List.map_map]
  rfl
def natInts (l : List Nat) : List Int := l.map fun (i : Nat) => (i : Int)
theorem shown_list (l : List Nat) : BdNeutral.shown (.list l) = 0 :: natInts l := rfl
theorem nats_len (x : List Int) : (nats x).length = x.length := List.length_map ..
end Er
end
section
set_option Elab.async false
set_option linter.all false
set_option maxRecDepth 100000
set_option maxHeartbeats 4000000
namespace Er
open Lw LwSt
open BdNeutral (nats)

def pairI (k : Nat) (p q : Int × Int) : Nat :=
  if (nanI k p.1 || (nanI k q.1 || (nanI k p.2 || nanI k q.2))) = true then 3
  else if valI k p.1 = valI k q.1 ∨ valI k p.2 = valI k q.2 then 2
  else if (valI k p.1 < valI k q.1 ↔ valI k p.2 < valI k q.2) then 0 else 1
/-- how often a sort comes among all i < j -/
def pairNI (k : Nat) (i : Nat) : List (Int × Int) → Nat
  | [] => 0
  | p :: l => (l.filter fun q => pairI k p q == i).length + pairNI k i l
def twoI (k : Nat) (x y : List Int) : Bool := rowI k 4096 x && (rowI k 4096 y && decide (x.length = y.length))
theorem twoBadK {k : Nat} {x y : List Int} (hx : ∀ c ∈ x, 0 ≤ c) (hy : ∀ c ∈ y, 0 ≤ c) : Bd.twoBad k (nats x) (nats y) = !twoI k x y := by
  unfold Bd.twoBad twoI
  rw [rowBadK hx, rowBadK hy, nats_len, nats_len, Bool.not_and, Bool.not_and]
  show (!rowI k 4096 x || (!rowI k 4096 y || x.length != y.length)) = _
  congr 2
theorem pairs_bad {kind : Int} {x y : List Int} (h0 : 0 ≤ kind) (hx : ∀ c ∈ x, 0 ≤ c) (hy : ∀ c ∈ y, 0 ≤ c) (h : (kindI kind && twoI kind.toNat x y) = false) : PyWrlwbd.pairs kind x y = [-1] := by
  show BdNeutral.shown (Bd.answer (.pairs kind.toNat (nats x) (nats y))) = _
  unfold Bd.answer
  dsimp only
  rw [kindBad_eq h0, twoBadK hx hy, ← Bool.not_and, h, if_pos (by rfl)]
  rfl
theorem pairs_ok {kind : Int} {x y : List Int} (h0 : 0 ≤ kind) (hk : kindI kind = true) (ht : twoI kind.toNat x y = true) :
    PyWrlwbd.pairs kind x y = 0 :: (List.range 4).map fun (i : Nat) => ((pairNI kind.toNat i (x.zip y) : Nat) : Int) := by
  have ht' := ht
  unfold twoI at ht'
  simp only [Bool.and_eq_true, decide_eq_true_eq] at ht'
  have cx := (rowI_cells ht'.1).2
  have cy := (rowI_cells ht'.2.1).2
  have hK := kindI_K hk
  have hk0 : kind.toNat ≠ 0 := by have := hK.1; omega
  show BdNeutral.shown (Bd.answer (.pairs kind.toNat (nats x) (nats y))) = _
  unfold Bd.answer
  dsimp only
  rw [kindBad_eq h0, twoBadK (fun c h => (cx c h).1) (fun c h => (cy c h).1), hk, ht, if_neg (by simp), shown_list]
  congr 1
  unfold natInts
  rw [List.map_map]
  apply List.map_congr_left
  intro i _
  show ((pairN kind.toNat ((Bd.formed kind.toNat (nats x)).zip (Bd.formed kind.toNat (nats y))) i : Nat) : Int) = _
  congr 1
  rw [formed_nats, formed_nats, List.zip_map]
  have key : ∀ l : List (Int × Int), (∀ p ∈ l, cellK kind.toNat p.1.toNat ∧ cellK kind.toNat p.2.toNat) → pairN kind.toNat (l.map (Prod.map (fun c => form kind.toNat c.toNat) (fun c => form kind.toNat c.toNat))) i = pairNI kind.toNat i l := by
    intro l
    induction l with
    | nil => intro _; rfl
    | cons p l ih =>
      intro hl
      rw [List.map_cons, pairN_cons, ih fun q hq => hl q (List.mem_cons_of_mem _ hq)]
      show _ = (l.filter fun q => pairI kind.toNat p q == i).length + pairNI kind.toNat i l
      congr 1
      rw [List.filter_map, List.length_map]
      congr 1
      apply List.filter_congr
      intro q hq
      have hp := hl p (List.mem_cons_self ..)
      have hq := hl q (List.mem_cons_of_mem _ hq)
      show (pairSort kind.toNat (form kind.toNat p.1.toNat) (form kind.toNat q.1.toNat) (form kind.toNat p.2.toNat) (form kind.toNat q.2.toNat) == i) = _
      rw [pair_key hK (cellK_form hk0 hp.1) (cellK_form hk0 hq.1) (cellK_form hk0 hp.2) (cellK_form hk0 hq.2)]
      simp only [nanK_form hk0, valKey_form hk0]
      rfl
  refine key _ fun p hp => ?_
  have := List.of_mem_zip hp
  exact ⟨(cx _ this.1).2, (cy _ this.2).2⟩

end Er
end
section
set_option Elab.async false
set_option linter.all false
set_option maxRecDepth 100000
set_option maxHeartbeats 4000000
namespace Er
open Lw
end Er
end
section
set_option Elab.async false
set_option linter.all false
set_option maxRecDepth 100000
set_option maxHeartbeats 4000000
namespace L2
open PySem PySem.Spec PyProof.Rows
open Er (Lt2)

theorem bits_of {i : Int} {n : Nat} (h : Lt2 i n) : Builtin.Int.intBits i ≤ n := by
  unfold Builtin.Int.intBits
  by_cases h0 : (i == 0) = true
  · rw [if_pos h0]; exact Nat.zero_le _
  · rw [if_neg h0]
    have h1 : i.natAbs ≠ 0 := by
      intro z
      exact h0 (by rw [Int.natAbs_eq_zero.mp z]; rfl)
    have := (Nat.log2_lt h1).mpr (show i.natAbs < 2 ^ n from h)
    omega
def CMulB (i j : Int) : Prop := ∃ a b : Nat, Lt2 i a ∧ Lt2 j b ∧ a + b ≤ 134217728
def CShlB (i j : Int) : Prop := 0 ≤ j ∧ ∃ a : Nat, Lt2 i a ∧ (a : Int) + j ≤ 2 ^ 27
def CDivB (_ j : Int) : Prop := 0 < j ∧ Lt2 j 9000
section
variable {X : Cx}
theorem op_mulB : OpR X (binaryOp .Mult) (rI CMulB fun i j => .int (i * j)) := opI fun _ _ _ _ _ _ _ hc q => by
  obtain ⟨a, b, ha, hb, hab⟩ := hc
  exact mul_int q (PyProof.Rows.mulOk_of_bits (bits_of ha) (bits_of hb) hab)
theorem op_shlB : OpR X (binaryOp .LShift) (rI CShlB fun i j => .int (i * 2 ^ j.toNat)) := opI fun _ _ _ _ _ _ _ hc q => by
  obtain ⟨h0, a, ha, hab⟩ := hc
  have := bits_of ha
  exact lshift_int h0 (by omega) q
theorem op_fdivB : OpR X (binaryOp .FloorDiv) (rI CDivB fun i j => .int (i / j)) := opI fun i j _ _ _ _ _ hc q => by
  obtain ⟨h0, hl⟩ := hc
  have h1 : j.natAbs ≠ 0 := by omega
  refine floordiv_int (by omega) ?_ (.inl (PyProof.noPylong_of_log2 ((Nat.log2_lt h1).mpr hl)))
  rw [Int.fdiv_eq_ediv_of_nonneg _ (Int.le_of_lt h0)]
  exact q
end

def KDict (P : Program) (w : World) (K : PySem.W.Frag) (d : Addr) (kvs : List (Key × V)) : Prop :=
  (d == sysModules) = false ∧ ∀ h : Heap, K.In h → ∃ vs, KV kvs vs ∧ h.DictOf (mixKind P w) d vs
section
variable {X : Cx} {o i : Expr} {td ty : TE} {pos : Pos}
def tDInK (X : Cx) (ty td : TE) : TE := fun σ H Q => ty σ H fun y H1 => td σ H1 fun x H2 => ∃ a kvs k, x = .ref a ∧ y = kV k ∧ KDict X.prog X.w X.K a kvs ∧ Q (.bl (valV kvs k).isSome) H2
def tDGetK (X : Cx) (td ty : TE) : TE := fun σ H Q => td σ H fun x H1 => ty σ H1 fun y H2 => ∃ a kvs k v, x = .ref a ∧ y = kV k ∧ KDict X.prog X.w X.K a kvs ∧ valV kvs k = some v ∧ Q v H2
theorem pc_dinK (hi : PE X i ty) (ho : PE X o td) : PC X .In i o (tDInK X ty td) := by
  intro pins s σ H Q I h
  refine thn (hi pins s σ H _ I h) fun iv s1 ⟨y, H1, I1, ry, q1⟩ => thn (ho pins s1 σ H1 _ I1 q1) fun u s2 ⟨x, H2, I2, rx, a, kvs, k, ex, ey, ⟨hd, hk⟩, q2⟩ => ?_
  subst ex ey
  obtain rfl : u = Value.ref a := rx
  obtain ⟨vs, rel, dd⟩ := hk s2.heap I2.kIn
  refine wpAny_in_of (kV_is ry) hd dd.mapOf ?_
  rw [← (rel.val k).isSome_eq]
  exact ⟨.bl _, H2, I2.tok _, rfl, q2⟩
theorem pe_dgetK (ho : PE X o td) (hi : PE X i ty) (hs : NoSl i) : PE X (.Subscript o i pos) (tDGetK X td ty) := by
  intro pins s σ H Q I h
  refine subD_of PySem.F.slot_dict_getitem.lookup hs (thn (ho pins s σ H _ I h) fun u s1 ⟨x, H1, I1, rx, q1⟩ => thn (hi pins s1 σ H1 _ I1 q1) fun iv s2 ⟨y, H2, I2, ry, a, kvs, k, v, ex, ey, ⟨hd, hk⟩, l, q2⟩ => ?_)
  subst ex ey
  obtain rfl : u = Value.ref a := rx
  obtain ⟨vs, rel, dd⟩ := hk s2.heap I2.kIn
  obtain ⟨w', hw, rw'⟩ := RelO.some_of (v := v) (o := valueAt vs k) (by rw [← l]; exact rel.val k)
  exact ⟨dd.typeIs, wpAny_getItem_of (kV_is ry) dd.mapOf hw ⟨v, H2, I2.tok _, rw', q2⟩⟩
end
/-- such a dict of natInts' keys and tuples, as the top has written it -/
theorem kdict_of {P : Program} {w : World} {K : PySem.W.Frag} {d : Addr} {es : List (Int × Tok × Addr)} {ep : Nat}
    (hl : K.lookup d = some { cls := .type "dict", data := .dict (es.map fun e => (⟨hashInt e.1, .int e.1 e.2.1, .ref e.2.2⟩ : DictEntry)).toArray ep }) (hd : (d == sysModules) = false) (hn : (es.map (·.1)).Nodup) :
    KDict P w K d (es.map fun e => (Sum.inl e.1, V.ref e.2.2)) := by
  refine ⟨hd, fun h KX => ⟨es.map fun e => (Sum.inl e.1, Value.ref e.2.2), ?_, _, _, _, KX _ _ hl, ⟨rfl, rfl, rfl⟩, rfl, ?_, ?_, ?_⟩⟩
  · clear hl hn
    induction es with
    | nil => exact .nil
    | cons e es ih => exact .cons ⟨rfl, rfl⟩ ih
  · intro e he
    have he' : e ∈ es.map fun e => (⟨hashInt e.1, .int e.1 e.2.1, .ref e.2.2⟩ : DictEntry) := by simpa using he
    obtain ⟨x, _, rfl⟩ := List.mem_map.mp he'
    exact ⟨Sum.inl x.1, by show Value.isInt x.1 (.int x.1 x.2.1) = true; simp [Value.isInt], rfl⟩
  · clear hl hn
    show Pairs _ ((es.map fun e => (⟨hashInt e.1, .int e.1 e.2.1, .ref e.2.2⟩ : DictEntry)).toArray).toList _
    rw [List.toList_toArray]
    induction es with
    | nil => exact .nil
    | cons e es ih => exact .cons (by show Value.isInt e.1 (.int e.1 e.2.1) = true; simp [Value.isInt]) rfl ih
  · rw [List.map_map]
    show (es.map fun e => (Sum.inl e.1 : Key)).Nodup
    clear hl
    induction es with
    | nil => exact List.nodup_nil
    | cons e es ih =>
      rw [List.map_cons, List.nodup_cons] at hn ⊢
      refine ⟨fun m => hn.1 ?_, ih hn.2⟩
      obtain ⟨x, hx, ex⟩ := List.mem_map.mp m
      exact List.mem_map.mpr ⟨x, hx, Sum.inl.inj ex⟩
end L2
end
section
set_option Elab.async false
set_option linter.all false
set_option maxRecDepth 100000
set_option maxHeartbeats 4000000
namespace L2
open PySem PySem.Spec PyProof.Rows
open Er (Lt2)

structure Callee (P : Program) (w : World) (K : PySem.W.Frag) (mg : Str → Option Value) (base : Heap) (k : Nat) (x : Str) (ps : List Str) (sp : Sp) : Prop where
  ex : ∃ (f : Addr) (fd : FuncData), FnOk P w K mg base CX0 k f fd ps sp ∧ Binds K fd ps [] ∧ mg x = some (.ref f) ∧ PySem.W.keepIn K (.ref f) = true
structure Maker (P : Program) (w : World) (K : PySem.W.Frag) (mg : Str → Option Value) (base : Heap) (C : Addr) (k : Nat) (x : Str) (ps : List Str) (sp : Sp) : Prop where
  ex : ∃ (f : Addr) (fd : FuncData), Mk K C f ∧ FnOk P w K mg base CX0 k f fd ps sp ∧ Binds K fd ps [] ∧ mg x = some (.ref C)
section
variable {X : Cx} {k : Nat} {C : Addr} {ps : List Str} {sp : Sp} {x : Str} {p pos : Pos} {e : Expr} {es : List Expr} {t : TA}
theorem pe_callC (c : Callee X.prog X.w X.K X.mg X.base k x ps sp) (hr : Room k X.A) (hg : Gl X x) (ha : PA X (e :: es) t) (hdb : (x == ("__debug__" : Str)) = false := by decide)
    (he : starEach (e :: es) X.env = (false, eval e X.env) :: starEach es X.env := by rfl) (hpl : (backTo pos (starEach es X.env)).any (·.1) = false := by rfl) :
    PE X (.Call (.Name x p) (e :: es) [] pos) (tCall sp [] E0 t) := by
  obtain ⟨f, fd, F, hb, hm, hk⟩ := c.ex
  exact pe_call F hr hg hm hk hb .nil pass0 ha hdb he hpl
theorem pe_makeC (c : Maker X.prog X.w X.K X.mg X.base C k x ps sp) (hr : Room (k + 1) X.A) (hg : Gl X x) (ha : PA X (e :: es) t) (hdb : (x == ("__debug__" : Str)) = false := by decide)
    (he : starEach (e :: es) X.env = (false, eval e X.env) :: starEach es X.env := by rfl) (hpl : (backTo pos (starEach es X.env)).any (·.1) = false := by rfl) :
    PE X (.Call (.Name x p) (e :: es) [] pos) (tMake C sp [] E0 t) := by
  obtain ⟨f, fd, M, F, hb, hm⟩ := c.ex
  exact pe_make M F hr hg hm hb .nil pass0 ha hdb he hpl
end

section
variable {X : Cx} {x : Str} {pos : Pos}
theorem pe_globI {i : Int} (hg : Gl X x) (hm : ∃ t, X.mg x = some (.int i t)) (hd : (x == ("__debug__" : Str)) = false := by decide) : PE X (.Name x pos) (tC (.int i)) := by
  obtain ⟨t, hm⟩ := hm
  exact pe_glob hg hm ⟨t, rfl⟩ hd
theorem pe_globR {d : Addr} (hg : Gl X x) (hm : X.mg x = some (.ref d)) (hd : (x == ("__debug__" : Str)) = false := by decide) : PE X (.Name x pos) (tC (.ref d)) := pe_glob hg hm rfl hd
end
theorem boot_all1 : bootBuiltins "all" = some (.builtin "all") := by decide +kernel
theorem boot_sum1 : bootBuiltins "sum" = some (.builtin "sum") := by decide +kernel
theorem boot_len1 : bootBuiltins "len" = some (.builtin "len") := by decide +kernel

/-- a tuple of the text's top -/
theorem ktup {K : PySem.W.Frag} {H : Hp} {a : Addr} {its : List Value} {n : Nat} {xs : List V} (hl : K.lookup a = some { cls := .type "tuple", data := .seq its.toArray n }) (hz : its.length ≤ sizeLine) (hv : Vals xs its) : SqT K H a xs :=
  .inr ⟨_, its.toArray, n, hl, rfl, rfl, by simpa using hz, by simpa using hv⟩

theorem Same.upd {H : Hp} {a : Addr} {o : HO} (h : H a = none) : Same H (upd H a o) := fun b u e => by rw [upd_ne (ne_of_none e h)]; exact e
theorem Same.tup {K : PySem.W.Frag} {H H' : Hp} {a : Addr} {xs : List V} (e : Same H H') (h : SqT K H a xs) : SqT K H' a xs := by
  rcases h with (h | ⟨o, h⟩) | h
  · exact .inl (.inl (e _ _ h))
  · exact .inl (.inr ⟨o, e _ _ h⟩)
  · exact .inr h
theorem take_snocV {α : Type} : ∀ {l : List α} {i : Nat} {x : α}, l[i]? = some x → l.take (i + 1) = l.take i ++ [x]
  | [], i, x, h => by simp at h
  | a :: l, 0, x, h => by
    have e : a = x := Option.some.inj h
    subst e
    rfl
  | a :: l, i + 1, x, h => by
    have ih := take_snocV (l := l) (i := i) (x := x) h
    show a :: l.take (i + 1) = a :: l.take i ++ [x]
    rw [ih]
    rfl

def LcIn (J : It) (g : TG) (tt : TT) (te : TE) (vs : List Nat) (σ : St) (Q : VK) (H1 : Hp) : Prop := ∀ D, H1 D = none → ∃ W : Nat → Nat → Hp → Prop, (∃ m, W 0 m (upd H1 D (.lst []))) ∧ ∀ i m H, W i m H →
  (J.stop i H ∧ Q (.ref D) H) ∨ (J.go i H ∧ ∃ Nx : Hp → Prop, (∀ H', Nx H' → ∃ m', m' < m ∧ W (i + 1) m' H') ∧ ∀ x H', J.yld i H x H' → g x (wipe σ vs) H' fun σ2 H2 => wipe σ2 vs = wipe σ vs ∧ tt σ2 H2 fun b H3 =>
    if b = true then te σ2 H3 fun y H4 => ∃ acc, H4 D = some (.lst acc) ∧ acc.length < sizeLine ∧ Nx (upd H4 D (.lst (acc ++ [y]))) else Nx H3)
theorem tLc_in {wi : TI} {g : TG} {tt : TT} {te : TE} {vs : List Nat} {σ : St} {H : Hp} {Q : VK} (h : wi σ H fun J H1 => LcIn J g tt te vs σ Q H1) : tLc wi g tt te vs σ H Q := h
theorem tYes_ok {σ : St} {H : Hp} {A B : Hp → Prop} (h : A H) : tYes σ H fun b H3 => if b = true then A H3 else B H3 := by
  show (if true = true then A H else B H)
  rw [if_pos rfl]
  exact h
theorem er_lcG {K : PySem.W.Frag} {a : Addr} {xs ys : List V} {σ : St} {H : Hp} {Q : VK} {s : Nat} {te : TE} (hl : SqL K H a xs) (hlen : xs.length < sizeLine) (hy : xs.length = ys.length)
    (helt : ∀ (i : Nat) (x y : V) (H' : Hp) (Q' : VK), xs[i]? = some x → ys[i]? = some y → Same H H' → (∀ H'', Same H' H'' → Q' y H'') → te ((wipe σ [s]).set s (some x)) H' Q')
    (hq : ∀ (H' : Hp) (D : Addr), Same H H' → H' D = some (.lst ys) → H D = none → Q (.ref D) H') :
    LcIn (Itl K a) (gName s) tYes te [s] σ Q H := by
  intro D hD
  refine ⟨fun i m H' => i + m = xs.length ∧ Same H H' ∧ H' D = some (.lst (ys.take i)), ⟨xs.length, by omega, Same.upd hD, upd_same⟩, ?_⟩
  rintro i m H' ⟨him, sm, hd⟩
  have hl' := sm.seq hl
  by_cases hi : i < xs.length
  · obtain ⟨x, hxi⟩ : ∃ x, xs[i]? = some x := ⟨_, List.getElem?_eq_getElem hi⟩
    obtain ⟨y, hyi⟩ : ∃ y, ys[i]? = some y := ⟨_, List.getElem?_eq_getElem (by omega)⟩
    refine Or.inr ⟨⟨xs, x, hl', hxi⟩, fun H'' => Same H H'' ∧ H'' D = some (.lst (ys.take (i + 1))), ?_, ?_⟩
    · rintro H'' ⟨s2, d2⟩
      exact ⟨m - 1, by omega, by omega, s2, d2⟩
    · rintro z H2 ⟨rfl, hz⟩
      have ez : x = z := Option.some.inj (hxi.symm.trans (hz xs hl'))
      subst ez
      refine ⟨?_, ?_⟩
      · show wipe ((wipe σ [s]).set s (some x)) [s] = wipe σ [s]
        show (((σ.set s none).set s (some x)).set s none) = σ.set s none
        rw [List.set_set, List.set_set]
      · refine tYes_ok ?_
        refine helt i x y H2 _ hxi hyi sm fun H'' s3 => ?_
        refine ⟨ys.take i, s3 _ _ hd, ?_, ?_, ?_⟩
        · rw [List.length_take]; omega
        · exact fun b o e => by rw [upd_ne (ne_of_none e hD)]; exact s3 _ _ (sm _ _ e)
        · rw [upd_same, take_snocV hyi]
  · refine Or.inl ⟨⟨xs, hl', by omega⟩, ?_⟩
    rw [List.take_of_length_le (by omega)] at hd
    exact hq H' D sm hd hD
theorem er_lc {K : PySem.W.Frag} {a : Addr} {xs : List V} {σ : St} {H : Hp} {Q : VK} {s : Nat} {te : TE} (g : V → V) (hl : SqL K H a xs) (hlen : xs.length < sizeLine)
    (helt : ∀ (i : Nat) (x : V) (H' : Hp) (Q' : VK), xs[i]? = some x → Same H H' → (∀ H'', Same H' H'' → Q' (g x) H'') → te ((wipe σ [s]).set s (some x)) H' Q')
    (hq : ∀ (H' : Hp) (D : Addr), Same H H' → H' D = some (.lst (xs.map g)) → H D = none → Q (.ref D) H') :
    LcIn (Itl K a) (gName s) tYes te [s] σ Q H :=
  er_lcG hl hlen (List.length_map ..).symm (fun i x y H' Q' hx hy sm q => by
    rw [List.getElem?_map, hx] at hy
    cases Option.some.inj hy
    exact helt i x H' Q' hx sm q) hq
end L2
end
section
set_option Elab.async false
set_option linter.all false
set_option maxRecDepth 100000
set_option maxHeartbeats 4000000
namespace L2
open PySem PySem.Spec PyProof.Rows
open Er (Lt2)
theorem boot_list1 : bootBuiltins "list" = some (.type "list") := by decide +kernel
/-- a dict of the text's top, natInts under natInts -/
theorem kdictI_of {P : Program} {w : World} {K : PySem.W.Frag} {d : Addr} {es : List ((Int × Tok) × (Int × Tok))} {ep : Nat}
    (hl : K.lookup d = some { cls := .type "dict", data := .dict (es.map fun e => (⟨hashInt e.1.1, .int e.1.1 e.1.2, .int e.2.1 e.2.2⟩ : DictEntry)).toArray ep }) (hd : (d == sysModules) = false) (hn : (es.map (·.1.1)).Nodup) :
    KDict P w K d (es.map fun e => (Sum.inl e.1.1, V.int e.2.1)) := by
  refine ⟨hd, fun h KX => ⟨es.map fun e => (Sum.inl e.1.1, Value.int e.2.1 e.2.2), ?_, _, _, _, KX _ _ hl, ⟨rfl, rfl, rfl⟩, rfl, ?_, ?_, ?_⟩⟩
  · clear hl hn
    induction es with
    | nil => exact .nil
    | cons e es ih => exact .cons ⟨rfl, ⟨_, rfl⟩⟩ ih
  · intro e he
    have he' : e ∈ es.map fun e => (⟨hashInt e.1.1, .int e.1.1 e.1.2, .int e.2.1 e.2.2⟩ : DictEntry) := by simpa using he
    obtain ⟨x, _, rfl⟩ := List.mem_map.mp he'
    exact ⟨Sum.inl x.1.1, by show Value.isInt x.1.1 (.int x.1.1 x.1.2) = true; simp [Value.isInt], rfl⟩
  · clear hl hn
    show Pairs _ ((es.map fun e => (⟨hashInt e.1.1, .int e.1.1 e.1.2, .int e.2.1 e.2.2⟩ : DictEntry)).toArray).toList _
    rw [List.toList_toArray]
    induction es with
    | nil => exact .nil
    | cons e es ih => exact .cons (by show Value.isInt e.1.1 (.int e.1.1 e.1.2) = true; simp [Value.isInt]) rfl ih
  · rw [List.map_map]
    show (es.map fun e => (Sum.inl e.1.1 : Key)).Nodup
    clear hl
    induction es with
    | nil => exact List.nodup_nil
    | cons e es ih =>
      rw [List.map_cons, List.nodup_cons] at hn ⊢
      refine ⟨fun m => hn.1 ?_, ih hn.2⟩
      obtain ⟨x, hx, ex⟩ := List.mem_map.mp m
      exact List.mem_map.mpr ⟨x, hx, Sum.inl.inj ex⟩
end L2
end
section
set_option Elab.async false
set_option linter.all false
set_option maxRecDepth 100000
set_option maxHeartbeats 4000000
namespace ErP
open PySem PySem.Spec PyProof.Rows L2
open Er (IsK Lt2 okKind kindI cellI rowI bitsK)
open Lw (Fmt fmt)

def shp (f : Fmt) : List (Str × V) := [("fraction_bits", .int f.m), ("sign", .int f.signBit), ("infinite", .int f.infBits), ("none", .int f.nanBits), ("least_power", .int f.least), ("unit_depth", .int ((f.m : Int) - f.least))]
theorem shp_s (f : Fmt) : (shp f).lookup ("sign" : Str) = some (V.int f.signBit) := rfl
theorem shp_i (f : Fmt) : (shp f).lookup ("infinite" : Str) = some (V.int f.infBits) := rfl
def ShapeAt (C : Addr) (H : Hp) (p : Addr) (k : Nat) : Prop := IsK k ∧ ∃ dx, H p = some (.ins C dx (shp (fmt k)))
theorem ShapeAt.mono {C : Addr} {H H' : Hp} {p : Addr} {k : Nat} (h : ShapeAt C H p k) (s : Same H H') : ShapeAt C H' p k := ⟨h.1, let ⟨dx, e⟩ := h.2; ⟨dx, s _ _ e⟩⟩
theorem inI {hi z : Int} (h : PySem.W.Codec.inInt 0 hi z = true) : 0 ≤ z := by
  unfold PySem.W.Codec.inInt at h
  simp only [Bool.and_eq_true, decide_eq_true_eq] at h
  exact h.1
def kvS : List (Key × V) := [(Sum.inl 1, .int 8), (Sum.inl 2, .int 16), (Sum.inl 3, .int 32), (Sum.inl 4, .int 64)]
def kvU : List (Key × V) := [(Sum.inl 5, .int 8), (Sum.inl 6, .int 16), (Sum.inl 7, .int 32), (Sum.inl 8, .int 64)]
def kvF (a9 a10 a11 a12 : Addr) : List (Key × V) := [(Sum.inl 9, V.ref a9), (Sum.inl 10, .ref a10), (Sum.inl 11, .ref a11), (Sum.inl 12, .ref a12)]
def TabI (P : Program) (w : World) (K : PySem.W.Frag) (mg : Str → Option Value) (x : Str) (kvs : List (Key × V)) : Prop := ∃ D : Addr, mg x = some (.ref D) ∧ KDict P w K D kvs
def TabF (P : Program) (w : World) (K : PySem.W.Frag) (mg : Str → Option Value) : Prop := ∃ D a9 a10 a11 a12 : Addr, mg "FLOATING_KINDS" = some (.ref D) ∧ KDict P w K D (kvF a9 a10 a11 a12) ∧
  (∀ H : Hp, SqT K H a9 [.int 5, .int 10]) ∧ (∀ H : Hp, SqT K H a10 [.int 8, .int 7]) ∧ (∀ H : Hp, SqT K H a11 [.int 8, .int 23]) ∧ (∀ H : Hp, SqT K H a12 [.int 11, .int 52])
def sgnK (kind : Int) : Bool := decide (1 ≤ kind) && decide (kind ≤ 4)
def unsK (kind : Int) : Bool := decide (5 ≤ kind) && decide (kind ≤ 8)
def wholeK (kind : Int) : Bool := sgnK kind || unsK kind
theorem key_dec (kind n : Int) : decide ((Sum.inl n : Key) = Sum.inl kind) = decide (kind = n) := by
  rw [Bool.eq_iff_iff, decide_eq_true_eq, decide_eq_true_eq]
  exact ⟨fun z => (Sum.inl.inj z).symm, fun z => by rw [z]⟩
theorem sgn_cases {kind : Int} (h : sgnK kind = true) : kind = 1 ∨ kind = 2 ∨ kind = 3 ∨ kind = 4 := by
  unfold sgnK at h
  simp only [Bool.and_eq_true, decide_eq_true_eq] at h
  omega
theorem uns_cases {kind : Int} (h : unsK kind = true) : kind = 5 ∨ kind = 6 ∨ kind = 7 ∨ kind = 8 := by
  unfold unsK at h
  simp only [Bool.and_eq_true, decide_eq_true_eq] at h
  omega
theorem okK_cases {kind : Int} (h : okKind kind = true) : kind = 9 ∨ kind = 10 ∨ kind = 11 ∨ kind = 12 := by
  unfold okKind at h
  simpa using h
theorem val_S (kind : Int) : (valV kvS (Sum.inl kind : Key)).isSome = sgnK kind := by
  rw [← valV_any]
  unfold sgnK kvS
  simp only [List.any_cons, List.any_nil, Bool.or_false, key_dec]
  rw [Bool.eq_iff_iff]
  simp only [Bool.or_eq_true, Bool.and_eq_true, decide_eq_true_eq]
  omega
theorem val_U (kind : Int) : (valV kvU (Sum.inl kind : Key)).isSome = unsK kind := by
  rw [← valV_any]
  unfold unsK kvU
  simp only [List.any_cons, List.any_nil, Bool.or_false, key_dec]
  rw [Bool.eq_iff_iff]
  simp only [Bool.or_eq_true, Bool.and_eq_true, decide_eq_true_eq]
  omega
theorem val_F {a9 a10 a11 a12 : Addr} (kind : Int) : (valV (kvF a9 a10 a11 a12) (Sum.inl kind : Key)).isSome = okKind kind := by
  rw [← valV_any]
  unfold okKind kvF
  simp only [List.any_cons, List.any_nil, Bool.or_false, key_dec]
theorem get_S {kind : Int} (h : sgnK kind = true) : valV kvS (Sum.inl kind : Key) = some (.int ((bitsK kind.toNat : Nat) : Int)) := by
  rcases sgn_cases h with h | h | h | h <;> subst h <;> rfl
theorem get_U {kind : Int} (h : unsK kind = true) : valV kvU (Sum.inl kind : Key) = some (.int ((bitsK kind.toNat : Nat) : Int)) := by
  rcases uns_cases h with h | h | h | h <;> subst h <;> rfl
theorem get_F {K : PySem.W.Frag} {a9 a10 a11 a12 : Addr} (t9 : ∀ H : Hp, SqT K H a9 [.int 5, .int 10]) (t10 : ∀ H : Hp, SqT K H a10 [.int 8, .int 7]) (t11 : ∀ H : Hp, SqT K H a11 [.int 8, .int 23]) (t12 : ∀ H : Hp, SqT K H a12 [.int 11, .int 52])
    {kind : Int} (h : okKind kind = true) : ∃ ak, valV (kvF a9 a10 a11 a12) (Sum.inl kind : Key) = some (.ref ak) ∧ ∀ H : Hp, SqT K H ak [.int (fmt kind.toNat).e, .int (fmt kind.toNat).m] := by
  rcases okK_cases h with h | h | h | h <;> subst h
  · exact ⟨a9, rfl, t9⟩
  · exact ⟨a10, rfl, t10⟩
  · exact ⟨a11, rfl, t11⟩
  · exact ⟨a12, rfl, t12⟩
theorem kind_parts (kind : Int) : kindI kind = (wholeK kind || okKind kind) := by
  unfold kindI wholeK sgnK unsK okKind
  rw [Bool.eq_iff_iff]
  simp only [Bool.or_eq_true, Bool.and_eq_true, decide_eq_true_eq]
  omega
theorem bits_F {kind : Int} (h : okKind kind = true) : (1 : Int) + (fmt kind.toNat).e + (fmt kind.toNat).m = ((bitsK kind.toNat : Nat) : Int) := by
  rcases okK_cases h with h | h | h | h <;> subst h <;> rfl
theorem bits_le {kind : Int} (h : kindI kind = true) : bitsK kind.toNat ≤ 64 := by
  unfold kindI at h
  simp only [Bool.and_eq_true, decide_eq_true_eq] at h
  have : kind = 1 ∨ kind = 2 ∨ kind = 3 ∨ kind = 4 ∨ kind = 5 ∨ kind = 6 ∨ kind = 7 ∨ kind = 8 ∨ kind = 9 ∨ kind = 10 ∨ kind = 11 ∨ kind = 12 := by omega
  rcases this with h | h | h | h | h | h | h | h | h | h | h | h <;> subst h <;> decide
section
variable (K : PySem.W.Frag) (C N : Addr)
def sp_is_floating : Sp := fun vs H Q _ => ∃ kind : Int, vs = [.int kind] ∧ Q (.bl (okKind kind)) H
def sp_is_whole : Sp := fun vs H Q _ => ∃ kind : Int, vs = [.int kind] ∧ Q (.bl (wholeK kind)) H
def sp_Shape : Sp := fun vs H Q _ => ∃ (p dx : Addr) (k : Nat), vs = [.ref p, .int (fmt k).e, .int (fmt k).m] ∧ IsK k ∧ H p = some (.ins C dx []) ∧ ∀ H' : Hp, H' p = some (.ins C dx (shp (fmt k))) → (∀ b o, H b = some o → b ≠ p → H' b = some o) → Q .non H'
def sp_shape_of : Sp := fun vs H Q _ => ∃ kind : Int, vs = [.int kind] ∧ okKind kind = true ∧ ∀ (H' : Hp) (p : Addr), Same H H' → ShapeAt C H' p kind.toNat → Q (.ref p) H'
def sp_bits_of : Sp := fun vs H Q _ => ∃ kind : Int, vs = [.int kind] ∧ kindI kind = true ∧ Q (.int ((bitsK kind.toNat : Nat) : Int)) H
def sp_are_cells : Sp := fun vs H Q _ => ∃ (kind : Int) (a : Addr) (x : List Int), vs = [.int kind, .ref a] ∧ kindI kind = true ∧ SqL K H a (x.map V.int) ∧ x.length ≤ 8500 ∧ ∀ H' : Hp, Same H H' → Q (.bl (x.all (cellI kind.toNat))) H'
def sp_cells_refusal : Sp := fun vs H Q _ => ∃ (kind : Int) (a : Addr) (x : List Int) (most : Nat), vs = [.int kind, .ref a, .int most] ∧ kindI kind = true ∧ SqL K H a (x.map V.int) ∧ x.length ≤ 8500 ∧ ∀ H' : Hp, Same H H' → Q (.int (if rowI kind.toNat most x = true then 0 else -1)) H'
end
end ErP
end
section
set_option Elab.async false
set_option linter.all false
set_option maxRecDepth 100000
set_option maxHeartbeats 4000000
namespace ErP
open PySem PySem.Spec PyProof.Rows L2
open Er (IsK Lt2 okKind kindI cellI rowI bitsK)
open Lw (Fmt fmt)
section
variable {K : PySem.W.Frag}
theorem fmt_few {k : Nat} (h : IsK k) : (0 ≤ ((fmt k).e : Int) ∧ ((fmt k).e : Int) ≤ 11) ∧ 1 ≤ ((fmt k).m : Int) ∧ ((fmt k).m : Int) ≤ 52 := by
  have := h.e
  have := h.m
  have := h.good.m
  omega
theorem lt1 (n : Nat) (h : 0 < n) : Lt2 1 n := by
  unfold Lt2
  exact Nat.one_lt_two_pow (by omega)
theorem unit_eq {f : Fmt} {c : Int} (hc : 0 ≤ c) :
    Builtin.bitAnd c ((2 : Int) ^ f.m - 1) = (Er.rOf f c.toNat : Int) ∧ Builtin.bitAnd c (f.infBits : Int) / 2 ^ f.m = (Er.xOf f c.toNat : Int) ∧ (Builtin.bitAnd c (f.signBit : Int) ≠ 0 ↔ Er.sOf f c.toNat = true) := by
  have hp := Nat.two_pow_pos f.m
  refine ⟨?_, ?_, ?_⟩
  · have e : (2 : Int) ^ f.m - 1 = ((2 ^ f.m - 1 : Nat) : Int) := by
      rw [Int.natCast_sub hp, Int.natCast_pow]; rfl
    rw [e, bitAnd_pp hc (by omega), Int.toNat_natCast, Er.and_low]
    rfl
  · rw [bitAnd_pp hc (by omega), Int.toNat_natCast, Lw.Fmt.infBits, Er.and_high]
    have e : ((2 : Int) ^ f.m) = ((2 ^ f.m : Nat) : Int) := by rw [Int.natCast_pow]; rfl
    rw [e, ← Int.natCast_ediv, Nat.mul_div_cancel _ hp]
    rfl
  · rw [bitAnd_pp hc (by omega), Int.toNat_natCast, Lw.Fmt.signBit]
    have := Er.and_bit c.toNat (f.e + f.m)
    unfold Er.sOf
    rw [← this]
    omega
theorem get_map {x : List Int} {i : Nat} {y : V} (h : (x.map V.int)[i]? = some y) : ∃ c, x[i]? = some c ∧ y = .int c := by
  rw [List.getElem?_map] at h
  obtain ⟨c, h1, h2⟩ := Option.map_eq_some_iff.mp h
  exact ⟨c, h1, h2.symm⟩
def vI (g : Int → V) : V → V
  | .int c => g c
  | v => v
theorem map_vI (g : Int → V) (x : List Int) : (x.map V.int).map (vI g) = x.map g := by rw [List.map_map]; rfl
theorem len_ltM {x : List Int} (h : x.length ≤ 8500) : (x.map V.int).length < sizeLine := by
  rw [List.length_map]
  exact Nat.lt_of_le_of_lt h (by decide)
theorem paired_len {α β : Type} {R : α → β → Prop} {as : List α} {bs : List β} (h : Paired R as bs) : as.length = bs.length := Paired.length h
theorem paired_get {α β : Type} {R : α → β → Prop} : ∀ {as : List α} {bs : List β} {i : Nat} {a : α}, Paired R as bs → as[i]? = some a → ∃ b, bs[i]? = some b ∧ R a b
  | _, _, _, _, .nil, e => by simp at e
  | _, _, 0, _, .cons r _, e => by
    simp at e
    subst e
    exact ⟨_, rfl, r⟩
  | _, _, i + 1, a, .cons _ t, e => by
    obtain ⟨x, h1, h2⟩ := paired_get (i := i) (a := a) t (by simpa using e)
    exact ⟨x, by simpa using h1, h2⟩
theorem paired_of {α β : Type} {R : α → β → Prop} : ∀ {as : List α} {bs : List β}, as.length = bs.length → (∀ (i : Nat) a b, as[i]? = some a → bs[i]? = some b → R a b) → Paired R as bs
  | [], [], _, _ => .nil
  | [], _ :: _, h, _ => by simp at h
  | _ :: _, [], h, _ => by simp at h
  | a :: as, b :: bs, h, hr => .cons (hr 0 a b rfl rfl) (paired_of (by simpa using h) fun i a' b' h1 h2 => hr (i + 1) a' b' (by simpa using h1) (by simpa using h2))
theorem paired_imp {α β : Type} {R S : α → β → Prop} (h : ∀ a b, R a b → S a b) : ∀ {as : List α} {bs : List β}, Paired R as bs → Paired S as bs
  | _, _, .nil => .nil
  | _, _, .cons r t => .cons (h _ _ r) (paired_imp h t)
theorem refs_get {as : List Addr} {i : Nat} {y : V} (h : (as.map V.ref)[i]? = some y) : ∃ a, as[i]? = some a ∧ y = .ref a := by
  rw [List.getElem?_map] at h
  obtain ⟨c, h1, h2⟩ := Option.map_eq_some_iff.mp h
  exact ⟨c, h1, h2.symm⟩
end
end ErP
end
section
set_option Elab.async false
set_option linter.all false
set_option maxRecDepth 100000
set_option maxHeartbeats 4000000
namespace ErP
open PySem PySem.Spec PyProof.Rows L2
open Er (IsK Lt2 okKind kindI cellI rowI bitsK)
open Lw (Fmt fmt)
section
variable (K : PySem.W.Frag) (C N : Addr)
end
section
variable {K : PySem.W.Frag} {C N : Addr}
end
end ErP
end
section
set_option Elab.async false
set_option linter.all false
set_option maxRecDepth 100000
set_option maxHeartbeats 4000000
namespace L2
open PySem PySem.Spec PyProof.Rows
section
variable {X : Cx}
end
end L2
end
section
set_option Elab.async false
set_option linter.all false
set_option maxRecDepth 100000
set_option maxHeartbeats 4000000
namespace ErP
open PySem PySem.Spec PyProof.Rows L2
open Er (Lt2)
open Lw (Four turnWord mill millRound drawBelow tried triesFrom W32)
section
variable (K : PySem.W.Frag) (C N : Addr)
end
end ErP
end
section
set_option Elab.async false
set_option linter.all false
set_option maxRecDepth 100000
set_option maxHeartbeats 4000000
namespace ErP
open PySem PySem.Spec PyProof.Rows L2
open Er (IsK Lt2 okKind kindI cellI rowI bitsK mag valI nanI valKey nanK nanC vKey)
open Lw (Fmt fmt)
section
variable (K : PySem.W.Frag) (C N : Addr)
def sp_row_refusal : Sp := fun vs H Q _ => ∃ (kind : Int) (a : Addr) (x : List Int), vs = [.int kind, .ref a] ∧ SqL K H a (x.map V.int) ∧ x.length ≤ 8500 ∧ ∀ H' : Hp, Same H H' → Q (.int (if (kindI kind && rowI kind.toNat 4096 x) = true then 0 else -1)) H'
def sp_size_bits : Sp := fun vs H Q _ => ∃ (p : Addr) (k : Nat) (c : Int), vs = [.ref p, .int c] ∧ ShapeAt C H p k ∧ 0 ≤ c ∧ Q (.int ((mag (fmt k) c.toNat : Nat) : Int)) H
def sp_floating_place : Sp := fun vs H Q _ => ∃ (p : Addr) (k : Nat) (c : Int), vs = [.ref p, .int c] ∧ ShapeAt C H p k ∧ 0 ≤ c ∧ Q (.int (valI k c)) H
def sp_signed_numbers : Sp := fun vs H Q _ => ∃ (kind : Int) (a : Addr) (x : List Int), vs = [.int ((bitsK kind.toNat : Nat) : Int), .ref a] ∧ sgnK kind = true ∧ SqL K H a (x.map V.int) ∧ x.length ≤ 8500 ∧ (∀ c ∈ x, 0 ≤ c) ∧ ∀ (H' : Hp) (q : Addr), Same H H' → H' q = some (.lst ((x.map (valI kind.toNat)).map V.int)) → H q = none → Q (.ref q) H'
def sp_value_places : Sp := fun vs H Q _ => ∃ (kind : Int) (a : Addr) (x : List Int), vs = [.int kind, .ref a] ∧ kindI kind = true ∧ SqL K H a (x.map V.int) ∧ x.length ≤ 8500 ∧ (∀ c ∈ x, 0 ≤ c) ∧ ∀ (H' : Hp) (q : Addr), Same H H' → H' q = some (.lst ((x.map (valI kind.toNat)).map V.int)) → H q = none → Q (.ref q) H'
def atMost (l : List Int) (z : Int) : Nat := (l.filter fun (y : Int) => decide (y ≤ z)).length
def sp_count_at_most : Sp := fun vs H Q _ => ∃ (a : Addr) (l : List Int) (z : Int), vs = [.ref a, .int z] ∧ SqL K H a (l.map V.int) ∧ l.length ≤ 8500 ∧ l.Pairwise (· ≤ ·) ∧ Q (.int ((atMost l z : Nat) : Int)) H
end
theorem mag_and {k : Nat} {c : Int} (hc : 0 ≤ c) : Builtin.bitAnd c (((fmt k).signBit : Int) - 1) = ((mag (fmt k) c.toNat : Nat) : Int) := by
  have hp : 0 < (fmt k).signBit := Nat.two_pow_pos _
  have e : ((fmt k).signBit : Int) - 1 = (((fmt k).signBit - 1 : Nat) : Int) := by omega
  rw [e, bitAnd_pp hc (by omega), Int.toNat_natCast, Lw.Fmt.signBit, Er.and_low]
  rfl
theorem isFloat_of {k : Nat} (h : IsK k) : Lw.isFloat k = true := Er.isFloat_isK.mpr h
theorem val_float {k : Nat} (h : IsK k) (c : Int) : valI k c = if (fmt k).infBits < mag (fmt k) c.toNat then 2 ^ 64 else if Er.sOf (fmt k) c.toNat = true then -((mag (fmt k) c.toNat : Nat) : Int) else ((mag (fmt k) c.toNat : Nat) : Int) := by
  unfold valI valKey
  rw [if_pos (isFloat_of h)]
  unfold nanC vKey
  simp only [decide_eq_true_eq]
theorem sgn_facts {kind : Int} (h : sgnK kind = true) : Lw.isFloat kind.toNat = false ∧ Lw.isSigned kind.toNat = true ∧ Lw.width kind.toNat = bitsK kind.toNat ∧ 1 ≤ bitsK kind.toNat ∧ bitsK kind.toNat ≤ 64 := by
  rcases sgn_cases h with h | h | h | h <;> subst h <;> decide
theorem val_sgn {kind : Int} (h : sgnK kind = true) {c : Int} (hc : 0 ≤ c) : valI kind.toNat c = if (2 : Int) ^ (bitsK kind.toNat - 1) ≤ c then c - 2 * 2 ^ (bitsK kind.toNat - 1) else c := by
  obtain ⟨h1, h2, h3, h4, _⟩ := sgn_facts h
  unfold valI valKey
  rw [if_neg (by rw [h1]; decide)]
  unfold Lw.toInt
  rw [h3]
  have e : (2 : Int) ^ bitsK kind.toNat = 2 * 2 ^ (bitsK kind.toNat - 1) := by
    have : bitsK kind.toNat = (bitsK kind.toNat - 1) + 1 := by omega
    rw [this, Int.pow_succ, Nat.add_sub_cancel, Int.mul_comm]
  have e2 : (2 : Int) ^ (bitsK kind.toNat - 1) = (((2 : Nat) ^ (bitsK kind.toNat - 1) : Nat) : Int) := by rw [Int.natCast_pow]; rfl
  rw [e, e2]
  clear e e2
  generalize (2 : Nat) ^ (bitsK kind.toNat - 1) = P
  by_cases g : (P : Int) ≤ c
  · rw [if_pos ⟨h2, (by omega : P ≤ c.toNat)⟩, if_pos g]
    omega
  · rw [if_neg (fun z => g (by have : P ≤ c.toNat := z.2; omega)), if_neg g]
    omega
theorem val_uns {kind : Int} (h : unsK kind = true) {c : Int} (hc : 0 ≤ c) : valI kind.toNat c = c := by
  have h1 : Lw.isFloat kind.toNat = false ∧ Lw.isSigned kind.toNat = false := by rcases uns_cases h with h | h | h | h <;> subst h <;> decide
  unfold valI valKey
  rw [if_neg (by rw [h1.1]; decide)]
  unfold Lw.toInt
  rw [if_neg (by rw [h1.2]; simp)]
  omega
theorem map_id_of {g : Int → Int} {x : List Int} (h : ∀ c ∈ x, g c = c) : x.map g = x := by
  conv => rhs; rw [← List.map_id x]
  exact List.map_congr_left h
theorem wf_kind {kind : Int} (hk : kindI kind = true) (h1 : sgnK kind = false) (h2 : unsK kind = false) : okKind kind = true := by
  rw [kind_parts] at hk
  unfold wholeK at hk
  simpa [h1, h2] using hk
theorem nan_val {kind : Int} (hk : kindI kind = true) {c : Int} (h0 : 0 ≤ c) (hc : cellI kind.toNat c = true) : (valI kind.toNat c = 2 ^ 64 ↔ nanI kind.toNat c = true) ∧ valI kind.toNat c ≤ 2 ^ 64 := by
  have hK := Er.kindI_K hk
  have cc : Er.cellK kind.toNat c.toNat := by
    unfold cellI bitsK at hc
    simp only [Bool.and_eq_true, decide_eq_true_eq] at hc
    unfold Er.cellK
    have e : ((2 ^ (8 * Lw.sizeOf kind.toNat) : Nat) : Int) = (2 : Int) ^ (8 * Lw.sizeOf kind.toNat) := by rw [Int.natCast_pow]; rfl
    omega
  unfold valI nanI
  cases h : nanK kind.toNat c.toNat
  · have := Er.valKey_lt hK cc h
    refine ⟨⟨fun z => ?_, fun z => by cases z⟩, by omega⟩
    omega
  · rw [Er.valKey_nan h]
    exact ⟨⟨fun _ => rfl, fun _ => rfl⟩, Int.le_refl _⟩
/-- where the numbers of a list that never falls cross a limit -/
theorem atMost_split {l : List Int} {z : Int} {c : Nat} (hc : c ≤ l.length) (h1 : ∀ i, i < c → l.getD i 0 ≤ z) (h2 : ∀ i, c ≤ i → i < l.length → z < l.getD i 0) : atMost l z = c := by
  unfold atMost
  induction l generalizing c with
  | nil => simp at hc; subst hc; rfl
  | cons a l ih =>
    rw [List.filter_cons]
    cases c with
    | zero =>
      have h := h2 0 (by omega) (by simp)
      have h : z < a := h
      rw [if_neg (by simp only [decide_eq_true_eq]; omega)]
      refine ih (by omega) (fun i hi => by omega) fun i hi hl => ?_
      have := h2 (i + 1) (by omega) (by simp; omega)
      simpa using this
    | succ c =>
      have h : a ≤ z := h1 0 (by omega)
      rw [if_pos (by simp only [decide_eq_true_eq]; omega), List.length_cons]
      congr 1
      refine ih (by simp at hc; omega) (fun i hi => ?_) fun i hi hl => ?_
      · have := h1 (i + 1) (by omega)
        simpa using this
      · have := h2 (i + 1) (by omega) (by simp; omega)
        simpa using this
theorem pw_getD {l : List Int} (h : l.Pairwise (· ≤ ·)) {i j : Nat} (hij : i ≤ j) (hj : j < l.length) : l.getD i 0 ≤ l.getD j 0 := by
  rw [List.getD_eq_getElem?_getD, List.getD_eq_getElem?_getD, List.getElem?_eq_getElem hj, List.getElem?_eq_getElem (by omega)]
  by_cases e : i = j
  · subst e; exact Int.le_refl _
  · exact List.pairwise_iff_getElem.mp h i j (by omega) hj (by omega)
theorem getI_at {l : List Int} {i : Nat} (h : i < l.length) : (l.map V.int)[i]? = some (.int (l.getD i 0)) := by
  rw [List.getElem?_map, List.getElem?_eq_getElem h, List.getD_eq_getElem?_getD, List.getElem?_eq_getElem h]
  rfl
end ErP
end
section
set_option Elab.async false
set_option linter.all false
set_option maxRecDepth 100000
set_option maxHeartbeats 4000000
namespace L2
open PySem PySem.Spec PyProof.Rows
section
variable {X : Cx} {pins : List (Addr × Obj)} {σ : St} {H : Hp} {s : Shared}
end
section
variable {prog : Program} {w : World} {A : Around} {E : Value → Shared → Prop} {s : Shared}
theorem sh_old {h : Heap} {a b : Addr} {vs : List Value} {out : Array Value} {o : Obj} (hb : b ≠ a) (e : h.get? b = some o) : (sortedHeap h a vs out).get? b = some o := by
  unfold sortedHeap
  rw [Heap.get?_update_ne _ _ _ _ hb]
  exact Heap.get?_push_of_some _ (Heap.get?_push_of_some _ (by rw [Heap.get?_update_ne _ _ _ _ hb]; exact e))
theorem sh_at {h : Heap} {a : Addr} {vs : List Value} {out : Array Value} {xs : Array Value} {n : Nat} (e : h.get? a = some (seqObj "list" xs n)) : ∃ ep, (sortedHeap h a vs out).get? a = some (seqObj "list" out ep) := by
  unfold sortedHeap
  have e1 := get?_update_seq e (fun _ => #[])
  exact ⟨_, get?_update_seq (Heap.get?_push_of_some _ (Heap.get?_push_of_some _ e1)) (fun _ => out)⟩
end
section
variable {X : Cx} {o : Expr} {td : TE} {p pos apos cpos : Pos}
theorem boot_sorted1 : bootBuiltins "sorted" = some (.builtin "sorted") := by decide +kernel
end
end L2
end
section
set_option Elab.async false
set_option linter.all false
set_option maxRecDepth 100000
set_option maxHeartbeats 4000000
namespace L2
open PySem PySem.Spec PyProof.Rows
section
variable {X : Cx} {pos : Pos}
def tDNewKT : TE := fun _ H Q => (∀ p, H p = none → Q (.ref p) (upd H p (.dK []))) ∨ (∀ p, H p = none → Q (.ref p) (upd H p (.dT [])))
theorem pe_dnewKT : PE X (.Dict [] [] pos) tDNewKT := fun pins s σ H Q I h => h.elim (fun h => pe_dnewK pins s σ H Q I h) fun h => pe_dnewT pins s σ H Q I h
end
end L2
namespace ErP
open PySem PySem.Spec PyProof.Rows L2
open Er (IsK Lt2 okKind kindI cellI rowI bitsK mag valI nanI)
open Lw (Fmt fmt)
section
variable {α κ : Type} [DecidableEq α] [DecidableEq κ]
def firsts : List α → List α := List.foldl (fun acc v => if v ∈ acc then acc else acc ++ [v]) []
theorem firsts_snoc (l : List α) (v : α) : firsts (l ++ [v]) = if v ∈ firsts l then firsts l else firsts l ++ [v] := by
  unfold firsts
  rw [List.foldl_append]
  rfl
theorem rev_ind {β : Type} {m : List β → Prop} (h0 : m []) (h1 : ∀ l v, m l → m (l ++ [v])) : ∀ l, m l := by
  intro l
  have : ∀ n (l : List β), l.length = n → m l := by
    intro n
    induction n with
    | zero => intro l hl; rw [List.length_eq_zero_iff.mp hl]; exact h0
    | succ n ih =>
      intro l hl
      have hne : l ≠ [] := fun e => by rw [e] at hl; cases hl
      rw [← List.dropLast_concat_getLast hne]
      exact h1 _ _ (ih _ (by rw [List.length_dropLast, hl]; rfl))
  exact this _ l rfl
theorem mem_firsts (l : List α) : ∀ v : α, v ∈ firsts l ↔ v ∈ l := by
  refine rev_ind (m := fun l => ∀ v : α, v ∈ firsts l ↔ v ∈ l) (fun v => Iff.rfl) (fun l u ih v => ?_) l
  rw [firsts_snoc]
  by_cases c : u ∈ firsts l
  · rw [if_pos c, List.mem_append, List.mem_singleton, ih]
    refine ⟨.inl, fun h => h.elim id fun e => ?_⟩
    rw [e]
    exact (ih u).mp c
  · rw [if_neg c, List.mem_append, List.mem_append, ih]
theorem nodup_firsts (l : List α) : (firsts l).Nodup := by
  refine rev_ind (m := fun l : List α => (firsts l).Nodup) List.nodup_nil (fun l u ih => ?_) l
  rw [firsts_snoc]
  by_cases c : u ∈ firsts l
  · rw [if_pos c]; exact ih
  · rw [if_neg c]
    exact nd_snoc ih c
def cntKV (key : α → κ) (l : List α) : List (κ × V) := (firsts l).map fun v => (key v, V.int ((l.count v : Nat) : Int))
theorem cnt_val {key : α → κ} (hk : ∀ a b, key a = key b → a = b) (l : List α) (v : α) : valV (cntKV key l) (key v) = if v ∈ l then some (.int ((l.count v : Nat) : Int)) else none := by
  unfold cntKV
  have gen : ∀ fs : List α, valV (fs.map fun v => (key v, V.int ((l.count v : Nat) : Int))) (key v) = if v ∈ fs then some (.int ((l.count v : Nat) : Int)) else none := by
    intro fs
    induction fs with
    | nil => rfl
    | cons f fs ih =>
      rw [List.map_cons]
      by_cases e : f = v
      · subst e
        rw [valV_pos rfl, if_pos (List.mem_cons_self ..)]
      · rw [valV_neg (fun z => e (hk _ _ z)), ih]
        by_cases m : v ∈ fs
        · rw [if_pos m, if_pos (List.mem_cons_of_mem _ m)]
        · rw [if_neg m, if_neg (fun z => (List.mem_cons.mp z).elim (fun w => e w.symm) m)]
  rw [gen]
  by_cases m : v ∈ l
  · rw [if_pos m, if_pos ((mem_firsts l v).mpr m)]
  · rw [if_neg m, if_neg (fun z => m ((mem_firsts l v).mp z))]
theorem cnt_getD {key : α → κ} (hk : ∀ a b, key a = key b → a = b) (l : List α) (v : α) : (valV (cntKV key l) (key v)).getD (.int 0) = .int ((l.count v : Nat) : Int) := by
  rw [cnt_val hk]
  by_cases m : v ∈ l
  · rw [if_pos m]; rfl
  · rw [if_neg m, List.count_eq_zero_of_not_mem m]; rfl
theorem cnt_put {key : α → κ} (hk : ∀ a b, key a = key b → a = b) (l : List α) (v : α) : putK (cntKV key l) (key v) (.int (((l.count v : Nat) : Int) + 1)) = cntKV key (l ++ [v]) := by
  have hc : ∀ u, (l ++ [v]).count u = l.count u + if u = v then 1 else 0 := fun u => by
    rw [List.count_append]
    congr 1
    by_cases e : u = v
    · subst e; simp
    · rw [if_neg e]
      exact List.count_eq_zero_of_not_mem (by simp [e])
  by_cases m : v ∈ l
  · unfold putK
    rw [valV_any, cnt_val hk, if_pos m, if_pos (show (some (V.int ((l.count v : Nat) : Int))).isSome = true from rfl)]
    unfold cntKV
    rw [firsts_snoc, if_pos ((mem_firsts l v).mpr m), List.map_map]
    apply List.map_congr_left
    intro u hu
    show (if key u = key v then (key u, V.int (((l.count v : Nat) : Int) + 1)) else (key u, V.int ((l.count u : Nat) : Int))) = (key u, V.int (((l ++ [v]).count u : Nat) : Int))
    rw [hc]
    by_cases e : u = v
    · subst e
      rw [if_pos rfl, if_pos rfl, Int.natCast_add]
      rfl
    · rw [if_neg (fun z => e (hk _ _ z)), if_neg e, Nat.add_zero]
  · rw [putK_new _ (by rw [cnt_val hk, if_neg m])]
    unfold cntKV
    rw [firsts_snoc, if_neg (fun z => m ((mem_firsts l v).mp z)), List.map_append]
    congr 1
    · apply List.map_congr_left
      intro u hu
      have : u ≠ v := fun e => m ((mem_firsts l v).mp (by rw [← e]; exact hu))
      rw [hc, if_neg this, Nat.add_zero]
    · rw [List.map_cons, List.map_nil, hc, if_pos rfl, List.count_eq_zero_of_not_mem m]
      rfl
theorem cnt_len (key : α → κ) (l : List α) : (cntKV key l).length ≤ l.length := by
  unfold cntKV
  rw [List.length_map]
  refine rev_ind (m := fun l : List α => (firsts l).length ≤ l.length) (Nat.le_refl _) (fun l u ih => ?_) l
  rw [firsts_snoc, List.length_append, List.length_singleton]
  split
  · omega
  · rw [List.length_append, List.length_singleton]; omega
end
def kI : Int → Key := Sum.inl
theorem kI_inj : ∀ a b : Int, kI a = kI b → a = b := fun a b h => Sum.inl.inj h
def kP : Int × Int → List Key := fun p => [Sum.inl p.1, Sum.inl p.2]
theorem kP_inj : ∀ a b : Int × Int, kP a = kP b → a = b := fun a b h => by
  have h1 := (List.cons.inj h).1
  have h2 := (List.cons.inj (List.cons.inj h).2).1
  exact Prod.ext (Sum.inl.inj h1) (Sum.inl.inj h2)
section
variable (K : PySem.W.Frag) (C N : Addr)
def sp_counted : Sp := fun vs H Q _ => ∃ a : Addr, vs = [.ref a] ∧
  ((∃ l : List Int, SqL K H a (l.map V.int) ∧ l.length ≤ 8500 ∧ ∀ (H' : Hp) (d : Addr), Same H H' → H' d = some (.dK (cntKV kI l)) → H d = none → Q (.ref d) H') ∨
   (∃ (l : List (Int × Int)) (ts : List Addr), SqL K H a (ts.map V.ref) ∧ Paired (fun t (p : Int × Int) => H t = some (.tup [.int p.1, .int p.2])) ts l ∧ l.length ≤ 8500 ∧ ∀ (H' : Hp) (d : Addr), Same H H' → H' d = some (.dT (cntKV kP l)) → H d = none → Q (.ref d) H'))
end
end ErP
end
section
set_option Elab.async false
set_option linter.all false
set_option maxRecDepth 100000
set_option maxHeartbeats 4000000
namespace L2
open PySem PySem.Spec PyProof.Rows
def lexLe (p q : Int × Int) : Prop := p.1 < q.1 ∨ (p.1 = q.1 ∧ p.2 ≤ q.2)
def TupAt (h : Heap) (t : Addr) (p : Int × Int) : Prop := ∃ (o : Obj) (n : Nat) (t1 t2 : Tok), h.get? t = some o ∧ o.cls = .type "tuple" ∧ o.data = .seq #[.int p.1 t1, .int p.2 t2] n
theorem TupAt.inj {h : Heap} {t : Addr} {p q : Int × Int} (a : TupAt h t p) (b : TupAt h t q) : p = q := by
  obtain ⟨o, n, t1, t2, e1, _, d1⟩ := a
  obtain ⟨o', n', u1, u2, e2, _, d2⟩ := b
  rw [e1] at e2
  cases e2
  rw [d1] at d2
  injection d2 with d3 _
  have d4 := congrArg Array.toList d3
  simp at d4
  exact Prod.ext d4.1.1 d4.2.1
theorem TupAt.keep {h h' : Heap} {t : Addr} {p : Int × Int} (k : ∀ o, h.get? t = some o → h'.get? t = some o) (a : TupAt h t p) : TupAt h' t p := by
  obtain ⟨o, n, t1, t2, e1, r⟩ := a
  exact ⟨o, n, t1, t2, k _ e1, r⟩
open Classical in
noncomputable def keyOfT (h : Heap) (t : Addr) : Int × Int := if e : ∃ p, TupAt h t p then e.choose else (0, 0)
theorem keyOfT_eq {h : Heap} {t : Addr} {p : Int × Int} (a : TupAt h t p) : keyOfT h t = p := by
  unfold keyOfT
  rw [dif_pos ⟨p, a⟩]
  exact (Exists.choose_spec (⟨p, a⟩ : ∃ p, TupAt h t p)).inj a
def addrOf : Value → Addr
  | .ref a => a
  | _ => 0
def noTexts : Nat → Bool := fun _ => false
theorem key_tup {h : Heap} {t : Addr} {p : Int × Int} (a : TupAt h t p) : G.tupKeyC h noTexts (.ref t) = some [Sum.inl p.1, Sum.inl p.2] := by
  obtain ⟨o, n, t1, t2, ho, hc, hd⟩ := a
  unfold G.tupKeyC
  rw [if_pos (by simp [G.isTupObj, ho, hc])]
  simp only [tupKey, ho, hd]
  rfl
theorem tups_of {h : Heap} : ∀ {ts : List Addr} {ps : List (Int × Int)}, Paired (TupAt h) ts ps → ∃ fs, TupsOf h noTexts (ts.map Value.ref) fs
  | _, _, .nil => ⟨[], .nil⟩
  | _, _, .cons a r => by
    obtain ⟨fs, hf⟩ := tups_of r
    obtain ⟨o, n, t1, t2, ho, hc, hd⟩ := a
    exact ⟨_ :: fs, .cons ⟨_, o, _, n, rfl, ho, hc, hd, rfl, fun _ => ⟨_, _, rfl⟩, fun z => absurd z (by decide)⟩ hf⟩
theorem lex_le {a b c d : Int} (h : PyProof.Rows.lexLt itemOrd [Sum.inl c, Sum.inl d] [Sum.inl a, Sum.inl b] = false) : lexLe (a, b) (c, d) := by
  have h1 : (decide (c < a) || (!decide (a < c) && (decide (d < b) || (!decide (b < d) && false)))) = false := h
  unfold lexLe
  simp only [Bool.or_eq_false_iff, Bool.and_eq_false_iff, Bool.not_eq_false', decide_eq_false_iff_not, decide_eq_true_eq, Bool.and_false, Bool.or_false] at h1
  omega
theorem tup_keys {h : Heap} {ts : List Addr} {ps : List (Int × Int)} (hp : Paired (TupAt h) ts ps) : ps = ts.map (keyOfT h) ∧ ∀ t ∈ ts, TupAt h t (keyOfT h t) := by
  induction hp with
  | nil => exact ⟨rfl, by simp⟩
  | cons a r ih =>
    refine ⟨by rw [List.map_cons, ← ih.1, keyOfT_eq a], fun t ht => ?_⟩
    rcases List.mem_cons.mp ht with e | e
    · rw [e, keyOfT_eq a]; exact a
    · exact ih.2 t e
theorem tup_out {h : Heap} {ts : List Addr} {ps : List (Int × Int)} (hp : Paired (TupAt h) ts ps) {arr : Array Keyed} (hperm : arr.Perm (pairsOf (ts.map Value.ref))) (hs : SortedToK (G.tupKindC h noTexts) arr (pairsOf (ts.map Value.ref)).size) :
    ∃ (ts' : List Addr) (ps' : List (Int × Int)), arr.map (·.2) = (ts'.map Value.ref).toArray ∧ Paired (TupAt h) ts' ps' ∧ ps'.Perm ps ∧ ps'.Pairwise lexLe ∧ ∀ t ∈ ts', t ∈ ts := by
  obtain ⟨hk1, hk2⟩ := tup_keys hp
  have hl : arr.toList.Perm ((ts.map Value.ref).zip (ts.map Value.ref)) := by
    have e := Array.perm_iff_toList_perm.mp hperm
    rw [pairsOf_toList] at e
    exact e
  have hq : ∀ q ∈ arr.toList, ∃ t ∈ ts, q = (Value.ref t, Value.ref t) := fun q hm => by
    obtain ⟨e1, e2⟩ := mem_zip_self (hl.mem_iff.mp hm)
    obtain ⟨t, ht, e⟩ := List.mem_map.mp e2
    exact ⟨t, ht, Prod.ext e.symm (by rw [← e1]; exact e.symm)⟩
  have hsnd : ((ts.map Value.ref).zip (ts.map Value.ref)).map (fun q => addrOf q.2) = ts := by
    clear hl hs hperm hk1 hk2 hp hq
    induction ts with
    | nil => rfl
    | cons t ts ih => exact congrArg (t :: ·) ih
  refine ⟨arr.toList.map fun q => addrOf q.2, (arr.toList.map fun q => addrOf q.2).map (keyOfT h), ?_, ?_, ?_, ?_, ?_⟩
  · apply Array.ext'
    rw [Array.toList_map, List.toList_toArray, List.map_map]
    apply List.map_congr_left
    intro q hm
    obtain ⟨t, _, rfl⟩ := hq q hm
    rfl
  · refine ErP.paired_of (by simp) fun i t p h1 h2 => ?_
    rw [List.getElem?_map, h1] at h2
    cases Option.some.inj h2
    rw [List.getElem?_map] at h1
    obtain ⟨q, hqi, e⟩ := Option.map_eq_some_iff.mp h1
    obtain ⟨t', ht', rfl⟩ := hq q (List.mem_of_getElem? hqi)
    cases e
    exact hk2 _ ht'
  · rw [hk1]
    refine List.Perm.map _ ?_
    have := hl.map fun q => addrOf q.2
    rw [hsnd] at this
    exact this
  · refine List.pairwise_iff_getElem.mpr fun i j hi hj hij => ?_
    rw [List.length_map, List.length_map] at hi hj
    have ai : arr.toList[i]? = some arr.toList[i] := List.getElem?_eq_getElem hi
    have aj : arr.toList[j]? = some arr.toList[j] := List.getElem?_eq_getElem hj
    obtain ⟨ti, hti, ei⟩ := hq _ (List.mem_of_getElem? ai)
    obtain ⟨tj, htj, ej⟩ := hq _ (List.mem_of_getElem? aj)
    have hz : (pairsOf (ts.map Value.ref)).size = arr.toList.length := by rw [hperm.size_eq.symm, Array.length_toList]
    have ki : KK (G.tupKindC h noTexts) arr i = [Sum.inl (keyOfT h ti).1, Sum.inl (keyOfT h ti).2] := by
      unfold KK
      rw [← Array.getElem?_toList, ai, ei]
      show (G.tupKeyC h noTexts (.ref ti)).getD [] = _
      rw [key_tup (hk2 ti hti)]
      rfl
    have kj : KK (G.tupKindC h noTexts) arr j = [Sum.inl (keyOfT h tj).1, Sum.inl (keyOfT h tj).2] := by
      unfold KK
      rw [← Array.getElem?_toList, aj, ej]
      show (G.tupKeyC h noTexts (.ref tj)).getD [] = _
      rw [key_tup (hk2 tj htj)]
      rfl
    have hle := hs i j (by omega) (by omega)
    rw [ki, kj] at hle
    have := lex_le hle
    simp only [List.getElem_map, ei, ej]
    exact this
  · intro t ht
    obtain ⟨q, hm, e⟩ := List.mem_map.mp ht
    obtain ⟨t', ht', rfl⟩ := hq q hm
    cases e
    exact ht'
section
variable {prog : Program} {w : World} {A : Around} {E : Value → Shared → Prop} {s : Shared}
/-- sorted of what gives pairs of natInts -/
theorem sorted_tups_from {r : Addr} {ps : List (Int × Int)} {Q : Value → Shared → Prop} {Nw Kp : Addr → Prop} (hn : ps.length ≤ sizeLine)
    (hcol : ∀ {R : List Value → Shared → Prop}, (∀ (h' : Heap) (tk : Nat) (ts : List Addr), (∀ b o, Kp b → s.heap.get? b = some o → h'.get? b = some o) → s.heap.objs.size ≤ h'.objs.size → Paired (TupAt h') ts ps → (∀ t ∈ ts, Nw t) → R (ts.map Value.ref) { s with heap := h', toks := tk }) → wpAny (model prog w) A.in1 (collect (.ref r)) R E s)
    (hq : ∀ (D : Addr) (h' : Heap) (tk ep : Nat) (ts' : List Addr) (ps' : List (Int × Int)), s.heap.objs.size ≤ D → (∀ b o, Kp b → s.heap.get? b = some o → h'.get? b = some o) → h'.get? D = some (seqObj "list" (ts'.map Value.ref).toArray ep) → Paired (TupAt h') ts' ps' →
      ps'.Perm ps → ps'.Pairwise lexLe → (∀ t ∈ ts', Nw t ∧ t ≠ D) → Q (.ref D) { s with heap := h', toks := tk }) : wpAny (model prog w) A (call (.builtin "sorted") [.ref r]) Q E s := by
  apply Calls.call_function_entry kind_sorted plain_sorted entry_sorted (args_sorted1 _); unfold Builtin.«sorted»
  refine wpAny_bind (m := checkCount "sorted" 1 1 _) (wpAny_pure (wpAny_bind (hcol fun h1 tk ts k1 hle hP hNw => ?_)))
  have hl : (ts.map Value.ref).length = ps.length := by rw [List.length_map]; exact ErP.paired_len hP
  refine wpAny_bind (wpAny_newList ?_ (by rw [hl]; exact hn))
  have hL : (h1.push (seqObj "list" (ts.map Value.ref).toArray 0)).get? h1.objs.size = some (seqObj "list" (ts.map Value.ref).toArray 0) := Heap.get?_push_size _ rfl
  have hP1 : Paired (TupAt (h1.push (seqObj "list" (ts.map Value.ref).toArray 0))) ts ps := ErP.paired_imp (fun t p a => a.keep fun o e => Heap.get?_push_of_some _ e) hP
  obtain ⟨fs, hfs⟩ := tups_of hP1
  have hk : ∀ v, v ∈ ts.map Value.ref → ∃ l, G.tupKeyC (h1.push (seqObj "list" (ts.map Value.ref).toArray 0)) noTexts v = some l := fun v hv => by
    obtain ⟨t, ht, rfl⟩ := List.mem_map.mp hv
    exact ⟨_, key_tup ((tup_keys hP1).2 t ht)⟩
  have hlt : ∀ t ∈ ts, t ≠ h1.objs.size := fun t ht => by
    obtain ⟨o, _, _, _, e, _⟩ := (tup_keys hP).2 t ht
    exact Nat.ne_of_lt (Heap.lt_size e)
  refine wpAny_bind (wpAny_holding (wpAny_call_entry slot_list_sort ⟨_, hL, rfl⟩ entry_list_sort (G.list_sort_tups hL hfs hk (by rw [hl]; exact hn) fun st' g1 g2 _ => ⟨_, rfl, ?_⟩) (args_list_sort _)))
  obtain ⟨ts', ps', e1, e2, e3, e4, e5⟩ := tup_out hP1 g1 g2
  rw [e1]
  obtain ⟨ep, hep⟩ := sh_at (vs := ts.map Value.ref) (out := (ts'.map Value.ref).toArray) hL
  have e2' : Paired (TupAt (sortedHeap (h1.push (seqObj "list" (ts.map Value.ref).toArray 0)) h1.objs.size (ts.map Value.ref) (ts'.map Value.ref).toArray)) ts' ps' :=
    ErP.paired_of (ErP.paired_len e2) fun i t p h1' h2' => by
      have hm := List.mem_of_getElem? h1'
      obtain ⟨p', hp', ha⟩ := ErP.paired_get e2 h1'
      rw [h2'] at hp'
      cases Option.some.inj hp'
      exact ha.keep fun o e => sh_old (hlt t (e5 t hm)) e
  exact wpAny_pure ⟨_, rfl, hq _ _ tk ep ts' ps' hle (fun b o hb e => sh_old (Nat.ne_of_lt (Heap.lt_size (k1 _ _ hb e))) (Heap.get?_push_of_some _ (k1 _ _ hb e))) hep e2' e3 e4 fun t ht => ⟨hNw t (e5 t ht), hlt t (e5 t ht)⟩⟩
end
end L2
end
section
set_option Elab.async false
set_option linter.all false
set_option maxRecDepth 100000
set_option maxHeartbeats 4000000
namespace L2
open PySem PySem.Spec PyProof.Rows
def ZipObj (h : Heap) (z TI TO : Addr) (f0 : Value) (f1 : Bool) : Prop := h.get? z = some { cls := .type "zip", dict := none, data := .fields #[f0, .bool f1, .bool false, .ref TI, .ref TO], slots := #[] }
section
variable {prog : Program} {w : World} {A : Around} {E : Value → Shared → Prop} {s : Shared}
theorem zip_held_item {z TI TO i1 i2 l1 l2 T : Addr} {k1 k2 : Nat} {xs ys : Array Value} {x y : Value} {f1 : Bool} {oT : Obj} {Q : Option Value → Shared → Prop} (D : ZipApart z TI TO i1 i2 l1 l2)
    (hz : ZipObj s.heap z TI TO (rawInt T) f1) (hT : s.heap.get? T = some oT) (hTI : IsPair s.heap TI (.ref i1) (.ref i2))
    (h1 : s.heap.IsListIter i1 l1 k1) (h2 : s.heap.IsListIter i2 l2 k2) (hl1 : s.heap.IsList l1 xs) (hl2 : s.heap.IsList l2 ys) (hx : xs[k1]? = some x) (hy : ys[k2]? = some y)
    (hQ : ∀ h', ZipObj h' z TI TO (rawInt T) true → h'.IsListIter i1 l1 (k1 + 1) → h'.IsListIter i2 l2 (k2 + 1) → IsPair h' s.heap.objs.size x y → h'.objs.size = s.heap.objs.size + 1 →
      (∀ c o, c ≠ z → c ≠ i1 → c ≠ i2 → s.heap.get? c = some o → h'.get? c = some o) → Q (some (.ref s.heap.objs.size)) { s with heap := h' }) :
    wpAny (model prog w) A (pyNext (.ref z)) Q E s := by
  have hTy : s.TypeIs (.ref z) "zip" := ⟨_, hz, rfl⟩
  unfold pyNext
  refine wpAny_bind (wpAny_attempt (wpAny_callSpecial?_slot (name := Str.ofString "__next__") hTy F.slot_zip_next (wpAny_call_entry F.slot_zip_next hTy F.entry_zip_next ?_ (F.args_zip_next_1 _))))
  show wpAny _ _ (field (.ref z) 2 >>= _) _ _ _; refine wpAny_bind (wpAny_field hz rfl (x := .bool false) rfl ?_)
  show wpAny _ _ (field (.ref z) 3 >>= _) _ _ _; refine wpAny_bind (wpAny_field hz rfl (x := .ref TI) rfl (wpAny_bind (wpAny_seqItems hTI rfl ?_)))
  show wpAny _ _ (Builtin.SmallTypes.ownedTupleIsFree (.ref z) >>= _) _ _ _; refine wpAny_bind ?_
  unfold Builtin.SmallTypes.ownedTupleIsFree
  refine wpAny_bind (wpAny_field hz rfl (x := rawInt T) rfl ?_)
  show wpAny _ _ (loadIfAlive ((T : Int).toNat) >>= _) _ _ _; rw [Int.toNat_natCast]
  refine wpAny_bind (PySem.W.kdx_alive hT ?_)
  simp only [Option.isNone_some, Bool.false_eq_true, if_false]
  refine wpAny_bind (wpAny_field hz rfl (x := .bool f1) rfl ?_)
  cases f1 with
  | true =>
    rw [if_neg (show ¬ ((Value.bool true != Value.bool true) = true) by decide)]
    refine wpAny_pure ?_
    simp only [Bool.false_eq_true, if_false]
    obtain ⟨h₀, hh₀⟩ : ∃ h₀, h₀ = s.heap := ⟨_, rfl⟩
    have hz₀ : ZipObj h₀ z TI TO (rawInt T) true := by rw [hh₀]; exact hz
    have hs₀ : Heap.SameBut z s.heap h₀ := by rw [hh₀]; exact Heap.SameBut.refl _ _
    have es : s = { s with heap := h₀ } := by rw [hh₀]
    rw [es]
    clear es
    have a1 : h₀.IsListIter i1 l1 k1 := h1.extBut hs₀.extBut D.i1z
    have a2 : h₀.IsListIter i2 l2 k2 := h2.extBut hs₀.extBut D.i2z
    have b1 : h₀.IsList l1 xs := hl1.extBut hs₀.extBut D.l1z
    have b2 : h₀.IsList l2 ys := hl2.extBut hs₀.extBut D.l2z
    refine wpAny_bind ?_
    simp only [← Array.forIn_toList, List.forIn_cons, List.forIn_nil]
    refine wpAny_bind (wpAny_bind (wpAny_holding ?_))
    show wpAny _ _ (Builtin.SmallTypes.nextOf (.ref i1) >>= _) _ _ _; refine wpAny_bind (wpAny_nextOf_list_item a1 b1 hx fun h₂ h1₂ hs₂ => wpAny_pure (wpAny_pure ?_))
    refine wpAny_bind (wpAny_bind (wpAny_holding ?_))
    show wpAny _ _ (Builtin.SmallTypes.nextOf (.ref i2) >>= _) _ _ _; refine wpAny_bind (wpAny_nextOf_list_item (a2.extBut hs₂.extBut D.i12.symm) (b2.extBut hs₂.extBut D.l2i1) hy fun h₃ h2₃ hs₃ => wpAny_pure (wpAny_pure (wpAny_pure ?_)))
    refine wpAny_bind (wpAny_newTuple (wpAny_pure ⟨_, rfl, wpAny_pure ?_⟩) (hsz := by show 2 ≤ sizeLine; decide))
    have hsz : h₃.objs.size = s.heap.objs.size := by rw [hs₃.1, hs₂.1, hs₀.1]
    have up : ∀ c o, h₃.get? c = some o → (h₃.push { cls := .type "tuple", data := .seq #[x, y] }).get? c = some o := fun c o e => Heap.get?_push_of_some _ e
    show Q (some (.ref h₃.objs.size)) _
    rw [hsz]
    exact hQ _ (up _ _ (hs₃.extBut _ _ D.i2z.symm (hs₂.extBut _ _ D.i1z.symm hz₀))) ((h1₂.extBut hs₃.extBut D.i12).at fun o e => up _ o e) (h2₃.at fun o e => up _ o e) (by rw [← hsz]; exact Heap.get?_push_size _ rfl)
      (by rw [Heap.size_push, hsz]) fun c o c1 c2 c3 e => up _ _ (hs₃.extBut _ _ c3 (hs₂.extBut _ _ c2 (hs₀.extBut _ _ c1 e)))
  | false =>
    rw [if_pos (show (Value.bool false != Value.bool true) = true by decide)]
    refine wpAny_bind (wpAny_setField_rec hz (by simp) fun h₀ hz₀ hs₀ => wpAny_pure ?_)
    replace hz₀ : ZipObj h₀ z TI TO (rawInt T) true := hz₀
    replace hs₀ : Heap.SameBut z s.heap h₀ := hs₀
    simp only [Bool.false_eq_true, if_false]
    have a1 : h₀.IsListIter i1 l1 k1 := h1.extBut hs₀.extBut D.i1z
    have a2 : h₀.IsListIter i2 l2 k2 := h2.extBut hs₀.extBut D.i2z
    have b1 : h₀.IsList l1 xs := hl1.extBut hs₀.extBut D.l1z
    have b2 : h₀.IsList l2 ys := hl2.extBut hs₀.extBut D.l2z
    refine wpAny_bind ?_
    simp only [← Array.forIn_toList, List.forIn_cons, List.forIn_nil]
    refine wpAny_bind (wpAny_bind (wpAny_holding ?_))
    show wpAny _ _ (Builtin.SmallTypes.nextOf (.ref i1) >>= _) _ _ _; refine wpAny_bind (wpAny_nextOf_list_item a1 b1 hx fun h₂ h1₂ hs₂ => wpAny_pure (wpAny_pure ?_))
    refine wpAny_bind (wpAny_bind (wpAny_holding ?_))
    show wpAny _ _ (Builtin.SmallTypes.nextOf (.ref i2) >>= _) _ _ _; refine wpAny_bind (wpAny_nextOf_list_item (a2.extBut hs₂.extBut D.i12.symm) (b2.extBut hs₂.extBut D.l2i1) hy fun h₃ h2₃ hs₃ => wpAny_pure (wpAny_pure (wpAny_pure ?_)))
    refine wpAny_bind (wpAny_newTuple (wpAny_pure ⟨_, rfl, wpAny_pure ?_⟩) (hsz := by show 2 ≤ sizeLine; decide))
    have hsz : h₃.objs.size = s.heap.objs.size := by rw [hs₃.1, hs₂.1, hs₀.1]
    have up : ∀ c o, h₃.get? c = some o → (h₃.push { cls := .type "tuple", data := .seq #[x, y] }).get? c = some o := fun c o e => Heap.get?_push_of_some _ e
    show Q (some (.ref h₃.objs.size)) _
    rw [hsz]
    exact hQ _ (up _ _ (hs₃.extBut _ _ D.i2z.symm (hs₂.extBut _ _ D.i1z.symm hz₀))) ((h1₂.extBut hs₃.extBut D.i12).at fun o e => up _ o e) (h2₃.at fun o e => up _ o e) (by rw [← hsz]; exact Heap.get?_push_size _ rfl)
      (by rw [Heap.size_push, hsz]) fun c o c1 c2 c3 e => up _ _ (hs₃.extBut _ _ c3 (hs₂.extBut _ _ c2 (hs₀.extBut _ _ c1 e)))
theorem zip_held_end {z TI TO i1 i2 l1 l2 T : Addr} {k1 : Nat} {xs : Array Value} {f1 : Bool} {oT : Obj} {Q : Option Value → Shared → Prop} (hh : A.handled = none) (D : ZipApart z TI TO i1 i2 l1 l2)
    (hz : ZipObj s.heap z TI TO (rawInt T) f1) (hT : s.heap.get? T = some oT) (hTI : IsPair s.heap TI (.ref i1) (.ref i2))
    (h1 : s.heap.IsListIter i1 l1 k1) (hl1 : s.heap.IsList l1 xs) (hx : xs[k1]? = none)
    (hQ : ∀ h', (∀ c o, c ≠ z → c ≠ i1 → s.heap.get? c = some o → h'.get? c = some o) → Q none { s with heap := h' }) :
    wpAny (model prog w) A (pyNext (.ref z)) Q E s := by
  have hTy : s.TypeIs (.ref z) "zip" := ⟨_, hz, rfl⟩
  unfold pyNext
  refine wpAny_bind (wpAny_attempt (wpAny_callSpecial?_slot (name := Str.ofString "__next__") hTy F.slot_zip_next (wpAny_call_entry F.slot_zip_next hTy F.entry_zip_next ?_ (F.args_zip_next_1 _))))
  show wpAny _ _ (field (.ref z) 2 >>= _) _ _ _; refine wpAny_bind (wpAny_field hz rfl (x := .bool false) rfl ?_)
  show wpAny _ _ (field (.ref z) 3 >>= _) _ _ _; refine wpAny_bind (wpAny_field hz rfl (x := .ref TI) rfl (wpAny_bind (wpAny_seqItems hTI rfl ?_)))
  show wpAny _ _ (Builtin.SmallTypes.ownedTupleIsFree (.ref z) >>= _) _ _ _; refine wpAny_bind ?_
  unfold Builtin.SmallTypes.ownedTupleIsFree
  refine wpAny_bind (wpAny_field hz rfl (x := rawInt T) rfl ?_)
  show wpAny _ _ (loadIfAlive ((T : Int).toNat) >>= _) _ _ _; rw [Int.toNat_natCast]
  refine wpAny_bind (PySem.W.kdx_alive hT ?_)
  simp only [Option.isNone_some, Bool.false_eq_true, if_false]
  refine wpAny_bind (wpAny_field hz rfl (x := .bool f1) rfl ?_)
  cases f1 with
  | true =>
    rw [if_neg (show ¬ ((Value.bool true != Value.bool true) = true) by decide)]
    refine wpAny_pure ?_
    simp only [Bool.false_eq_true, if_false]
    refine wpAny_bind ?_
    simp only [← Array.forIn_toList, List.forIn_cons, List.forIn_nil]
    refine wpAny_bind (wpAny_bind (wpAny_holding ?_))
    show wpAny _ _ (Builtin.SmallTypes.nextOf (.ref i1) >>= _) _ _ _; refine wpAny_bind (wpAny_nextOf_list_end hh h1 hl1 hx fun h₂ e hs₂ he => ?_)
    obtain ⟨o, ho, hc⟩ := he
    exact wpAny_bind (wpAny_isInstance (T := "StopIteration") (b := true) ⟨o, ho, hc⟩ isSubtype_stop (wpAny_pure (hQ _ fun c o _ c2 x => hs₂ _ _ c2 x)))
  | false =>
    rw [if_pos (show (Value.bool false != Value.bool true) = true by decide)]
    refine wpAny_bind (wpAny_setField_rec hz (by simp) fun h₀ hz₀ hs₀ => wpAny_pure ?_)
    replace hs₀ : Heap.SameBut z s.heap h₀ := hs₀
    simp only [Bool.false_eq_true, if_false]
    refine wpAny_bind ?_
    simp only [← Array.forIn_toList, List.forIn_cons, List.forIn_nil]
    refine wpAny_bind (wpAny_bind (wpAny_holding ?_))
    show wpAny _ _ (Builtin.SmallTypes.nextOf (.ref i1) >>= _) _ _ _; refine wpAny_bind (wpAny_nextOf_list_end hh (h1.extBut hs₀.extBut D.i1z) (hl1.extBut hs₀.extBut D.l1z) hx fun h₂ e hs₂ he => ?_)
    obtain ⟨o, ho, hc⟩ := he
    exact wpAny_bind (wpAny_isInstance (T := "StopIteration") (b := true) ⟨o, ho, hc⟩ isSubtype_stop (wpAny_pure (hQ _ fun c o c1 c2 x => hs₂ _ _ c2 (hs₀.extBut _ _ c1 x))))
end
section
variable {prog : Program} {w : World} {A : Around} {E : Value → Shared → Prop} {s : Shared} {z TI TO i1 i2 la lb n0 : Addr} {vx vy : Array Value}
end
end L2
end
section
set_option Elab.async false
set_option linter.all false
set_option maxRecDepth 100000
set_option maxHeartbeats 4000000
namespace L2
open PySem PySem.Spec PyProof.Rows
section
variable {prog : Program} {w : World} {A : Around} {E : Value → Shared → Prop} {s : Shared} {z TI TO i1 i2 la lb : Addr} {vx vy : Array Value}
end
theorem tupAt_of {P : Program} {w : World} {K : PySem.W.Frag} {H : Hp} {h : Heap} {t : Addr} {p : Int × Int} (hok : HOk P w H h) (KX : K.In h) (q : SqT K H t [.int p.1, .int p.2]) : TupAt h t p := by
  obtain ⟨its, o, n, hv, ho, hc, hd⟩ := sqT_at hok KX q
  cases hv with
  | cons r1 rr =>
    cases rr with
    | cons r2 rr =>
      cases rr
      obtain ⟨t1, rfl⟩ := r1
      obtain ⟨t2, rfl⟩ := r2
      exact ⟨o, n, t1, t2, ho, hc, by simpa using hd⟩
section
variable {X : Cx}
def rSortedT (K : PySem.W.Frag) : List V → Hp → VK → Prop := fun vs H Q => ∃ (a : Addr) (ts : List Addr) (ps : List (Int × Int)), vs = [V.ref a] ∧ SqL K H a (ts.map V.ref) ∧ Paired (fun t (p : Int × Int) => SqT K H t [.int p.1, .int p.2]) ts ps ∧
  ∀ (ts' : List Addr) (ps' : List (Int × Int)) (q : Addr), ps'.Perm ps → ps'.Pairwise lexLe → Paired (fun t (p : Int × Int) => SqT K H t [.int p.1, .int p.2]) ts' ps' → H q = none → Q (.ref q) (upd H q (.lst (ts'.map V.ref)))
theorem refs_vals : ∀ {ts : List Addr} {us : List Value}, Vals (ts.map V.ref) us → us = ts.map Value.ref
  | [], us, h => by cases h; rfl
  | t :: ts, us, h => by
    cases h with
    | cons r rr =>
      rw [refs_vals rr]
      cases r
      rfl
theorem vals_refs : ∀ ts : List Addr, Vals (ts.map V.ref) (ts.map Value.ref)
  | [] => .nil
  | t :: ts => .cons rfl (vals_refs ts)
theorem cr_sortedT : CallR X (.builtin "sorted") (rSortedT X.K) := by
  intro pins s σ H vs us Q I r h
  obtain ⟨a, ts, ps, rfl, hs, hP, q⟩ := h
  obtain ⟨its, rv, hl, hzl⟩ := I.list hs
  rw [Vals.ref1 r]
  have ei := refs_vals rv
  subst ei
  have hlen : ts.length = ps.length := ErP.paired_len hP
  have hA : Paired (TupAt s.heap) ts ps := ErP.paired_imp (fun t p z => tupAt_of I.hok I.kIn z) hP
  refine sorted_tups_from (Kp := fun _ => True) (Nw := fun t => t ∈ ts) (ps := ps) (by rw [← hlen]; simpa using hzl) (fun hR => collect_list hl.isList (hR _ s.toks ts (fun b o _ e => ?_) ?_ ?_ fun t ht => ht)) fun D h' tk ep ts' ps' hD k2 hL hT' hp hsrt hN => ?_
  · rw [Heap.get?_update_ne _ _ _ _ (Nat.ne_of_lt (Heap.lt_size e))]
    exact Heap.get?_push_of_some _ e
  · rw [Heap.size_update, Heap.size_push]
    exact Nat.le_succ _
  · exact ErP.paired_imp (fun t p z => z.keep fun o e => by
      rw [Heap.get?_update_ne _ _ _ _ (Nat.ne_of_lt (Heap.lt_size e))]
      exact Heap.get?_push_of_some _ e) hA
  · have hHD : H D = none := I.hok.fresh hD
    have hll : (ts'.map V.ref).length ≤ sizeLine := by
      rw [List.length_map, ErP.paired_len hT', hp.length_eq, ← hlen]
      simpa using hzl
    refine ⟨.ref D, _, I.laid (t' := tk) (o := .lst (ts'.map V.ref)) (fun b o e => k2 b o trivial e) hD ⟨hll, ts'.map Value.ref, ep, vals_refs ts', by simpa [seqObj] using hL⟩, rfl, q ts' ps' D hp hsrt (ErP.paired_of (ErP.paired_len hT') fun i t p e1 e2 => ?_) hHD⟩
    obtain ⟨p', hp', ha⟩ := ErP.paired_get hT' e1
    rw [e2] at hp'
    cases Option.some.inj hp'
    obtain ⟨j, hj⟩ := List.mem_iff_getElem?.mp (hN t (List.mem_of_getElem? e1)).1
    obtain ⟨p2, _, hq2⟩ := ErP.paired_get hP hj
    have ha2 : TupAt h' t p2 := (tupAt_of I.hok I.kIn hq2).keep fun o e => k2 _ _ trivial e
    rw [ha.inj ha2]
    exact hq2
end
end L2
end
section
set_option Elab.async false
set_option linter.all false
set_option maxRecDepth 100000
set_option maxHeartbeats 4000000
namespace L2
open PySem PySem.Spec PyProof.Rows
theorem ins_fits {k : Nat} (h : k < 16777216) : ¬ (!Builtin.List.listFitsIndex ((k : Nat) : Int)) = true := by
  have hf : Builtin.List.listFitsIndex ((k : Nat) : Int) = true := fitsIndex_both (Int.le_trans (by decide) (Int.natCast_nonneg k)) (Int.lt_of_lt_of_le (Int.ofNat_lt.mpr h) (by decide))
  rw [hf]
  decide
section
variable {X : Cx}
def rInsert : V → List V → Hp → VK → Prop := fun x vs H Q => ∃ (l : Addr) (xs : List V) (k : Nat) (y : V), x = .ref l ∧ vs = [.int ((k : Nat) : Int), y] ∧ H l = some (.lst xs) ∧ k ≤ xs.length ∧ xs.length < sizeLine ∧ Q .non (upd H l (.lst (xs.take k ++ y :: xs.drop k)))
theorem mt_insert : MtM X "list.insert" rInsert := by
  intro pins s σ H x vs v us Q I rx rv h
  obtain ⟨l, xs, k, y, rfl, rfl, hH, hk, hz, q⟩ := h
  cases rx
  obtain ⟨u, u2, rfl, ru, ru2⟩ := rv.two
  obtain ⟨t, rfl⟩ := ru
  obtain ⟨z, its, n, r, hl, e⟩ := I.lstM hH
  have hk24 : k < 16777216 := Nat.lt_of_le_of_lt hk hz
  have hfit := ins_fits hk24
  have hsz : its.toArray.size ≤ sizeLine := by rw [List.size_toArray]; omega
  have hi0 : ¬ (((k : Nat) : Int) < 0) := by omega
  have hin : (((k : Nat) : Int)).toNat = k := Int.toNat_natCast k
  generalize ((k : Nat) : Int) = i at hfit hi0 hin ⊢
  refine call_meets F.slot_list_insert ⟨_, e, rfl⟩ F.entry_list_insert (F.args_list_insert_3 _ _ _) (AutoSeq1.list_insert_list_int_val_1 l its.toArray n i t u2 hfit hsz) ⟨e, ?_⟩
  refine ⟨.non, _, I.lset (its' := its.take k ++ u2 :: its.drop k) hH e ?_ ((r.take k).append (.cons ru2 (r.drop k))) ?_, rfl, q⟩
  · have h2 : min i.toNat its.toArray.size = k := by rw [List.size_toArray, hin]; omega
    show (its.toArray.extract 0 (if i < 0 then _ else min i.toNat its.toArray.size)).push u2 ++ its.toArray.extract (if i < 0 then _ else min i.toNat its.toArray.size) = _
    rw [if_neg hi0, h2]
    simp
    exact List.take_of_length_le (by rw [List.length_drop]; exact Nat.le_refl _)
  · rw [List.length_append, List.length_cons, List.length_take, List.length_drop]
    omega
end
section
variable {prog : Program} {w : World} {A : Around} {E : Value → Shared → Prop} {s : Shared}
theorem meets_vals {d : Addr} (hd : (d == sysModules) = false) : MeetsIn prog w (Builtin.«dict.values» ⟨[.ref d], []⟩) (fun _ R s => s.TypeIs (.ref d) "dict" ∧ R (.ok (.ret (.ref s.heap.objs.size))) { s with heap := s.heap.push { cls := .type "dict_values", data := .fields #[.ref d] } }) :=
  .of_wp fun A R s ⟨hT, h⟩ => by
    refine wpAny_bind ?_; unfold Builtin.Dict.noArgs
    refine wpAny_bind (wpAny_notOrdered_dict hT ?_); show wpAny _ _ (pure d) _ _ s
    refine wpAny_pure ?_; show wpAny _ _ (Builtin.Dict.showsAll d >>= _) _ _ s
    unfold Builtin.Dict.showsAll; rw [if_neg (by rw [hd]; exact Bool.false_ne_true)]
    refine wpAny_bind (wpAny_pure ?_); exact wpAny_bind (wpAny_newObj_type (wpAny_pure ⟨_, rfl, h⟩))
theorem iter_vals {v d : Addr} {o : Obj} {es : Array DictEntry} {ep : Nat} {Q : Value → Shared → Prop} (hv : s.heap.IsValuesView v d) (ho : s.heap.get? d = some o) (hdat : o.data = .dict es ep)
    (hQ : Q (.ref s.heap.objs.size) { s with heap := s.heap.push { cls := .type "dict_valueiterator", data := .fields #[.ref d, .int 0 0, .int es.size 0, .int ep 0] } }) :
    wpAny (model prog w) A (pyIter (.ref v)) Q E s := by
  obtain ⟨ov, hov, hcv, hdv⟩ := id hv
  refine wpAny_pyIter_slot hv.typeIs F.slot_dict_values_iter (wpAny_call_entry F.slot_dict_values_iter hv.typeIs F.entry_dict_values_iter ?_ (F.args_dict_values_iter_1 _)); unfold Builtin.«dict_values.__iter__»
  refine wpAny_bind (wpAny_pure ?_); refine wpAny_bind ?_; unfold Builtin.Dict_items.dictOf
  refine wpAny_bind (wpAny_field hov hdv (x := .ref d) rfl (wpAny_pure ?_)); refine wpAny_bind ?_; unfold Builtin.Dict_items.newIterator
  refine wpAny_bind (wpAny_dictEntries ho hdat ?_); refine wpAny_bind (wpAny_dictEpoch ho hdat ?_)
  have hown : Builtin.Dict_items.ownsTuple "dict_valueiterator" = false := (by decide)
  simp only [hown, Bool.false_eq_true, if_false]; refine wpAny_newObj_type (wpAny_pure ⟨_, rfl, "dict_valueiterator", _, ⟨_, Heap.get?_push_size _ rfl, rfl⟩, F.slot_dict_valueiterator_next.lookup, ?_⟩)
  simpa [rawInt] using hQ
theorem next_val_item {it d : Addr} {i n ep : Nat} {od : Obj} {es : Array DictEntry} {en : DictEntry} {Q : Option Value → Shared → Prop} (hit : s.heap.IsValIter it d i n ep) (hod : s.heap.get? d = some od) (hdd : od.data = .dict es ep)
    (hsz : es.size = n) (hx : es[i]? = some en) (hQ : ∀ h', h'.IsValIter it d (i + 1) n ep → Heap.SameBut it s.heap h' → Q (some en.val) { s with heap := h' }) : wpAny (model prog w) A (pyNext (.ref it)) Q E s := by
  obtain ⟨o, ho, hc, hd⟩ := id hit; unfold pyNext
  refine wpAny_bind (wpAny_attempt (wpAny_callSpecial?_slot (name := Str.ofString "__next__") hit.typeIs F.slot_dict_valueiterator_next (wpAny_call_entry F.slot_dict_valueiterator_next hit.typeIs F.entry_dict_valueiterator_next ?_ (F.args_dict_valueiterator_next_1 _))))
  refine wpAny_bind (wpAny_pure ?_); refine wpAny_bind ?_; refine wpAny_bind ?_
  (first | refine wpAny_bind (wpAny_typeNameOfWhole_valiter hit.typeIs (wpAny_pure ?_)) | refine wpAny_bind (wpAny_typeNameOf_valiter hit.typeIs (wpAny_pure ?_))); refine wpAny_bind (wpAny_fieldsOf ho hd ?_)
  have hown : Builtin.Dict_items.ownsTuple "dict_valueiterator" = false := (by decide)
  simp only [hown, Bool.false_eq_true, if_false]; show wpAny _ _ (if (Value.ref d == Value.none) = true then _ else _) _ _ s
  rw [if_neg (show ¬ ((Value.ref d == Value.none) = true) from Bool.false_ne_true)]; refine wpAny_bind (wpAny_pure ?_)
  refine wpAny_bind (wpAny_dictEntries hod hdd ?_); rw [if_neg (by rw [hsz]; simp)]
  refine wpAny_bind (wpAny_pure ?_); refine wpAny_bind (wpAny_dictEpoch hod hdd ?_); rw [if_neg (by simp)]; refine wpAny_pure ?_
  obtain ⟨hlt', hen⟩ := Array.getElem?_eq_some_iff.mp hx
  simp only [show ¬ ((i : Int) < 0) from by omega, if_false, Int.toNat_natCast, Array.getElem?_eq_getElem hlt']; refine wpAny_bind ?_
  (first | refine wpAny_bind (wpAny_typeNameOfWhole_valiter hit.typeIs (wpAny_pure ?_)) | refine wpAny_bind (wpAny_typeNameOf_valiter hit.typeIs (wpAny_pure ?_))); refine wpAny_bind (wpAny_isOneOf_valiter hit.typeIs ?_)
  show wpAny _ _ (setField (.ref it) 1 (rawInt ((i : Int) + 1)) >>= _) _ _ s; refine wpAny_bind (wpAny_setField ho hd (by simp) ?_)
  have hit' : (s.heap.update it (Obj.mapFields (·.setIfInBounds 1 (rawInt ((i : Int) + 1))))).IsValIter it d (i + 1) n ep :=
    ⟨_, Heap.get?_update_self _ ho (Obj.isFreed_of_fields (Obj.data_mapFields hd _)), (Obj.cls_mapFields ..).trans hc, by rw [Obj.data_mapFields hd] <;> simp [rawInt]⟩
  refine wpAny_bind (wpAny_holding ?_); refine wpAny_bind (wpAny_isOneOf_valiter (s := { s with heap := s.heap.update it (Obj.mapFields (·.setIfInBounds 1 (rawInt ((i : Int) + 1)))) }) hit'.typeIs ?_)
  refine wpAny_bind (wpAny_isOneOf_valiter (s := { s with heap := s.heap.update it (Obj.mapFields (·.setIfInBounds 1 (rawInt ((i : Int) + 1)))) }) hit'.typeIs ?_); show wpAny _ _ (pure es[i].val) _ _ _
  rw [hen]
  exact wpAny_pure (wpAny_pure ⟨_, rfl, wpAny_pure (hQ _ hit' (Heap.SameBut.update ..))⟩)
theorem next_val_end {it d : Addr} {i n ep : Nat} {od : Obj} {es : Array DictEntry} {Q : Option Value → Shared → Prop} (hh : A.handled = none) (hit : s.heap.IsValIter it d i n ep) (hod : s.heap.get? d = some od) (hdd : od.data = .dict es ep)
    (hsz : es.size = n) (hge : n ≤ i) (hQ : ∀ h', Heap.ExtBut it s.heap h' → Q none { s with heap := h' }) : wpAny (model prog w) A (pyNext (.ref it)) Q E s := by
  obtain ⟨o, ho, hc, hd⟩ := id hit; unfold pyNext
  refine wpAny_bind (wpAny_attempt (wpAny_callSpecial?_slot (name := Str.ofString "__next__") hit.typeIs F.slot_dict_valueiterator_next (wpAny_call_entry F.slot_dict_valueiterator_next hit.typeIs F.entry_dict_valueiterator_next ?_ (F.args_dict_valueiterator_next_1 _))))
  refine wpAny_bind (wpAny_pure ?_); refine wpAny_bind ?_; refine wpAny_bind ?_
  (first | refine wpAny_bind (wpAny_typeNameOfWhole_valiter hit.typeIs (wpAny_pure ?_)) | refine wpAny_bind (wpAny_typeNameOf_valiter hit.typeIs (wpAny_pure ?_))); refine wpAny_bind (wpAny_fieldsOf ho hd ?_)
  have hown : Builtin.Dict_items.ownsTuple "dict_valueiterator" = false := (by decide)
  simp only [hown, Bool.false_eq_true, if_false]; show wpAny _ _ (if (Value.ref d == Value.none) = true then _ else _) _ _ s
  rw [if_neg (show ¬ ((Value.ref d == Value.none) = true) from Bool.false_ne_true)]; refine wpAny_bind (wpAny_pure ?_)
  refine wpAny_bind (wpAny_dictEntries hod hdd ?_); rw [if_neg (by rw [hsz]; simp)]
  refine wpAny_bind (wpAny_pure ?_); refine wpAny_bind (wpAny_dictEpoch hod hdd ?_); rw [if_neg (by simp)]; refine wpAny_pure ?_
  have hge' : es.size ≤ i := by rw [hsz]; exact hge
  simp only [show ¬ ((i : Int) < 0) from by omega, if_false, Int.toNat_natCast, Array.getElem?_eq_none hge']; refine wpAny_bind ?_
  (first | refine wpAny_bind (wpAny_typeNameOfWhole_valiter hit.typeIs (wpAny_pure ?_)) | refine wpAny_bind (wpAny_typeNameOf_valiter hit.typeIs (wpAny_pure ?_))); show wpAny _ _ (setField (.ref it) 0 .none >>= _) _ _ s
  refine wpAny_bind (wpAny_setField ho hd (by simp) ?_); show wpAny _ _ (newExc (.type "StopIteration") [] >>= _) _ _ _
  refine wpAny_bind ?_; simp only [newExc, newTuple]; refine wpAny_bind (wpAny_newObj_type ?_ (by size_fits))
  refine wpAny_bind (m := firstArgMember _ _) (wpAny_of_eq (a := Value.none) (by first | rfl | (simp only [firstArgMember]; rfl)) ?_); refine wpAny_newObj_type ?_ (by size_fits)
  simp only [raiseNew]; refine wpAny_bind (wpAny_handled ?_); rw [show A.in1.handled = none from hh]
  refine wpAny_bind (wpAny_pure (wpAny_throw ?_)); refine wpAny_bind (wpAny_isInstance (T := "StopIteration") (b := true) ⟨_, Heap.get?_push_size _ rfl, rfl⟩ isSubtype_stop ?_)
  exact wpAny_pure (hQ _ (((Heap.SameBut.update s.heap it _).extBut.push _).push _))
end
/-- the values of a locked dict of tuple keys -/
def Itdt (d : Addr) (o : Obj) (kvs : List (List Key × V)) : It :=
  ⟨fun i H => H d = some (.frz o (.dT kvs)) ∧ i < kvs.length, fun i H x H' => H' = H ∧ ∃ k, kvs[i]? = some (k, x), fun i H => H d = some (.frz o (.dT kvs)) ∧ kvs.length ≤ i⟩
theorem Inv.frzV {X : Cx} {pins : List (Addr × Obj)} {σ : St} {H : Hp} {s : Shared} {d : Addr} {o : Obj} {kvs : List (List Key × V)} (I : Inv X pins σ H s) (h : H d = some (.frz o (.dT kvs))) :
    (d == sysModules) = false ∧ s.heap.get? d = some o ∧ o.ExactDict ∧ ∃ (es : Array DictEntry) (ep : Nat), o.data = .dict es ep ∧ es.size = kvs.length ∧ ∀ (i : Nat) (k : List Key) (v : V), kvs[i]? = some (k, v) → ∃ (en : DictEntry), es[i]? = some en ∧ RelV v en.val := by
  obtain ⟨hd, z, hs, xs, pr, o', es, ep, ho, hx, hdt, he, _⟩ := I.hok d _ h
  rw [hd] at ho; cases ho
  refine ⟨hs, hd, hx, es, ep, hdt, ?_, fun i k v e => ?_⟩
  · have l1 : es.size = xs.length := size_of_entries he
    have l2 : kvs.length = xs.length := Paired.length pr
    omega
  · obtain ⟨b, hb, e1, e2, e3⟩ := paired_get pr e
    have q := entry_at he i
    rw [hb] at q
    exact ⟨_, q, e3⟩
section
variable {P : Program} {w : World} {K : PySem.W.Frag} {tg : Expr} {d : Addr} {o : Obj} {es : Array DictEntry} {ep : Nat}
theorem turn_valsT {kvs : List (List Key × V)} (it : Addr) (hod : o.data = .dict es ep) : Turn P w K tg (Itdt d o kvs) [it] it (fun i h => h.IsValIter it d i kvs.length ep) where
  mem := by simp
  obj := fun i h st b hb => by
    have e : b = it := by simpa using hb
    subst e; obtain ⟨oi, e, c, dd⟩ := st
    exact ⟨oi, e, fun v z => by rw [dd] at z; cases z⟩
  keep := fun i h h' st k => st.at fun oi e => k it (by simp) oi e
  item := by
    intro X hP hw hK hc i pins s σ H E I hf st hg
    subst hP hw hK; obtain ⟨hd, hi⟩ := hg; obtain ⟨f0, f1, f2, f3, f4, f5⟩ := hf it (by simp)
    obtain ⟨hs, hgd, hx, es', ep', hdt, hsz, ent⟩ := I.frzV hd
    obtain ⟨rfl, rfl⟩ := dict_ep hod hdt
    obtain ⟨⟨k, v⟩, hkv⟩ : ∃ p, kvs[i]? = some p := ⟨kvs[i], List.getElem?_eq_getElem hi⟩
    obtain ⟨en, hen, hval⟩ := ent i k v hkv
    refine next_val_item st hgd hdt hsz hen fun h' st' sb => ?_
    have I1 : Inv X pins σ H { s with heap := h' } := I.turned (t' := s.toks) (fun b ob hb e => (sb.2 b hb).trans e) f0 f1 f3 f4 f5
    obtain ⟨oi, e, c, dd⟩ := id st'
    exact ⟨en.val, rfl, go_of (s := { s with heap := h' }) e c dd (by decide) ⟨v, H, I1, hval, ⟨rfl, k, hkv⟩, st', fun b hb => (hf b hb).1⟩⟩
  done := by
    intro X hP hw hK hc i pins s σ H E I hf st hg
    subst hP hw hK; obtain ⟨hd, hi⟩ := hg; obtain ⟨f0, f1, f2, f3, f4, f5⟩ := hf it (by simp)
    obtain ⟨hs, hgd, hx, es', ep', hdt, hsz, ent⟩ := I.frzV hd
    obtain ⟨rfl, rfl⟩ := dict_ep hod hdt
    exact next_val_end (I.ok.hd hc) st hgd hdt hsz hi fun h' eb => ⟨rfl, I.turned (t' := s.toks) (fun b ob hb e => eb b ob hb e) f0 f1 f3 f4 f5⟩
  self := fun A i s Q E st h => wpAny_pyIter_valiter st h
end
def iValsKT (td : TE) : TI := fun σ H R => td σ H fun x H1 => ∃ d o, x = .ref d ∧ ((∃ kvs, H1 d = some (.frz o (.dK kvs)) ∧ R (Itd d o kvs) H1) ∨ ∃ kvs, H1 d = some (.frz o (.dT kvs)) ∧ R (Itdt d o kvs) H1)
section
variable {X : Cx} {tg e : Expr} {td : TE} {apos cpos : Pos}
theorem pi_valuesKT (he : PE X e td) (hbase : attributeBase e "values" X.env (eval e X.env) = eval e X.env := by rfl) (hline : (apos.endLine == cpos.line) = true := by rfl) : PI X tg (.Call (.Attribute e "values" apos) [] [] cpos) (iValsKT td) := by
  intro pins s σ H R I h
  refine wpAny_Call_method (T := "dict") (id := "dict.values") hbase rfl hline F.plainAttrs_dict F.slot_dict_values F.type_dict_values (thn (he pins s σ H _ I h) fun u s1 ⟨x, H1, I1, rx, d, o, ex, q⟩ => ?_)
  subst ex
  obtain rfl : u = Value.ref d := rx
  have I2 : Inv X pins σ H1 { s1 with heap := s1.heap.push { cls := .type "dict_values", data := .fields #[.ref d] } } := I1.kept (t' := s1.toks) fun b ob q => Heap.get?_push_of_some _ q
  have main : ∀ (es : Array DictEntry) (ep : Nat), (d == sysModules) = false → s1.heap.get? d = some o → o.ExactDict → o.data = .dict es ep → wpAny (model X.prog X.w) X.A (pyIter (.ref s1.heap.objs.size)) (PIE X pins σ tg R) X.xe { s1 with heap := s1.heap.push { cls := .type "dict_values", data := .fields #[.ref d] } } →
      s1.TypeIs (.ref d) "dict" ∧ (∀ a, Value.ref d = .ref a → ∃ ob, s1.heap.get? a = some ob ∧ ob.dict = none) ∧ wpAny (model X.prog X.w) X.A (callWith cpos (.builtin "dict.values") [.ref d] (backTo cpos (starEach [] X.env)) []) (fun v s1 => wpAny (model X.prog X.w) X.A (pyIter v) (PIE X pins σ tg R) X.xe s1) X.xe s1 := fun es ep hs hgd hx hdt fin => by
    have hT : s1.TypeIs (.ref d) "dict" := ⟨o, hgd, hx.1⟩
    refine ⟨hT, fun a ea => by cases ea; exact ⟨o, hgd, hx.2.1⟩, ?_⟩
    show wpAny _ _ (callWith cpos (.builtin "dict.values") [.ref d] [] []) _ X.xe s1
    exact method_meetsIn F.slot_dict_values F.entry_dict_values rfl (PySem.evalArgs_none ⟨rfl, hT, F.args_dict_values_1 _, _, meets_vals hs, hT, fin⟩)
  rcases q with ⟨kvs, hd, q⟩ | ⟨kvs, hd, q⟩
  · obtain ⟨hs, hgd, hx, es, ep, vs, hdt, hsz, kv, hm⟩ := I1.frzK hd
    refine main es ep hs hgd hx hdt (iter_vals (d := d) ⟨_, Heap.get?_push_size _ rfl, rfl, rfl⟩ (Heap.get?_push_of_some _ hgd) hdt (pi_one (tk := s1.toks) I2 _ (turn_vals _ hdt) ⟨_, Heap.get?_push_size _ rfl, rfl, ?_⟩ q))
    rw [hsz] <;> rfl
  · obtain ⟨hs, hgd, hx, es, ep, hdt, hsz, ent⟩ := I1.frzV hd
    refine main es ep hs hgd hx hdt (iter_vals (d := d) ⟨_, Heap.get?_push_size _ rfl, rfl, rfl⟩ (Heap.get?_push_of_some _ hgd) hdt (pi_one (tk := s1.toks) I2 _ (turn_valsT _ hdt) ⟨_, Heap.get?_push_size _ rfl, rfl, ?_⟩ q))
    rw [hsz] <;> rfl
end
end L2
end
section
set_option Elab.async false
set_option linter.all false
set_option maxRecDepth 100000
set_option maxHeartbeats 4000000
namespace L2
open PySem PySem.Spec PyProof.Rows
section
variable {prog : Program} {w : World} {A : Around} {E : Value → Shared → Prop} {s : Shared}
theorem gone_at {a : Addr} {Q : Option Obj → Shared → Prop} (ho : s.heap.get? a = none) (h : Q none s) : wpAny (model prog w) A (loadIfAlive a) Q E s := by
  have h' : Q (s.heap.get? a) s := by rw [ho]; exact h
  exact fun _ _ _ => h'
theorem zip_gone_item {z TI TO i1 i2 l1 l2 T : Addr} {k1 k2 : Nat} {xs ys : Array Value} {x y a b : Value} {f1 : Bool} {Q : Option Value → Shared → Prop} (D : ZipApart z TI TO i1 i2 l1 l2)
    (hz : ZipObj s.heap z TI TO (rawInt T) f1) (hT : s.heap.get? T = none) (hTI : IsPair s.heap TI (.ref i1) (.ref i2)) (hTO : IsPair s.heap TO a b)
    (h1 : s.heap.IsListIter i1 l1 k1) (h2 : s.heap.IsListIter i2 l2 k2) (hl1 : s.heap.IsList l1 xs) (hl2 : s.heap.IsList l2 ys) (hx : xs[k1]? = some x) (hy : ys[k2]? = some y)
    (hQ : ∀ h', ZipObj h' z TI TO (rawInt s.heap.objs.size) false → IsPair h' TO x y → h'.IsListIter i1 l1 (k1 + 1) → h'.IsListIter i2 l2 (k2 + 1) → IsPair h' s.heap.objs.size x y → h'.objs.size = s.heap.objs.size + 1 →
      (∀ c o, c ≠ z → c ≠ TO → c ≠ i1 → c ≠ i2 → s.heap.get? c = some o → h'.get? c = some o) → Q (some (.ref s.heap.objs.size)) { s with heap := h' }) :
    wpAny (model prog w) A (pyNext (.ref z)) Q E s := by
  have hTy : s.TypeIs (.ref z) "zip" := ⟨_, hz, rfl⟩
  unfold pyNext
  refine wpAny_bind (wpAny_attempt (wpAny_callSpecial?_slot (name := Str.ofString "__next__") hTy F.slot_zip_next (wpAny_call_entry F.slot_zip_next hTy F.entry_zip_next ?_ (F.args_zip_next_1 _))))
  show wpAny _ _ (field (.ref z) 2 >>= _) _ _ _; refine wpAny_bind (wpAny_field hz rfl (x := .bool false) rfl ?_)
  show wpAny _ _ (field (.ref z) 3 >>= _) _ _ _; refine wpAny_bind (wpAny_field hz rfl (x := .ref TI) rfl (wpAny_bind (wpAny_seqItems hTI rfl ?_)))
  show wpAny _ _ (Builtin.SmallTypes.ownedTupleIsFree (.ref z) >>= _) _ _ _; refine wpAny_bind ?_
  unfold Builtin.SmallTypes.ownedTupleIsFree
  refine wpAny_bind (wpAny_field hz rfl (x := rawInt T) rfl ?_)
  show wpAny _ _ (loadIfAlive ((T : Int).toNat) >>= _) _ _ _; rw [Int.toNat_natCast]
  refine wpAny_bind (gone_at hT ?_); simp only [Option.isNone_none, if_true]; refine wpAny_pure ?_; simp only [if_true]
  refine wpAny_bind (wpAny_rule ?_); refine wpAny_bind (wpAny_field hz rfl (x := .ref TO) rfl ?_); refine wpAny_bind (wpAny_setField_rec hz (by simp) fun h₁ hz₁ hs₁ => ?_)
  replace hz₁ : ZipObj h₁ z TI TO .ellipsis f1 := hz₁
  refine wpAny_bind ?_; simp only [List.zipIdx_cons, List.zipIdx_nil, List.forIn_cons, List.forIn_nil]
  refine wpAny_bind (wpAny_bind (wpAny_onRaise ?_)); show wpAny _ _ (Builtin.SmallTypes.nextOf (.ref i1) >>= _) _ _ _
  refine wpAny_bind (wpAny_nextOf_list_item (h1.extBut hs₁.extBut D.i1z) (hl1.extBut hs₁.extBut D.l1z) hx fun h₂ h1₂ hs₂ => (wpAny_pure ?_))
  have hTO₂ : IsPair h₂ TO a b := (hs₂.extBut _ _ D.TOi1 (hs₁.extBut _ _ D.TOz hTO))
  refine wpAny_bind (wpAny_seqItems hTO₂ rfl ?_); refine wpAny_bind (wpAny_updateSeq_pair hTO₂ fun h₃ hTO₃ hs₃ => ?_)
  replace hTO₃ : IsPair h₃ TO x b := hTO₃
  refine wpAny_bind (wpAny_letGo (wpAny_pure ?_)); refine wpAny_bind (wpAny_bind (wpAny_onRaise ?_)); show wpAny _ _ (Builtin.SmallTypes.nextOf (.ref i2) >>= _) _ _ _
  refine wpAny_bind (wpAny_nextOf_list_item (((h2.extBut hs₁.extBut D.i2z).extBut hs₂.extBut D.i12.symm).extBut hs₃.extBut D.TOi2.symm) (((hl2.extBut hs₁.extBut D.l2z).extBut hs₂.extBut D.l2i1).extBut hs₃.extBut D.l2TO) hy fun h₄ h2₄ hs₄ => wpAny_pure ?_)
  have hTO₄ : IsPair h₄ TO x b := (hs₄.extBut _ _ D.TOi2 hTO₃)
  refine wpAny_bind (wpAny_seqItems hTO₄ rfl ?_); refine wpAny_bind (wpAny_updateSeq_pair hTO₄ fun h₅ hTO₅ hs₅ => ?_)
  replace hTO₅ : IsPair h₅ TO x y := hTO₅
  refine wpAny_bind (wpAny_letGo (wpAny_pure (wpAny_pure ?_))); refine wpAny_bind (wpAny_seqItems hTO₅ rfl ?_); refine wpAny_bind (wpAny_newTuple ?_)
  have hsz : h₅.objs.size = s.heap.objs.size := (by rw [hs₅.1, hs₄.1, hs₃.1, hs₂.1, hs₁.1])
  have hz₅ : ZipObj h₅ z TI TO .ellipsis f1 := hs₅.extBut _ _ D.TOz.symm (hs₄.extBut _ _ D.i2z.symm (hs₃.extBut _ _ D.TOz.symm (hs₂.extBut _ _ D.i1z.symm hz₁)))
  have hk₅ : ∀ c o, c ≠ z → c ≠ TO → c ≠ i1 → c ≠ i2 → s.heap.get? c = some o → h₅.get? c = some o := fun c o c1 c2 c3 c4 e => hs₅.extBut _ _ c2 (hs₄.extBut _ _ c4 (hs₃.extBut _ _ c2 (hs₂.extBut _ _ c3 (hs₁.extBut _ _ c1 e))))
  have h1₅ : h₅.IsListIter i1 l1 (k1 + 1) := (((h1₂.extBut hs₃.extBut D.TOi1.symm).extBut hs₄.extBut D.i12).extBut hs₅.extBut D.TOi1.symm)
  have h2₅ : h₅.IsListIter i2 l2 (k2 + 1) := (h2₄.extBut hs₅.extBut D.TOi2.symm)
  have hzlt : z < h₅.objs.size := (Heap.lt_size hz₅)
  show wpAny _ _ (Builtin.SmallTypes.ownedTupleHandOut (.ref z) (.ref h₅.objs.size) >>= _) _ _ _; refine wpAny_bind ?_; unfold Builtin.SmallTypes.ownedTupleHandOut
  have hz₆ : ZipObj (h₅.push { cls := .type "tuple", data := .seq #[x, y] }) z TI TO .ellipsis f1 := Heap.get?_push_of_some _ hz₅
  refine wpAny_bind (wpAny_setField_rec hz₆ (by simp) fun h₇ hz₇ hs₇ => ?_)
  replace hz₇ : ZipObj h₇ z TI TO (rawInt h₅.objs.size) f1 := hz₇
  refine wpAny_setField_rec hz₇ (by simp) fun h₈ hz₈ hs₈ => ?_
  replace hz₈ : ZipObj h₈ z TI TO (rawInt h₅.objs.size) false := hz₈
  have up : ∀ c o, c ≠ z → h₅.get? c = some o → h₈.get? c = some o := fun c o c1 e => (hs₈.extBut _ _ c1 (hs₇.extBut _ _ c1 (Heap.get?_push_of_some _ e)))
  have hT₈ : IsPair h₈ h₅.objs.size x y := (hs₈.extBut _ _ (Nat.ne_of_gt hzlt) (hs₇.extBut _ _ (Nat.ne_of_gt hzlt) (Heap.get?_push_size _ rfl)))
  have hz8 : h₈.objs.size = h₅.objs.size + 1 := (by rw [hs₈.1, hs₇.1, Heap.size_push])
  rw [hsz] at hz₈ hT₈ hz8
  refine wpAny_pure ⟨_, rfl, wpAny_pure ?_⟩
  show Q (some (.ref h₅.objs.size)) _
  rw [hsz]
  exact hQ h₈ hz₈ (up _ _ D.TOz hTO₅) (h1₅.at fun o e => up _ o D.i1z e) (h2₅.at fun o e => up _ o D.i2z e) hT₈ hz8 fun c o c1 c2 c3 c4 e => (up c o c1 (hk₅ c o c1 c2 c3 c4 e))
theorem zip_gone_end {z TI TO i1 i2 l1 l2 T : Addr} {k1 : Nat} {xs : Array Value} {f1 : Bool} {Q : Option Value → Shared → Prop} (hh : A.handled = none) (D : ZipApart z TI TO i1 i2 l1 l2)
    (hz : ZipObj s.heap z TI TO (rawInt T) f1) (hT : s.heap.get? T = none) (hTI : IsPair s.heap TI (.ref i1) (.ref i2))
    (h1 : s.heap.IsListIter i1 l1 k1) (hl1 : s.heap.IsList l1 xs) (hx : xs[k1]? = none)
    (hQ : ∀ h', (∀ c o, c ≠ z → c ≠ i1 → s.heap.get? c = some o → h'.get? c = some o) → Q none { s with heap := h' }) :
    wpAny (model prog w) A (pyNext (.ref z)) Q E s := by
  have hTy : s.TypeIs (.ref z) "zip" := ⟨_, hz, rfl⟩
  unfold pyNext
  refine wpAny_bind (wpAny_attempt (wpAny_callSpecial?_slot (name := Str.ofString "__next__") hTy F.slot_zip_next (wpAny_call_entry F.slot_zip_next hTy F.entry_zip_next ?_ (F.args_zip_next_1 _))))
  show wpAny _ _ (field (.ref z) 2 >>= _) _ _ _; refine wpAny_bind (wpAny_field hz rfl (x := .bool false) rfl ?_)
  show wpAny _ _ (field (.ref z) 3 >>= _) _ _ _; refine wpAny_bind (wpAny_field hz rfl (x := .ref TI) rfl (wpAny_bind (wpAny_seqItems hTI rfl ?_)))
  show wpAny _ _ (Builtin.SmallTypes.ownedTupleIsFree (.ref z) >>= _) _ _ _; refine wpAny_bind ?_
  unfold Builtin.SmallTypes.ownedTupleIsFree
  refine wpAny_bind (wpAny_field hz rfl (x := rawInt T) rfl ?_)
  show wpAny _ _ (loadIfAlive ((T : Int).toNat) >>= _) _ _ _; rw [Int.toNat_natCast]
  refine wpAny_bind (gone_at hT ?_); simp only [Option.isNone_none, if_true]; refine wpAny_pure ?_; simp only [if_true]
  refine wpAny_bind (wpAny_rule ?_); refine wpAny_bind (wpAny_field hz rfl (x := .ref TO) rfl ?_); refine wpAny_bind (wpAny_setField_rec hz (by simp) fun h₁ hz₁ hs₁ => ?_)
  replace hz₁ : ZipObj h₁ z TI TO .ellipsis f1 := hz₁
  refine wpAny_bind ?_; simp only [List.zipIdx_cons, List.zipIdx_nil, List.forIn_cons, List.forIn_nil]
  refine wpAny_bind (wpAny_bind (wpAny_onRaise ?_)); show wpAny _ _ (Builtin.SmallTypes.nextOf (.ref i1) >>= _) _ _ _
  refine wpAny_bind (wpAny_nextOf_list_end hh (h1.extBut hs₁.extBut D.i1z) (hl1.extBut hs₁.extBut D.l1z) hx fun h₂ e hs₂ he => ?_)
  obtain ⟨oe, hoe, hce⟩ := he
  have hz₂ : ZipObj h₂ z TI TO .ellipsis f1 := hs₂ _ _ D.i1z.symm hz₁
  have hez : e ≠ z := fun x => by subst x; rw [ZipObj, hoe] at hz₂; cases hz₂; simp at hce
  refine wpAny_setField_rec hz₂ (by simp) fun h₃ _ hs₃ => ?_
  exact wpAny_bind (wpAny_isInstance (T := "StopIteration") (b := true) ⟨oe, hs₃.extBut _ _ hez hoe, hce⟩ isSubtype_stop (wpAny_pure (hQ _ fun c o c1 c3 x => hs₃.extBut _ _ c1 (hs₂ _ _ c3 (hs₁.extBut _ _ c1 x)))))
end
def ItzN (K : PySem.W.Frag) (a b : Addr) : It := ⟨(Itz K a b).go, (Itz K a b).yld, fun i H => ∃ xs ys : List V, SqL K H a xs ∧ SqL K H b ys ∧ xs.length ≤ i⟩
theorem turn_zipN {P : Program} {w : World} {K : PySem.W.Frag} {nm : Str} {tpos : Pos} {a b z TI TO i1 i2 : Addr} (D : ZipApart z TI TO i1 i2 a b) :
    Turn P w K (.Name nm tpos) (ItzN K a b) [z, TI, TO, i1, i2] z (fun i h => (IsZip h z TI TO .none ∨ ∃ (T : Addr) (f1 : Bool), ZipObj h z TI TO (rawInt T) f1) ∧ IsPair h TI (.ref i1) (.ref i2) ∧ (∃ x y, IsPair h TO x y) ∧ h.IsListIter i1 a i ∧ h.IsListIter i2 b i) where
  mem := by simp
  obj := fun i h st c hc => by
    obtain ⟨hz, hTI, ⟨x, y, hTO⟩, ⟨o1, e1, _, d1⟩, ⟨o2, e2, _, d2⟩⟩ := st
    have e' : c = z ∨ c = TI ∨ c = TO ∨ c = i1 ∨ c = i2 := (by simpa using hc)
    rcases e' with q | q | q | q | q
    · rw [q]
      rcases hz with hz | ⟨T, f1, hz⟩
      · exact ⟨_, hz, fun v q => nomatch q⟩
      · exact ⟨_, hz, fun v q => nomatch q⟩
    · rw [q]; exact ⟨_, hTI, fun v q => nomatch q⟩
    · rw [q]; exact ⟨_, hTO, fun v q => nomatch q⟩
    · rw [q]; exact ⟨o1, e1, fun v q => by rw [d1] at q; cases q⟩
    · rw [q]; exact ⟨o2, e2, fun v q => by rw [d2] at q; cases q⟩
  keep := fun i h h' st k => by
    obtain ⟨hz, hTI, ⟨x, y, hTO⟩, h1, h2⟩ := st
    refine ⟨?_, k TI (by simp) _ hTI, ⟨x, y, k TO (by simp) _ hTO⟩, h1.at fun o q => k i1 (by simp) o q, h2.at fun o q => k i2 (by simp) o q⟩
    rcases hz with hz | ⟨T, f1, hz⟩
    · exact .inl (k z (by simp) _ hz)
    · exact .inr ⟨T, f1, k z (by simp) _ hz⟩
  item := by
    intro X hP hw hK hc i pins s σ H E I hf st hg
    subst hP hw hK; obtain ⟨hz, hTI, ⟨x0, y0, hTO⟩, h1, h2⟩ := st
    obtain ⟨xs, ys, x, y, hqx, hqy, hx, hy⟩ := hg
    obtain ⟨its, rv, p, _⟩ := I.list hqx
    obtain ⟨its2, rv2, p2, _⟩ := I.list hqy
    obtain ⟨u, hu, ru⟩ := rv.get hx
    obtain ⟨u2, hu2, ru2⟩ := rv2.get hy
    have hu' : its.toArray[i]? = some u := by simpa using hu
    have hu2' : its2.toArray[i]? = some u2 := by simpa using hu2
    have ltTI : TI < s.heap.objs.size := Heap.lt_size hTI
    have ltTO : TO < s.heap.objs.size := Heap.lt_size hTO
    have lt1 : i1 < s.heap.objs.size := by obtain ⟨_, e1, _⟩ := id h1; exact Heap.lt_size e1
    have lt2 : i2 < s.heap.objs.size := by obtain ⟨_, e2, _⟩ := id h2; exact Heap.lt_size e2
    have ltz : z < s.heap.objs.size := by
      rcases hz with hz | ⟨T, f1, hz⟩
      · exact Heap.lt_size hz
      · exact Heap.lt_size hz
    have fin : ∀ h' : Heap, (∃ (T : Addr) (f1 : Bool), ZipObj h' z TI TO (rawInt T) f1) → (∃ x y, IsPair h' TO x y) → h'.IsListIter i1 a (i + 1) → h'.IsListIter i2 b (i + 1) → IsPair h' s.heap.objs.size u u2 → (∀ c o, c ≠ z → c ≠ TO → c ≠ i1 → c ≠ i2 → s.heap.get? c = some o → h'.get? c = some o) →
        ∃ v, some (Value.ref s.heap.objs.size) = some v ∧ wpAny (model X.prog X.w) X.A (letOwnedTupleGo (.Name nm tpos) (.ref z) v) (fun _ s2 => ∃ x H', Inv X pins σ H' s2 ∧ RelV x v ∧ (ItzN X.K a b).yld i H x H' ∧ ((IsZip s2.heap z TI TO .none ∨ ∃ (T : Addr) (f1 : Bool), ZipObj s2.heap z TI TO (rawInt T) f1) ∧ IsPair s2.heap TI (.ref i1) (.ref i2) ∧ (∃ x y, IsPair s2.heap TO x y) ∧ s2.heap.IsListIter i1 a (i + 1) ∧ s2.heap.IsListIter i2 b (i + 1)) ∧ ∀ b ∈ [z, TI, TO, i1, i2], H' b = none) E { s with heap := h' } := fun h' z' TO' h1' h2' hT hk => by
      refine ⟨_, rfl, ?_⟩
      unfold letOwnedTupleGo
      refine wpAny_pure ?_
      have new : ObjOk X.prog X.w (upd H s.heap.objs.size (.tup [x, y])) h' s.heap.objs.size (.tup [x, y]) := ⟨by show 2 ≤ sizeLine; decide, [u, u2], .cons ru (.cons ru2 .nil), ⟨_, hT, rfl, _, rfl⟩⟩
      have I1 : Inv X pins σ (upd H s.heap.objs.size (.tup [x, y])) { s with heap := h' } :=
        I.turnedNew (t' := s.toks) (ch := [z, TI, TO, i1, i2]) (fun c o hb q => hk c o (fun q' => hb (by simp [q'])) (fun q' => hb (by simp [q'])) (fun q' => hb (by simp [q'])) (fun q' => hb (by simp [q'])) q) hf (Nat.le_refl _) new
      refine ⟨.ref s.heap.objs.size, _, I1, rfl, ⟨_, x, y, rfl, I.hok.fresh (Nat.le_refl _), rfl, fun l hl => by rw [I.list_inj hl hqx]; exact hx, fun l hl => by rw [I.list_inj hl hqy]; exact hy⟩, ⟨.inr z', hk _ _ D.TIz D.TITO D.TIi1 D.TIi2 hTI, TO', h1', h2'⟩, fun c hcm => ?_⟩
      have hlt : c < s.heap.objs.size := by
        have e' : c = z ∨ c = TI ∨ c = TO ∨ c = i1 ∨ c = i2 := (by simpa using hcm)
        rcases e' with q | q | q | q | q
        · rw [q]; exact ltz
        · rw [q]; exact ltTI
        · rw [q]; exact ltTO
        · rw [q]; exact lt1
        · rw [q]; exact lt2
      rw [upd_ne (Nat.ne_of_lt hlt)]; exact (hf c hcm).1
    rcases hz with hz | ⟨T, f1, hz⟩
    · exact wpAny_pyNext_zip_item D hz hTI hTO h1 h2 p.isList p2.isList hu' hu2' fun h' z' TO' h1' h2' hT hsz hk => fin h' ⟨_, false, z'⟩ ⟨_, _, TO'⟩ h1' h2' hT hk
    · cases hTg : s.heap.get? T with
      | none => exact zip_gone_item D hz hTg hTI hTO h1 h2 p.isList p2.isList hu' hu2' fun h' z' TO' h1' h2' hT hsz hk => fin h' ⟨_, false, z'⟩ ⟨_, _, TO'⟩ h1' h2' hT hk
      | some oT => exact zip_held_item D hz hTg hTI h1 h2 p.isList p2.isList hu' hu2' fun h' z' h1' h2' hT hsz hk => fin h' ⟨_, true, z'⟩ ⟨_, _, hk _ _ D.TOz D.TOi1 D.TOi2 hTO⟩ h1' h2' hT fun c o c1 _ c3 c4 e => hk c o c1 c3 c4 e
  done := by
    intro X hP hw hK hc i pins s σ H E I hf st hg
    subst hP hw hK; obtain ⟨hz, hTI, ⟨x0, y0, hTO⟩, h1, h2⟩ := st
    obtain ⟨xs, ys, hqx, hqy, hend⟩ := hg
    obtain ⟨its, rv, p, _⟩ := I.list hqx
    obtain ⟨its2, rv2, p2, _⟩ := I.list hqy
    have l1 := rv.length
    have he : its.toArray[i]? = none := by simp; omega
    have fin : ∀ h' : Heap, (∀ c o, c ≠ z → c ≠ TO → c ≠ i1 → c ≠ i2 → s.heap.get? c = some o → h'.get? c = some o) → none = (none : Option Value) ∧ Inv X pins σ H { s with heap := h' } := fun h' hk => ⟨rfl, I.turnedL (t' := s.toks) (ch := [z, TI, TO, i1, i2]) (fun c o hb q => hk c o (fun q' => hb (by simp [q'])) (fun q' => hb (by simp [q'])) (fun q' => hb (by simp [q'])) (fun q' => hb (by simp [q'])) q) hf⟩
    rcases hz with hz | ⟨T, f1, hz⟩
    · exact wpAny_pyNext_zip_end (I.ok.hd hc) D hz hTI hTO h1 h2 p.isList p2.isList (.inl he) fin
    · cases hTg : s.heap.get? T with
      | none => exact zip_gone_end (I.ok.hd hc) D hz hTg hTI h1 p.isList he fun h' k => fin h' fun c o c1 _ c3 _ e => k c o c1 c3 e
      | some oT => exact zip_held_end (I.ok.hd hc) D hz hTg hTI h1 p.isList he fun h' k => fin h' fun c o c1 _ c3 _ e => k c o c1 c3 e
  self := fun A i s Q E st h => by
    rcases st.1 with hz | ⟨T, f1, hz⟩
    · exact wpAny_pyIter_zip hz h
    · have hT : s.TypeIs (.ref z) "zip" := ⟨_, hz, rfl⟩
      refine wpAny_pyIter_slot hT F.slot_zip_iter (wpAny_call_entry F.slot_zip_iter hT F.entry_zip_iter ?_ (F.args_zip_iter_1 _)); show wpAny _ _ (ret (.ref z)) _ _ s
      exact wpAny_pure ⟨_, rfl, "zip", _, hT, F.slot_zip_next.lookup, h⟩
def iZipN (K : PySem.W.Frag) (ta : TA) : TI := fun σ H R => ta σ H fun vs H1 => ∃ a b xs ys, vs = [.ref a, .ref b] ∧ SqL K H1 a xs ∧ SqL K H1 b ys ∧ R (ItzN K a b) H1
theorem pi_zipN {X : Cx} {e e2 : Expr} {ta : TA} {p pos tpos : Pos} {nm : Str} (hg : Gl X "zip") (hm : X.mg "zip" = none) (ha : PA X [e, e2] ta)
    (hs : starEach [e, e2] X.env = (false, eval e X.env) :: starEach [e2] X.env := by rfl) (hpl : (backTo pos (starEach [e2] X.env)).any (·.1) = false := by rfl) :
    PI X (.Name nm tpos) (.Call (.Name "zip" p) [e, e2] [] pos) (iZipN X.K ta) := by
  intro pins s σ H R I h
  refine Call_ (ld_blt I hg hm boot_zip5 (PyProof.Rows.callWith_type1 (thn (ha pos pins s σ H _ I h) fun us s1 ⟨vs, H1, I1, r1, q1⟩ => ?_) hs hpl))
  obtain ⟨a, b, xs, ys, ex, hqx, hqy, q⟩ := q1
  subst ex
  cases r1 with
  | cons r rr =>
    cases rr with
    | cons r' rr =>
      cases rr
      cases r
      cases r'
      obtain ⟨its, rv, p1, _⟩ := I1.list hqx
      obtain ⟨its2, rv2, p2, _⟩ := I1.list hqy
      have la : a < s1.heap.objs.size := p1.lt
      have lb : b < s1.heap.objs.size := p2.lt
      refine call_zip_2 p1.isList p2.isList fun h' hz hTI hTO h1 h2 hsz hk => wpAny_pyIter_zip hz ?_
      have I2 : Inv X pins σ H1 { s1 with heap := h' } := I1.kept (t' := s1.toks) hk
      refine ⟨s1.heap.objs.size + 4, [s1.heap.objs.size + 4, s1.heap.objs.size + 2, s1.heap.objs.size + 3, s1.heap.objs.size, s1.heap.objs.size + 1], _, _, H1, rfl, I2, turn_zipN (PySem.W.ktu_apart s1.heap.objs.size a b la lb), ⟨.inl hz, hTI, ⟨_, _, hTO⟩, h1, h2⟩, fun c hcm => ?_, q⟩
      have e' : c = s1.heap.objs.size + 4 ∨ c = s1.heap.objs.size + 2 ∨ c = s1.heap.objs.size + 3 ∨ c = s1.heap.objs.size ∨ c = s1.heap.objs.size + 1 := by simpa using hcm
      have hle : s1.heap.objs.size ≤ c := by
        rcases e' with z | z | z | z | z <;> rw [z] <;> first | exact Nat.le_add_right _ _ | exact Nat.le_refl _
      exact I1.fpOk hle (I1.hok.fresh hle)
end L2
end
section
set_option Elab.async false
set_option linter.all false
set_option maxRecDepth 100000
set_option maxHeartbeats 4000000
namespace L2
open PySem PySem.Spec PyProof.Rows
def tFrz (td : TE) : TE := fun σ H Q => td σ H fun x H1 => ∃ d u, x = .ref d ∧ H1 d = some u ∧ Mut (some u) ∧ ∀ od, Q (.ref d) (upd H1 d (.frz od u))
theorem pe_frz {X : Cx} {e : Expr} {td : TE} (h : PE X e td) : PE X e (tFrz td) := by
  intro pins s σ H Q I hw
  refine thn (h pins s σ H _ I hw) fun v s1 ⟨x, H1, I1, r, d, u, ex, hd, mu, q⟩ => ?_
  subst ex
  obtain ⟨od, I2⟩ := I1.lock hd mu
  exact ⟨.ref d, _, I2, r, q od⟩
end L2
namespace ErP
open PySem PySem.Spec PyProof.Rows L2
open Er (IsK Lt2 okKind kindI cellI rowI bitsK mag valI nanI valKey nanK nanC vKey oKey cellK kindK)
open Lw (Fmt fmt)
theorem cellI_K {k : Nat} {c : Int} (h : cellI k c = true) : 0 ≤ c ∧ cellK k c.toNat := by
  unfold cellI bitsK at h
  simp only [Bool.and_eq_true, decide_eq_true_eq] at h
  refine ⟨h.1, ?_⟩
  unfold cellK
  have e : ((2 : Int) ^ (8 * Lw.sizeOf k)) = (((2 : Nat) ^ (8 * Lw.sizeOf k) : Nat) : Int) := by rw [Int.natCast_pow]; rfl
  rw [e] at h
  have h2 := h.2
  generalize (2 : Nat) ^ (8 * Lw.sizeOf k) = n at *
  have h3 : c.toNat < n := by omega
  exact h3
theorem firsts_sub {α : Type} [DecidableEq α] (l : List α) : (firsts l).Sublist l := by
  refine rev_ind (m := fun l : List α => (firsts l).Sublist l) (List.Sublist.refl _) (fun l v ih => ?_) l
  rw [firsts_snoc]
  split
  · exact ih.trans (List.sublist_append_left ..)
  · exact ih.append (List.Sublist.refl _)
section
variable (K : PySem.W.Frag) (C N : Addr)
end
end ErP
end
section
set_option Elab.async false
set_option linter.all false
set_option maxRecDepth 100000
set_option maxHeartbeats 4000000
namespace ErP
section
variable {α β : Type}
def pn (r : α → α → Bool) : List α → Nat
  | [] => 0
  | p :: l => (l.filter fun q => r p q).length + pn r l
theorem flen_cons (f : α → Bool) (a : α) (l : List α) : ((a :: l).filter f).length = (f a).toNat + (l.filter f).length := by
  rw [List.filter_cons]
  cases f a
  · simp
  · simp; omega
theorem flen_add {f g h k : α → Bool} : ∀ {l : List α}, (∀ q ∈ l, (f q).toNat + (g q).toNat = (h q).toNat + (k q).toNat) → (l.filter f).length + (l.filter g).length = (l.filter h).length + (l.filter k).length
  | [], _ => rfl
  | a :: l, H => by
    have h1 := H a (List.mem_cons_self ..)
    have h2 := flen_add (f := f) (g := g) (h := h) (k := k) (l := l) fun q hq => H q (List.mem_cons_of_mem _ hq)
    rw [flen_cons, flen_cons, flen_cons, flen_cons]
    omega
theorem pn_add {f g h k : α → α → Bool} : ∀ {l : List α}, (∀ p ∈ l, ∀ q ∈ l, (f p q).toNat + (g p q).toNat = (h p q).toNat + (k p q).toNat) → pn f l + pn g l = pn h l + pn k l
  | [], _ => rfl
  | a :: l, H => by
    have h1 := flen_add (f := f a) (g := g a) (h := h a) (k := k a) (l := l) fun q hq => H a (List.mem_cons_self ..) q (List.mem_cons_of_mem _ hq)
    have h2 := pn_add (f := f) (g := g) (h := h) (k := k) (l := l) fun p hp q hq => H p (List.mem_cons_of_mem _ hp) q (List.mem_cons_of_mem _ hq)
    show ((l.filter (f a)).length + pn f l) + ((l.filter (g a)).length + pn g l) = ((l.filter (h a)).length + pn h l) + ((l.filter (k a)).length + pn k l)
    omega
theorem pn_none : ∀ l : List α, pn (fun _ _ => false) l = 0
  | [] => rfl
  | a :: l => by
    show (l.filter fun _ => false).length + pn (fun _ _ => false) l = 0
    rw [pn_none l, List.filter_eq_nil_iff.mpr fun b _ => by simp]
    rfl
theorem pn_congr {r r' : α → α → Bool} {l : List α} (h : ∀ p ∈ l, ∀ q ∈ l, r p q = r' p q) : pn r l = pn r' l := by
  have := pn_add (f := r) (g := fun _ _ => false) (h := r') (k := fun _ _ => false) (l := l) fun p hp q hq => by rw [h p hp q hq]
  rw [pn_none] at this
  exact this
theorem pn_pairwise {r r' : α → α → Bool} : ∀ {l : List α}, (l.Pairwise fun p q => r p q = r' p q) → pn r l = pn r' l
  | [], _ => rfl
  | a :: l, h => by
    rw [List.pairwise_cons] at h
    show (l.filter (r a)).length + pn r l = (l.filter (r' a)).length + pn r' l
    rw [pn_pairwise h.2, List.filter_congr h.1]
theorem pn_map (r : β → β → Bool) (f : α → β) : ∀ l : List α, pn r (l.map f) = pn (fun a b => r (f a) (f b)) l
  | [] => rfl
  | a :: l => by
    show ((l.map f).filter (r (f a))).length + pn r (l.map f) = (l.filter fun b => r (f a) (f b)).length + pn (fun a b => r (f a) (f b)) l
    rw [pn_map r f l, List.filter_map, List.length_map]
    rfl
theorem pn_filter (r : α → α → Bool) (g : α → Bool) : ∀ l : List α, pn (fun a b => (g a && g b) && r a b) l = pn r (l.filter g)
  | [] => rfl
  | a :: l => by
    show (l.filter fun b => (g a && g b) && r a b).length + pn (fun a b => (g a && g b) && r a b) l = _
    rw [pn_filter r g l, List.filter_cons]
    cases h : g a
    · have e : (l.filter fun b => (false && g b) && r a b) = [] := by
        rw [List.filter_eq_nil_iff]
        intro b _
        simp
      rw [e]
      simp
    · show _ = ((l.filter g).filter (r a)).length + pn r (l.filter g)
      rw [List.filter_filter]
      congr 2
      apply List.filter_congr
      intro b _
      cases g b <;> simp
theorem pn_perm {r : α → α → Bool} (hs : ∀ a b, r a b = r b a) {l l' : List α} (h : l.Perm l') : pn r l = pn r l' := by
  induction h with
  | nil => rfl
  | cons a h ih =>
    show (List.filter (r a) _).length + pn r _ = (List.filter (r a) _).length + pn r _
    rw [ih, (h.filter (r a)).length_eq]
  | swap a b l =>
    show ((a :: l).filter (r b)).length + ((l.filter (r a)).length + pn r l) = ((b :: l).filter (r a)).length + ((l.filter (r b)).length + pn r l)
    rw [flen_cons, flen_cons, hs b a]
    omega
  | trans _ _ i1 i2 => rw [i1, i2]
theorem pn_snoc (r : α → α → Bool) (v : α) : ∀ l : List α, pn r (l ++ [v]) = pn r l + (l.filter fun a => r a v).length
  | [] => rfl
  | a :: l => by
    show ((l ++ [v]).filter (r a)).length + pn r (l ++ [v]) = (l.filter (r a)).length + pn r l + _
    rw [pn_snoc r v l, List.filter_append, List.length_append, flen_cons, flen_cons]
    simp
    omega
/-- how many pairs there are among so many -/
def triN : Nat → Nat
  | 0 => 0
  | n + 1 => n + triN n
theorem pn_all : ∀ l : List α, pn (fun _ _ => true) l = triN l.length
  | [] => rfl
  | a :: l => by
    show (l.filter fun _ => true).length + pn (fun _ _ => true) l = l.length + triN l.length
    rw [pn_all l, List.filter_eq_self.mpr fun b _ => rfl]
theorem triN_two : ∀ n : Nat, 2 * triN n + n = n * n
  | 0 => rfl
  | n + 1 => by
    have := triN_two n
    have e : (n + 1) * (n + 1) = n * n + n + (n + 1) := by rw [Nat.add_mul, Nat.mul_add, Nat.one_mul, Nat.mul_one]
    show 2 * (n + triN n) + (n + 1) = _
    omega
theorem triN_int (n : Nat) : ((n : Nat) : Int) * (((n : Nat) : Int) - 1) / 2 = ((triN n : Nat) : Int) := by
  have h := triN_two n
  have h' : 2 * ((triN n : Nat) : Int) + ((n : Nat) : Int) = ((n : Nat) : Int) * ((n : Nat) : Int) := by
    have := congrArg (fun z : Nat => (z : Int)) h
    simpa [Int.natCast_add, Int.natCast_mul] using this
  have e : ((n : Nat) : Int) * (((n : Nat) : Int) - 1) = 2 * ((triN n : Nat) : Int) := by
    rw [Int.mul_sub, Int.mul_one]
    omega
  rw [e]
  omega
theorem sum_bump {ds : List α} (nd : ds.Nodup) {a : α} (ha : a ∈ ds) {f f' : α → Nat} {c : Nat} (h1 : f' a = f a + c) (h2 : ∀ v, v ≠ a → f' v = f v) : (ds.map f').sum = (ds.map f).sum + c := by
  induction ds with
  | nil => cases ha
  | cons d ds ih =>
    rw [List.nodup_cons] at nd
    rw [List.map_cons, List.map_cons, List.sum_cons, List.sum_cons]
    by_cases e : d = a
    · subst e
      have : ds.map f' = ds.map f := List.map_congr_left fun v hv => h2 v fun z => nd.1 (by rw [← z]; exact hv)
      rw [this, h1]
      omega
    · rw [ih nd.2 ((List.mem_cons.mp ha).elim (fun z => absurd z.symm e) id), h2 d e]
      omega
theorem pn_eq_sum [DecidableEq α] {ds : List α} (nd : ds.Nodup) : ∀ {l : List α}, (∀ a ∈ l, a ∈ ds) → (ds.map fun v => triN (l.count v)).sum = pn (fun a b => decide (a = b)) l
  | [], _ => by
    have : (ds.map fun v : α => triN (([] : List α).count v)) = ds.map fun _ => 0 := List.map_congr_left fun v _ => by rw [List.count_nil]; rfl
    rw [this]
    clear this nd
    induction ds with
    | nil => rfl
    | cons d ds ih => rw [List.map_cons, List.sum_cons, ih (fun a ha => nomatch ha)]; rfl
  | a :: l, h => by
    have ih := pn_eq_sum nd (l := l) fun b hb => h b (List.mem_cons_of_mem _ hb)
    rw [sum_bump nd (h a (List.mem_cons_self ..)) (f := fun v => triN (l.count v)) (f' := fun v => triN ((a :: l).count v)) (c := l.count a) (by show triN ((a :: l).count a) = _; rw [List.count_cons_self]; show l.count a + triN (l.count a) = _; omega) (fun v hv => by show triN ((a :: l).count v) = _; rw [List.count_cons_of_ne (Ne.symm hv)]), ih]
    show _ = (l.filter fun b => decide (a = b)).length + pn _ l
    have : (l.filter fun b => decide (a = b)).length = l.count a := by
      rw [List.count_eq_length_filter]
      congr 1
      apply List.filter_congr
      intro b _
      rw [Bool.eq_iff_iff, decide_eq_true_eq, beq_iff_eq]
      exact ⟨fun e => e.symm, fun e => e.symm⟩
    omega
end
def gd (p : Int × Int) : Bool := !(decide (p.1 = 2 ^ 64) || decide (p.2 = 2 ^ 64))
def sK (p q : Int × Int) : Nat := if (gd p && gd q) = true then (if p.1 = q.1 ∨ p.2 = q.2 then 2 else if (p.1 < q.1 ↔ p.2 < q.2) then 0 else 1) else 3
def oppP (p q : Int × Int) : Bool := decide ((p.1 < q.1 ∧ q.2 < p.2) ∨ (q.1 < p.1 ∧ p.2 < q.2))
theorem oppP_symm (p q : Int × Int) : oppP p q = oppP q p := by
  unfold oppP
  rw [Bool.eq_iff_iff, decide_eq_true_eq, decide_eq_true_eq]
  exact ⟨fun h => h.elim .inr .inl, fun h => h.elim .inr .inl⟩
theorem sorts3 (Z : List (Int × Int)) : pn (fun p q => sK p q == 3) Z + triN (Z.filter gd).length = triN Z.length := by
  rw [← pn_all (Z.filter gd), ← pn_filter, ← pn_all Z, ← Nat.add_zero (pn (fun _ _ => true) Z), ← pn_none Z]
  apply pn_add
  intro p _ q _
  unfold sK
  cases (gd p && gd q)
  · rfl
  · simp only [if_true, Bool.and_true]
    split
    · rfl
    · split <;> rfl
theorem sorts2 (Z : List (Int × Int)) : pn (fun p q => sK p q == 2) Z + pn (fun p q => decide (p = q)) (Z.filter gd) = pn (fun p q => decide (p.1 = q.1)) (Z.filter gd) + pn (fun p q => decide (p.2 = q.2)) (Z.filter gd) := by
  rw [← pn_filter, ← pn_filter, ← pn_filter]
  apply pn_add
  intro p _ q _
  unfold sK
  cases (gd p && gd q)
  · rfl
  · simp only [if_true, Bool.true_and]
    by_cases a : p.1 = q.1
    · by_cases b : p.2 = q.2
      · rw [if_pos (.inl a), decide_eq_true a, decide_eq_true b, decide_eq_true (Prod.ext a b)]; rfl
      · rw [if_pos (.inl a), decide_eq_true a, decide_eq_false b, decide_eq_false (fun e => b (congrArg Prod.snd e))]; rfl
    · by_cases b : p.2 = q.2
      · rw [if_pos (.inr b), decide_eq_false a, decide_eq_true b, decide_eq_false (fun e => a (congrArg Prod.fst e))]; rfl
      · rw [if_neg (fun e => e.elim a b), decide_eq_false a, decide_eq_false b, decide_eq_false (fun e => a (congrArg Prod.fst e))]
        split <;> rfl
theorem sorts1 (Z : List (Int × Int)) : pn (fun p q => sK p q == 1) Z = pn oppP (Z.filter gd) := by
  rw [← pn_filter]
  apply pn_congr
  intro p _ q _
  unfold sK oppP
  cases (gd p && gd q)
  · rfl
  · simp only [if_true, Bool.true_and]
    rw [Bool.eq_iff_iff, decide_eq_true_eq, beq_iff_eq]
    by_cases a : p.1 = q.1 ∨ p.2 = q.2
    · rw [if_pos a]
      constructor
      · intro h; cases h
      · intro h; omega
    · rw [if_neg a]
      by_cases c : (p.1 < q.1 ↔ p.2 < q.2)
      · rw [if_pos c]
        constructor
        · intro h; cases h
        · intro h; omega
      · rw [if_neg c]
        refine ⟨fun _ => ?_, fun _ => rfl⟩
        omega
theorem sorts0 (Z : List (Int × Int)) : pn (fun p q => sK p q == 0) Z + pn (fun p q => sK p q == 1) Z + pn (fun p q => sK p q == 2) Z = triN (Z.filter gd).length := by
  have h1 : pn (fun p q => sK p q == 0) Z + pn (fun p q => sK p q == 1) Z = pn (fun p q => sK p q == 0 || sK p q == 1) Z + pn (fun _ _ => false) Z := by
    apply pn_add
    intro p _ q _
    generalize sK p q = n
    by_cases a : n = 0
    · subst a; rfl
    · by_cases b : n = 1
      · subst b; rfl
      · have e0 : (n == 0) = false := by simpa using a
        have e1 : (n == 1) = false := by simpa using b
        rw [e0, e1]
        rfl
  have h2 : pn (fun p q => sK p q == 0 || sK p q == 1) Z + pn (fun p q => sK p q == 2) Z = pn (fun p q => (gd p && gd q) && true) Z + pn (fun _ _ => false) Z := by
    apply pn_add
    intro p _ q _
    unfold sK
    cases (gd p && gd q)
    · rfl
    · simp only [if_true, Bool.and_true]
      split
      · rfl
      · split <;> rfl
  rw [pn_none] at h1 h2
  rw [h1, Nat.add_zero, h2, pn_filter, pn_all, Nat.add_zero]
theorem fall_lex {ps : List (Int × Int)} (h : ps.Pairwise L2.lexLe) : pn (fun a b : Int => decide (b < a)) (ps.map Prod.snd) = pn oppP ps := by
  rw [pn_map]
  apply pn_pairwise
  refine h.imp fun {p q} hl => ?_
  unfold oppP
  rw [Bool.eq_iff_iff, decide_eq_true_eq, decide_eq_true_eq]
  unfold L2.lexLe at hl
  omega
theorem put_in {l : List Int} (hs : l.Pairwise (· ≤ ·)) {v : Int} {k : Nat} (hk : k = (l.filter fun a => decide (a ≤ v)).length) : (l.take k ++ v :: l.drop k).Pairwise (· ≤ ·) ∧ (l.take k ++ v :: l.drop k).Perm (l ++ [v]) ∧ l.length - k = (l.filter fun a => decide (v < a)).length ∧ k ≤ l.length := by
  have cut : ∀ l : List Int, l.Pairwise (· ≤ ·) → l.take (l.filter fun a => decide (a ≤ v)).length = l.filter (fun a => decide (a ≤ v)) ∧ l.drop (l.filter fun a => decide (a ≤ v)).length = l.filter fun a => decide (v < a) := by
    intro l
    induction l with
    | nil => intro _; exact ⟨rfl, rfl⟩
    | cons a l ih =>
      intro h
      rw [List.pairwise_cons] at h
      obtain ⟨i1, i2⟩ := ih h.2
      by_cases c : a ≤ v
      · rw [List.filter_cons, if_pos (by simpa using c), List.filter_cons, if_neg (by simpa using c), List.length_cons, List.take_succ_cons, List.drop_succ_cons, i1, i2]
        exact ⟨rfl, rfl⟩
      · have e1 : (l.filter fun a => decide (a ≤ v)) = [] := by
          rw [List.filter_eq_nil_iff]
          intro b hb
          have := h.1 b hb
          simp
          omega
        have e2 : (l.filter fun a => decide (v < a)) = l := by
          rw [List.filter_eq_self]
          intro b hb
          have := h.1 b hb
          simp
          omega
        rw [List.filter_cons, if_neg (by simpa using c), List.filter_cons, if_pos (by simp; omega), e1, e2]
        exact ⟨rfl, rfl⟩
  obtain ⟨c1, c2⟩ := cut l hs
  rw [← hk] at c1 c2
  refine ⟨?_, ?_, ?_, ?_⟩
  · rw [List.pairwise_append]
    refine ⟨hs.sublist (List.take_sublist ..), List.pairwise_cons.mpr ⟨fun b hb => ?_, hs.sublist (List.drop_sublist ..)⟩, fun a ha b hb => ?_⟩
    · rw [c2] at hb
      have := (List.mem_filter.mp hb).2
      simp at this
      omega
    · rw [c1] at ha
      have h1 := (List.mem_filter.mp ha).2
      simp at h1
      rcases List.mem_cons.mp hb with e | e
      · rw [e]; exact h1
      · rw [c2] at e
        have := (List.mem_filter.mp e).2
        simp at this
        omega
  · refine List.perm_middle.trans ?_
    rw [List.take_append_drop]
    exact (List.perm_append_singleton v l).symm
  · rw [← c2, List.length_drop]
  · rw [hk]
    exact List.length_filter_le ..
end ErP
end
section
set_option Elab.async false
set_option linter.all false
set_option maxRecDepth 100000
set_option maxHeartbeats 4000000
namespace L2
open PySem PySem.Spec PyProof.Rows
end L2
namespace ErP
open PySem PySem.Spec PyProof.Rows L2
open Er (IsK Lt2 okKind kindI cellI rowI bitsK mag valI nanI nanC cellK kindK)
open Lw (Fmt fmt)
section
variable (K : PySem.W.Frag) (C N : Addr)
end
end ErP
end
section
set_option Elab.async false
set_option linter.all false
set_option maxRecDepth 100000
set_option maxHeartbeats 4000000
namespace L2
open PySem PySem.Spec PyProof.Rows
theorem er_lcJ {J : It} {xs ys : List V} {σ : St} {H : Hp} {Q : VK} {s : Nat} {te : TE} (hgo : ∀ i H', Same H H' → i < xs.length → J.go i H') (hst : ∀ i H', Same H H' → xs.length ≤ i → J.stop i H') (hyl : ∀ i H' x H'', Same H H' → J.yld i H' x H'' → H'' = H' ∧ xs[i]? = some x)
    (hlen : xs.length < sizeLine) (hy : xs.length = ys.length)
    (helt : ∀ (i : Nat) (x y : V) (H' : Hp) (Q' : VK), xs[i]? = some x → ys[i]? = some y → Same H H' → (∀ H'', Same H' H'' → Q' y H'') → te ((wipe σ [s]).set s (some x)) H' Q')
    (hq : ∀ (H' : Hp) (D : Addr), Same H H' → H' D = some (.lst ys) → H D = none → Q (.ref D) H') :
    LcIn J (gName s) tYes te [s] σ Q H := by
  intro D hD
  refine ⟨fun i m H' => i + m = xs.length ∧ Same H H' ∧ H' D = some (.lst (ys.take i)), ⟨xs.length, Nat.zero_add _, Same.upd hD, upd_same⟩, ?_⟩
  rintro i m H' ⟨him, sm, hd⟩
  by_cases hi : i < xs.length
  · obtain ⟨y, hyi⟩ : ∃ y, ys[i]? = some y := ⟨_, List.getElem?_eq_getElem (by omega)⟩
    refine Or.inr ⟨hgo i H' sm hi, fun H'' => Same H H'' ∧ H'' D = some (.lst (ys.take (i + 1))), ?_, ?_⟩
    · rintro H'' ⟨s2, d2⟩; exact ⟨m - 1, by omega, by omega, s2, d2⟩
    · intro z H2 hyz
      obtain ⟨rfl, hz⟩ := hyl i H' z H2 sm hyz
      refine ⟨?_, tYes_ok ?_⟩
      · show (((σ.set s none).set s (some z)).set s none) = σ.set s none; rw [List.set_set, List.set_set]
      · refine helt i z y H2 _ hz hyi sm fun H'' s3 => ⟨ys.take i, s3 _ _ hd, ?_, ?_, ?_⟩
        · rw [List.length_take]; omega
        · exact fun b o e => by rw [upd_ne (ne_of_none e hD)]; exact s3 _ _ (sm _ _ e)
        · rw [upd_same, take_snocV hyi]
  · refine Or.inl ⟨hst i H' sm (by omega), ?_⟩
    rw [List.take_of_length_le (by omega)] at hd; exact hq H' D sm hd hD
/-- the values of a locked dict -/
theorem er_lcV {d : Addr} {o : Obj} {kvs : List (Key × V)} {xs ys : List V} {σ : St} {H : Hp} {Q : VK} {s : Nat} {te : TE} (hd : H d = some (.frz o (.dK kvs))) (hx : xs = kvs.map Prod.snd) (hlen : xs.length < sizeLine) (hy : xs.length = ys.length)
    (helt : ∀ (i : Nat) (x y : V) (H' : Hp) (Q' : VK), xs[i]? = some x → ys[i]? = some y → Same H H' → (∀ H'', Same H' H'' → Q' y H'') → te ((wipe σ [s]).set s (some x)) H' Q')
    (hq : ∀ (H' : Hp) (D : Addr), Same H H' → H' D = some (.lst ys) → H D = none → Q (.ref D) H') : LcIn (Itd d o kvs) (gName s) tYes te [s] σ Q H := by
  have hl : xs.length = kvs.length := by rw [hx, List.length_map]
  refine er_lcJ (fun i H' sm hi => ⟨sm _ _ hd, by omega⟩) (fun i H' sm hi => ⟨sm _ _ hd, by omega⟩) (fun i H' x H'' sm h => ?_) hlen hy helt hq
  obtain ⟨rfl, k, hk⟩ := h
  exact ⟨rfl, by rw [hx, List.getElem?_map, hk]; rfl⟩
theorem er_lcVT {d : Addr} {o : Obj} {kvs : List (List Key × V)} {xs ys : List V} {σ : St} {H : Hp} {Q : VK} {s : Nat} {te : TE} (hd : H d = some (.frz o (.dT kvs))) (hx : xs = kvs.map Prod.snd) (hlen : xs.length < sizeLine) (hy : xs.length = ys.length)
    (helt : ∀ (i : Nat) (x y : V) (H' : Hp) (Q' : VK), xs[i]? = some x → ys[i]? = some y → Same H H' → (∀ H'', Same H' H'' → Q' y H'') → te ((wipe σ [s]).set s (some x)) H' Q')
    (hq : ∀ (H' : Hp) (D : Addr), Same H H' → H' D = some (.lst ys) → H D = none → Q (.ref D) H') : LcIn (Itdt d o kvs) (gName s) tYes te [s] σ Q H := by
  have hl : xs.length = kvs.length := by rw [hx, List.length_map]
  refine er_lcJ (fun i H' sm hi => ⟨sm _ _ hd, by omega⟩) (fun i H' sm hi => ⟨sm _ _ hd, by omega⟩) (fun i H' x H'' sm h => ?_) hlen hy helt hq
  obtain ⟨rfl, k, hk⟩ := h
  exact ⟨rfl, by rw [hx, List.getElem?_map, hk]; rfl⟩
theorem paired_snoc {α β : Type} {R : α → β → Prop} {a : α} {b : β} : ∀ {as : List α} {bs : List β}, Paired R as bs → R a b → Paired R (as ++ [a]) (bs ++ [b])
  | _, _, .nil, h => .cons h .nil
  | _, _, .cons r rr, h => .cons r (paired_snoc rr h)
def PairAt (H : Hp) (t : Addr) (p : Int × Int) : Prop := H t = some (.tup [.int p.1, .int p.2])
/-- [p for p in zip(xs, ys) if ..] -/
theorem er_lczF {K : PySem.W.Frag} {a b : Addr} {X Y : List Int} {σ : St} {H : Hp} {Q : VK} {s : Nat} {tt : TT} {te : TE} (g : Int × Int → Bool) (hl : SqL K H a (X.map V.int)) (hl2 : SqL K H b (Y.map V.int)) (hXY : X.length = Y.length) (hlen : X.length < sizeLine)
    (htt : ∀ (T : Addr) (p : Int × Int) (H' : Hp) (Q' : Bool → Hp → Prop), PairAt H' T p → Q' (g p) H' → tt ((wipe σ [s]).set s (some (.ref T))) H' Q')
    (hte : ∀ (T : Addr) (H' : Hp) (Q' : VK), Q' (.ref T) H' → te ((wipe σ [s]).set s (some (.ref T))) H' Q')
    (hq : ∀ (H' : Hp) (D : Addr) (ts : List Addr), Same H H' → Paired (PairAt H') ts ((X.zip Y).filter g) → H' D = some (.lst (ts.map V.ref)) → H D = none → Q (.ref D) H') :
    LcIn (ItzN K a b) (gName s) tt te [s] σ Q H := by
  intro D hD
  have hzl : (X.zip Y).length = X.length := by rw [List.length_zip]; omega
  refine ⟨fun i m H' => i + m = X.length ∧ Same H H' ∧ ∃ ts : List Addr, H' D = some (.lst (ts.map V.ref)) ∧ Paired (PairAt H') ts (((X.zip Y).take i).filter g), ⟨X.length, Nat.zero_add _, Same.upd hD, [], upd_same, .nil⟩, ?_⟩
  rintro i m H' ⟨him, sm, ts, hd, hp⟩
  by_cases hi : i < X.length
  · obtain ⟨x, hxi⟩ : ∃ x, X[i]? = some x := ⟨_, List.getElem?_eq_getElem hi⟩
    obtain ⟨y, hyi⟩ : ∃ y, Y[i]? = some y := ⟨_, List.getElem?_eq_getElem (by omega)⟩
    have hX' : (X.map V.int)[i]? = some (.int x) := by rw [List.getElem?_map, hxi]; rfl
    have hY' : (Y.map V.int)[i]? = some (.int y) := by rw [List.getElem?_map, hyi]; rfl
    have hz : (X.zip Y)[i]? = some (x, y) := by rw [List.getElem?_zip_eq_some]; exact ⟨hxi, hyi⟩
    refine Or.inr ⟨⟨_, _, _, _, sm.seq hl, sm.seq hl2, hX', hY'⟩, fun H3 => Same H H3 ∧ ∃ ts : List Addr, H3 D = some (.lst (ts.map V.ref)) ∧ Paired (PairAt H3) ts (((X.zip Y).take (i + 1)).filter g), ?_, ?_⟩
    · rintro H3 ⟨s2, r⟩; exact ⟨m - 1, by omega, by omega, s2, r⟩
    · rintro v H2 ⟨T, u1, u2, rfl, hT, rfl, e1, e2⟩
      have e1 := Option.some.inj ((e1 _ (sm.seq hl)).symm.trans hX')
      have e2 := Option.some.inj ((e2 _ (sm.seq hl2)).symm.trans hY')
      subst e1 e2
      have s2 : Same H' (upd H' T (.tup [.int x, .int y])) := Same.upd hT
      have hlt : ts.length < sizeLine := by
        have h1 : ts.length = _ := ErP.paired_len hp
        have h2 : ((List.take i (X.zip Y)).filter g).length ≤ (List.take i (X.zip Y)).length := List.length_filter_le ..
        rw [List.length_take] at h2
        omega
      refine ⟨?_, ?_⟩
      · show (((σ.set s none).set s (some (.ref T))).set s none) = σ.set s none; rw [List.set_set, List.set_set]
      · refine htt T (x, y) _ _ upd_same ?_
        rw [take_snocV hz, List.filter_append]
        cases hg : g (x, y)
        · rw [if_neg (by decide)]
          refine ⟨sm.trans s2, ts, s2 _ _ hd, ?_⟩
          have : List.filter g [(x, y)] = [] := by simp [hg]
          rw [this, List.append_nil]
          exact ErP.paired_imp (fun t p h => s2 _ _ h) hp
        · rw [if_pos rfl]
          refine hte T _ _ ⟨ts.map V.ref, s2 _ _ hd, by rw [List.length_map]; exact hlt, ?_⟩
          have hTD : T ≠ D := fun e => by subst e; rw [hd] at hT; cases hT
          have keep : ∀ t p, PairAt (upd H' T (.tup [.int x, .int y])) t p → PairAt (upd (upd H' T (.tup [.int x, .int y])) D (.lst (ts.map V.ref ++ [.ref T]))) t p := fun t p h => by
            have hne : t ≠ D := fun e => by
              subst e
              unfold PairAt at h
              rw [s2 _ _ hd] at h
              cases h
            unfold PairAt
            rw [upd_ne hne]
            exact h
          refine ⟨fun b' o e => ?_, ts ++ [T], ?_, ?_⟩
          · rw [upd_ne (ne_of_none e hD)]; exact s2 _ _ (sm _ _ e)
          · rw [upd_same, List.map_append]; rfl
          · have : List.filter g [(x, y)] = [(x, y)] := by simp [hg]
            rw [this]
            exact paired_snoc (ErP.paired_imp (fun t p h => keep t p (s2 _ _ h)) hp) (keep T (x, y) upd_same)
  · refine Or.inl ⟨⟨_, _, sm.seq hl, sm.seq hl2, by rw [List.length_map]; omega⟩, ?_⟩
    rw [List.take_of_length_le (by omega)] at hp
    exact hq H' D ts sm hp hd hD
end L2
namespace ErP
open PySem PySem.Spec PyProof.Rows L2
open Er (IsK Lt2 okKind kindI cellI rowI bitsK mag valI nanI twoI pairNI pairI)
open Lw (Fmt fmt)
theorem pair_link {kind : Int} (hk : kindI kind = true) {x y : List Int} (cx : ∀ c ∈ x, 0 ≤ c ∧ cellI kind.toNat c = true) (cy : ∀ c ∈ y, 0 ≤ c ∧ cellI kind.toNat c = true) (i : Nat) :
    pairNI kind.toNat i (x.zip y) = pn (fun p q => sK p q == i) ((x.map (valI kind.toNat)).zip (y.map (valI kind.toNat))) := by
  have e0 : ∀ l : List (Int × Int), pairNI kind.toNat i l = pn (fun p q => pairI kind.toNat p q == i) l := fun l => by
    induction l with
    | nil => rfl
    | cons p l ih =>
      show (l.filter fun q => pairI kind.toNat p q == i).length + pairNI kind.toNat i l = _
      rw [ih]
      rfl
  rw [e0, List.zip_map, pn_map]
  apply pn_congr
  intro p hp q hq
  have p1 := cx _ (List.of_mem_zip (show (p.1, p.2) ∈ x.zip y from hp)).1
  have p2 := cy _ (List.of_mem_zip (show (p.1, p.2) ∈ x.zip y from hp)).2
  have q1 := cx _ (List.of_mem_zip (show (q.1, q.2) ∈ x.zip y from hq)).1
  have q2 := cy _ (List.of_mem_zip (show (q.1, q.2) ∈ x.zip y from hq)).2
  have n : ∀ {c : Int}, 0 ≤ c ∧ cellI kind.toNat c = true → decide (valI kind.toNat c = 2 ^ 64) = nanI kind.toNat c := fun {c} h => by
    rw [Bool.eq_iff_iff, decide_eq_true_eq]
    exact (nan_val hk h.1 h.2).1
  have e : pairI kind.toNat p q = sK (Prod.map (valI kind.toNat) (valI kind.toNat) p) (Prod.map (valI kind.toNat) (valI kind.toNat) q) := by
    unfold pairI sK gd
    show _ = if (!(decide (valI kind.toNat p.1 = 2 ^ 64) || decide (valI kind.toNat p.2 = 2 ^ 64)) && !(decide (valI kind.toNat q.1 = 2 ^ 64) || decide (valI kind.toNat q.2 = 2 ^ 64))) = true then (if valI kind.toNat p.1 = valI kind.toNat q.1 ∨ valI kind.toNat p.2 = valI kind.toNat q.2 then 2 else if (valI kind.toNat p.1 < valI kind.toNat q.1 ↔ valI kind.toNat p.2 < valI kind.toNat q.2) then 0 else 1) else 3
    rw [n p1, n p2, n q1, n q2]
    cases nanI kind.toNat p.1 <;> cases nanI kind.toNat p.2 <;> cases nanI kind.toNat q.1 <;> cases nanI kind.toNat q.2 <;> rfl
  rw [e]
def cn {α : Type} [DecidableEq α] (l : List α) (v : α) : Nat := l.count v
theorem cn_le {α : Type} [DecidableEq α] (l : List α) (v : α) : cn l v ≤ l.length := List.count_le_length
theorem cnt_sum {α κ : Type} [DecidableEq α] [DecidableEq κ] (key : α → κ) (l : List α) : (((cntKV key l).map Prod.snd) = (firsts l).map fun v => V.int ((cn l v : Nat) : Int)) ∧ (((firsts l).map fun v => ((triN (cn l v) : Nat) : Int)).sum = ((pn (fun a b => decide (a = b)) l : Nat) : Int)) := by
  constructor
  · unfold cntKV
    rw [List.map_map]
    rfl
  · rw [← pn_eq_sum (nodup_firsts l) (fun a h => (mem_firsts l a).mpr h)]
    unfold cn
    generalize firsts l = ds
    induction ds with
    | nil => rfl
    | cons d ds ih => rw [List.map_cons, List.map_cons, List.sum_cons, List.sum_cons, ih, Int.natCast_add]
theorem fall_perm {ps ps' : List (Int × Int)} (h : ps'.Perm ps) (hs : ps'.Pairwise lexLe) : pn (fun a b : Int => decide (b < a)) (ps'.map Prod.snd) = pn oppP ps := (fall_lex hs).trans (pn_perm oppP_symm h)
theorem gd_in (p : Int × Int) : (if true = true then !inV (V.int 18446744073709551616) [V.int p.1, V.int p.2] else inV (V.int 18446744073709551616) [V.int p.1, V.int p.2]) = gd p := by
  have e4 : (2 : Int) ^ 64 = 18446744073709551616 := by decide
  unfold inV gd
  rw [if_pos rfl, e4]
  show (!((p.1 == 18446744073709551616) || ((p.2 == 18446744073709551616) || false))) = _
  rw [Bool.or_false]
  rfl
section
variable (K : PySem.W.Frag) (C N : Addr)
def eqN {α : Type} [DecidableEq α] (l : List α) : Int := ((pn (fun a b => decide (a = b)) l : Nat) : Int)
def fallN (l : List Int) : Int := ((pn (fun a b => decide (b < a)) l : Nat) : Int)
def sp_pairs_refusal : Sp := fun vs H Q _ => ∃ (kind : Int) (a b : Addr) (x y : List Int), vs = [.int kind, .ref a, .ref b] ∧ SqL K H a (x.map V.int) ∧ SqL K H b (y.map V.int) ∧ x.length ≤ 4200 ∧ y.length ≤ 4200 ∧ ∀ H' : Hp, Same H H' → Q (.int (if (kindI kind && twoI kind.toNat x y) = true then 0 else -1)) H'
def sp_pairs_among : Sp := fun vs H Q _ => ∃ n : Nat, vs = [.int ((n : Nat) : Int)] ∧ n ≤ 8500 ∧ Q (.int ((triN n : Nat) : Int)) H
def sp_equal_pairs : Sp := fun vs H Q _ => ∃ a : Addr, vs = [.ref a] ∧
  ((∃ l : List Int, SqL K H a (l.map V.int) ∧ l.length ≤ 8500 ∧ ∀ H' : Hp, Same H H' → Q (.int (eqN l)) H') ∨
   (∃ (l : List (Int × Int)) (ts : List Addr), SqL K H a (ts.map V.ref) ∧ Paired (PairAt H) ts l ∧ l.length ≤ 8500 ∧ ∀ H' : Hp, Same H H' → Q (.int (eqN l)) H'))
def sp_falling_pairs : Sp := fun vs H Q _ => ∃ (a : Addr) (l : List Int), vs = [.ref a] ∧ SqL K H a (l.map V.int) ∧ l.length ≤ 8500 ∧ ∀ H' : Hp, Same H H' → Q (.int (fallN l)) H'
def sp_row_pairs : Sp := fun vs H Q _ => ∃ (kind : Int) (a b : Addr) (x y : List Int), vs = [.int kind, .ref a, .ref b] ∧ kindI kind = true ∧ twoI kind.toNat x y = true ∧ SqL K H a (x.map V.int) ∧ SqL K H b (y.map V.int) ∧
  ∀ (H' : Hp) (q : Addr), Same H H' → H' q = some (.lst [.int ((pairNI kind.toNat 0 (x.zip y) : Nat) : Int), .int ((pairNI kind.toNat 1 (x.zip y) : Nat) : Int), .int ((pairNI kind.toNat 2 (x.zip y) : Nat) : Int), .int ((pairNI kind.toNat 3 (x.zip y) : Nat) : Int)]) → Q (.ref q) H'
def sp_pairs : Sp := fun vs H Q _ => ∃ (kind : Int) (a b : Addr) (x y : List Int), vs = [.int kind, .ref a, .ref b] ∧ SqL K H a (x.map V.int) ∧ SqL K H b (y.map V.int) ∧ x.length ≤ 4200 ∧ y.length ≤ 4200 ∧ 0 ≤ kind ∧ (∀ c ∈ x, 0 ≤ c) ∧ (∀ c ∈ y, 0 ≤ c) ∧
  ∀ (H' : Hp) (q : Addr), H' q = some (.lst ((PyWrlwbd.pairs kind x y).map V.int)) → Q (.ref q) H'
end
end ErP
end
section
set_option Elab.async false
set_option linter.all false
set_option maxRecDepth 100000
set_option maxHeartbeats 4000000
namespace ErP
open PySem PySem.Spec PyProof.Rows L2
open Er (IsK Lt2 okKind kindI cellI rowI bitsK mag valI nanI)
open Lw (Fmt fmt Four turnWord mill millRound drawBelow tried triesFrom W32)
def top (i : Nat) : Stmt := PySem.Challenge.pw_exactrows_s13_pairs.main.body.getD i (.Pass ⟨0, 0, 0, 0⟩)
structure Txt (P : Program) (w : World) (K : PySem.W.Frag) (mg : Str → Option Value) (C N : Addr) : Prop where
  cl : Cls K C
  a_m : NoAttr K C "fraction_bits"
  a_s : NoAttr K C "sign"
  a_i : NoAttr K C "infinite"
  a_n : NoAttr K C "none"
  a_l : NoAttr K C "least_power"
  a_u : NoAttr K C "unit_depth"
  n_all : mg "all" = none
  n_len : mg "len" = none
  n_list : mg "list" = none
  n_sorted : mg "sorted" = none
  n_sum : mg "sum" = none
  n_zip : mg "zip" = none
  g_NONE_PLACE : ∃ t, mg "NONE_PLACE" = some (.int 18446744073709551616 t)
  g_MOST_CELLS : ∃ t, mg "MOST_CELLS" = some (.int 4096 t)
  g_WRONG_FORM : ∃ t, mg "WRONG_FORM" = some (.int (-1) t)
  t_S : TabI P w K mg "SIGNED_KINDS" kvS
  t_U : TabI P w K mg "UNSIGNED_KINDS" kvU
  t_F : TabF P w K mg
section
variable {P : Program} {w : World} {K : PySem.W.Frag} {mg : Str → Option Value} {base : Heap} {C N : Addr}
abbrev s_is_floating : Stmt := top 7
theorem sc_is_floating : FnScope ["kind"] ["kind"] (defScope s_is_floating) := ⟨rfl, rfl, rfl, by decide +kernel, rfl, by decide +kernel, by decide +kernel⟩
theorem ok_is_floating {f : Addr} {fd : FuncData} (F : Fun K "is_floating" "is_floating" s_is_floating f fd) (T : Txt P w K mg C N) :
    FnOk P w K mg base CX0 1 f fd ["kind"] (sp_is_floating) := by
  refine F.ok sc_is_floating (fun vs H Q E h => ?_) (fun cdv A outer s H vs Q E hr h => ?_)
  · obtain ⟨kind, rfl, _⟩ := h
    rfl
  · obtain ⟨kind, rfl, q⟩ := h
    obtain ⟨DF, a9, a10, a11, a12, g_FLOATING_KINDS, dF, t9, t10, t11, t12⟩ := T.t_F
    refine ⟨_, (pss_one (ps_ret (pe_cmp (pc_dinK (pv 0) (pe_globR (by rfl) g_FLOATING_KINDS))))), ?_⟩
    refine ⟨_, rfl, DF, _, Sum.inl kind, rfl, rfl, dF, ?_⟩
    try dsimp only
    rw [val_F]
    exact q
abbrev s_is_whole : Stmt := top 6
theorem sc_is_whole : FnScope ["kind"] ["kind"] (defScope s_is_whole) := ⟨rfl, rfl, rfl, by decide +kernel, rfl, by decide +kernel, by decide +kernel⟩
theorem ok_is_whole {f : Addr} {fd : FuncData} (F : Fun K "is_whole" "is_whole" s_is_whole f fd) (T : Txt P w K mg C N) :
    FnOk P w K mg base CX0 1 f fd ["kind"] (sp_is_whole) := by
  refine F.ok sc_is_whole (fun vs H Q E h => ?_) (fun cdv A outer s H vs Q E hr h => ?_)
  · obtain ⟨kind, rfl, _⟩ := h
    rfl
  · obtain ⟨kind, rfl, q⟩ := h
    obtain ⟨DU, g_UNSIGNED_KINDS, dU⟩ := T.t_U
    obtain ⟨DS, g_SIGNED_KINDS, dS⟩ := T.t_S
    refine ⟨_, (pss_one (ps_ret (pe_or (pe_cmp (pc_dinK (pv 0) (pe_globR (by rfl) g_SIGNED_KINDS))) (pe_one (pe_cmp (pc_dinK (pv 0) (pe_globR (by rfl) g_UNSIGNED_KINDS))))))), ?_⟩
    refine ⟨_, rfl, DS, _, Sum.inl kind, rfl, rfl, dS, ?_⟩
    unfold wholeK at q
    try dsimp only
    rw [val_S]
    refine ⟨_, rfl, ite2 (fun c => ?_) (fun c => ?_)⟩
    · rw [c, Bool.true_or] at q
      exact q
    · have c : sgnK kind = false := by simpa using c
      rw [c, Bool.false_or] at q
      refine ⟨_, rfl, DU, _, Sum.inl kind, rfl, rfl, dU, ?_⟩
      try dsimp only
      rw [val_U]
      exact q
abbrev s_bits_of : Stmt := top 9
theorem sc_bits_of : FnScope ["kind", "parts"] ["kind"] (defScope s_bits_of) := ⟨rfl, rfl, rfl, by decide +kernel, rfl, by decide +kernel, by decide +kernel⟩
theorem ok_bits_of {f : Addr} {fd : FuncData} (F : Fun K "bits_of" "bits_of" s_bits_of f fd) (T : Txt P w K mg C N) :
    FnOk P w K mg base CX0 1 f fd ["kind"] (sp_bits_of) := by
  refine F.ok sc_bits_of (fun vs H Q E h => ?_) (fun cdv A outer s H vs Q E hr h => ?_)
  · obtain ⟨kind, rfl, _⟩ := h
    rfl
  · obtain ⟨kind, rfl, hk, q⟩ := h
    obtain ⟨DS, g_SIGNED_KINDS, dS⟩ := T.t_S
    obtain ⟨DU, g_UNSIGNED_KINDS, dU⟩ := T.t_U
    obtain ⟨DF, a9, a10, a11, a12, g_FLOATING_KINDS, dF, t9, t10, t11, t12⟩ := T.t_F
    refine ⟨_, (pss_cons (ps_if (pt_cmp (pc_dinK (pv 0) (pe_globR (by rfl) g_SIGNED_KINDS))) (pss_one (ps_ret (pe_dgetK (pe_globR (by rfl) g_SIGNED_KINDS) (pv 0) (fun _ _ => rfl)))) pss_nil) (pss_cons (ps_if (pt_cmp (pc_dinK (pv 0) (pe_globR (by rfl) g_UNSIGNED_KINDS))) (pss_one (ps_ret (pe_dgetK (pe_globR (by rfl) g_UNSIGNED_KINDS) (pv 0) (fun _ _ => rfl)))) pss_nil) (pss_cons (ps_set (i := 1) sc_bits_of.nd rfl (by first | exact Or.inl rfl | exact Or.inr rfl) (pe_dgetK (pe_globR (by rfl) g_FLOATING_KINDS) (pv 0) (fun _ _ => rfl))) (pss_one (ps_ret (pe_op op_add (pe_op op_add pe_int (pe_ix (show IxR _ (rIxT K) from ix_tup) (pv 1) pe_int (fun _ _ => rfl))) (pe_ix (show IxR _ (rIxT K) from ix_tup) (pv 1) pe_int (fun _ _ => rfl)))))))), ?_⟩
    refine ⟨_, rfl, DS, _, Sum.inl kind, rfl, rfl, dS, ?_⟩
    try dsimp only
    rw [val_S]
    refine ⟨_, rfl, ite2 (fun c => ?_) (fun c => ?_)⟩
    · exact ⟨_, rfl, DS, _, Sum.inl kind, _, rfl, rfl, dS, get_S c, q⟩
    · refine ⟨_, rfl, DU, _, Sum.inl kind, rfl, rfl, dU, ?_⟩
      try dsimp only
      rw [val_U]
      refine ⟨_, rfl, ite2 (fun c2 => ?_) (fun c2 => ?_)⟩
      · exact ⟨_, rfl, DU, _, Sum.inl kind, _, rfl, rfl, dU, get_U c2, q⟩
      · have hf : okKind kind = true := by
          rw [kind_parts] at hk
          unfold wholeK at hk
          simpa [c, c2] using hk
        obtain ⟨ak, hv, hsq⟩ := get_F t9 t10 t11 t12 hf
        refine ⟨_, rfl, DF, _, Sum.inl kind, _, rfl, rfl, dF, hv, ?_⟩
        refine ⟨_, rfl, _, _, _, _, rfl, rfl, hsq _, rfl, _, _, rfl, rfl, _, rfl, _, _, _, _, rfl, rfl, hsq _, rfl, _, _, rfl, rfl, ?_⟩
        try dsimp only
        rw [bits_F hf]
        exact q
abbrev s_are_cells : Stmt := top 10
theorem sc_are_cells : FnScope ["kind", "numbers", "end", "number"] ["kind", "numbers"] (defScope s_are_cells) := ⟨rfl, rfl, rfl, by decide +kernel, rfl, by decide +kernel, by decide +kernel⟩
def lc_are_cells_0 : Scope := { kind := PySem.ScopeKind.function, names := [ (PySem.Str.ofString ".0", PySem.NameKind.local), (PySem.Str.ofString "number", PySem.NameKind.local), (PySem.Str.ofString "end", PySem.NameKind.free)], isGenerator := false, isCoroutine := false, more := [] : PySem.Scope }
theorem blk_lc_are_cells_0 : BlkOk ["kind", "numbers", "end", "number"] (defScope s_are_cells) lc_are_cells_0 [("number", 3)] := ⟨rfl, by decide +kernel, by decide +kernel, by decide +kernel, by decide +kernel⟩
theorem ok_are_cells {f : Addr} {fd : FuncData} (F : Fun K "are_cells" "are_cells" s_are_cells f fd) (T : Txt P w K mg C N)
    (c_bits_of : Callee P w K mg base 1 "bits_of" ["kind"] (sp_bits_of)) :
    FnOk P w K mg base CX0 2 f fd ["kind", "numbers"] (sp_are_cells K) := by
  refine F.ok sc_are_cells (fun vs H Q E h => ?_) (fun cdv A outer s H vs Q E hr h => ?_)
  · obtain ⟨kind, a, x, rfl, _⟩ := h
    rfl
  · obtain ⟨kind, a, x, rfl, hk, hl, hn, q⟩ := h
    refine ⟨_, (pss_cons (ps_set (i := 2) sc_are_cells.nd rfl (by first | exact Or.inl rfl | exact Or.inr rfl) (pe_op op_shlB pe_int (pe_callC c_bits_of (hr.mono (by decide)) (by rfl) (pa_cons (pv 0) pa_nil)))) (pss_one (ps_ret (pe_callB (cr_all rfl) (by rfl) T.n_all boot_all1 (pa_cons (pe_lc rfl sc_are_cells.nd (pi_list (pv 1)) (blk_lc_are_cells_0) (fun _ _ _ _ _ => pg_name (i := 3) sc_are_cells.nd rfl (Or.inl rfl) (by first | exact Or.inl rfl | exact Or.inr rfl)) (fun _ _ _ _ _ => pts_nil) (fun _ _ _ _ _ => (pe_chain op_le op_lt pe_int (pv 3) (pv 2)))) pa_nil))))), ?_⟩
    have hb := bits_le hk
    refine ⟨_, rfl, kind, rfl, hk, _, _, rfl, rfl, ⟨by omega, 1, lt1 1 (by decide), by omega⟩, ?_⟩
    try dsimp only
    rw [Int.one_mul, Int.toNat_natCast]
    try dsimp only [tRet, tCB, tCons, tNil, tSeq, tAsg, gName, tIfS, tNot, tB, tNext, sFld]
    refine tLc_in ?_
    refine ⟨_, rfl, a, rfl, ⟨_, hl⟩, ?_⟩
    refine er_lc (vI fun c => .bl (cellI kind.toNat c)) hl (len_ltM hn) (fun i y H' Q' hi sm q' => ?_) (fun H' D sm hd hD => ?_)
    · obtain ⟨c, hc, rfl⟩ := get_map hi
      have q'' := q' _ (Same.refl _)
      unfold vI cellI at q''
      refine ⟨_, rfl, _, _, rfl, rfl, _, rfl, ite2 (fun c1 => ?_) (fun c1 => ?_)⟩
      · dsimp only at q''
        rw [c1, Bool.true_and] at q''
        exact ⟨_, rfl, _, _, rfl, rfl, q''⟩
      · rw [Bool.not_eq_true] at c1
        dsimp only at q''
        rw [c1, Bool.false_and] at q''
        exact q''
    · rw [map_vI] at hd
      refine ⟨D, x.map (cellI kind.toNat), rfl, SqL.of (by rw [hd, List.map_map]; rfl), ?_⟩
      have e : (x.map (cellI kind.toNat)).all id = x.all (cellI kind.toNat) := by rw [List.all_map]; rfl
      try dsimp only
      rw [e]
      exact q H' sm
abbrev s_cells_refusal : Stmt := top 22
theorem sc_cells_refusal : FnScope ["kind", "cells", "most_cells"] ["kind", "cells", "most_cells"] (defScope s_cells_refusal) := ⟨rfl, rfl, rfl, by decide +kernel, rfl, by decide +kernel, by decide +kernel⟩
theorem ok_cells_refusal {f : Addr} {fd : FuncData} (F : Fun K "cells_refusal" "cells_refusal" s_cells_refusal f fd) (T : Txt P w K mg C N)
    (c_are_cells : Callee P w K mg base 2 "are_cells" ["kind", "numbers"] (sp_are_cells K)) :
    FnOk P w K mg base CX0 3 f fd ["kind", "cells", "most_cells"] (sp_cells_refusal K) := by
  refine F.ok sc_cells_refusal (fun vs H Q E h => ?_) (fun cdv A outer s H vs Q E hr h => ?_)
  · obtain ⟨kind, a, x, most, rfl, _⟩ := h
    rfl
  · obtain ⟨kind, a, x, most, rfl, hk, hl, hn, q⟩ := h
    refine ⟨_, (pss_cons (ps_if (PW.pt (pw_or (pt_cmp (pc_gt (pe_callB call_len_seq (by rfl) T.n_len boot_len1 (pa_cons (pv 1) pa_nil)) (pv 2))) (pw_or1 (pt_not (pt_val (pe_callC c_are_cells (hr.mono (by decide)) (by rfl) (pa_cons (pv 0) (pa_cons (pv 1) pa_nil)))))))) (pss_one (ps_ret (pe_globI (by rfl) T.g_WRONG_FORM))) pss_nil) (pss_one (ps_ret pe_int))), ?_⟩
    unfold rowI at q
    have el : ((x.map V.int).length : Int) = (x.length : Int) := by rw [List.length_map]
    refine ⟨_, rfl, a, _, rfl, Or.inl hl, _, rfl, _, _, rfl, rfl, _, rfl, ite2 (fun c => ?_) (fun c => ?_)⟩
    · have c := of_decide_eq_true c
      rw [if_neg (by
        intro z
        simp only [Bool.and_eq_true, decide_eq_true_eq] at z
        omega)] at q
      exact iteT (q H (Same.refl H))
    · have c : ¬ ((most : Nat) : Int) < ((x.map V.int).length : Int) := fun z => c (decide_eq_true z)
      have e1 : decide (x.length ≤ most) = true := decide_eq_true (by omega)
      rw [e1, Bool.true_and] at q
      refine ⟨_, rfl, _, rfl, kind, a, x, rfl, hk, hl, hn, fun H' sm => ?_⟩
      refine ⟨_, rfl, ite2 (fun c2 => ?_) (fun c2 => ?_)⟩
      · have c2 : ¬ x.all (cellI kind.toNat) = true := by simpa using c2
        rw [if_neg c2] at q
        exact q H' sm
      · have c2 : x.all (cellI kind.toNat) = true := by simpa using c2
        rw [if_pos c2] at q
        exact q H' sm
abbrev s_row_refusal : Stmt := top 21
theorem sc_row_refusal : FnScope ["kind", "row"] ["kind", "row"] (defScope s_row_refusal) := ⟨rfl, rfl, rfl, by decide +kernel, rfl, by decide +kernel, by decide +kernel⟩
theorem ok_row_refusal {f : Addr} {fd : FuncData} (F : Fun K "row_refusal" "row_refusal" s_row_refusal f fd) (T : Txt P w K mg C N)
    (c_is_floating : Callee P w K mg base 1 "is_floating" ["kind"] (sp_is_floating))
    (c_is_whole : Callee P w K mg base 1 "is_whole" ["kind"] (sp_is_whole))
    (c_cells_refusal : Callee P w K mg base 3 "cells_refusal" ["kind", "cells", "most_cells"] (sp_cells_refusal K)) :
    FnOk P w K mg base CX0 4 f fd ["kind", "row"] (sp_row_refusal K) := by
  refine F.ok sc_row_refusal (fun vs H Q E h => ?_) (fun cdv A outer s H vs Q E hr h => ?_)
  · obtain ⟨kind, a, x, rfl, _⟩ := h
    rfl
  · obtain ⟨kind, a, x, rfl, hl, hn, q⟩ := h
    refine ⟨_, (pss_cons (ps_if (pt_not (PW.pt (pw_or (pt_val (pe_callC c_is_whole (hr.mono (by decide)) (by rfl) (pa_cons (pv 0) pa_nil))) (pw_or1 (pt_val (pe_callC c_is_floating (hr.mono (by decide)) (by rfl) (pa_cons (pv 0) pa_nil))))))) (pss_one (ps_ret (pe_globI (by rfl) T.g_WRONG_FORM))) pss_nil) (pss_one (ps_ret (pe_callC c_cells_refusal (hr.mono (by decide)) (by rfl) (pa_cons (pv 0) (pa_cons (pv 1) (pa_cons (pe_globI (by rfl) T.g_MOST_CELLS) pa_nil))))))), ?_⟩
    have key : kindI kind = (wholeK kind || okKind kind) := kind_parts kind
    have fin : ∀ H1 : Hp, Same H H1 → kindI kind = true → sp_cells_refusal K [.int kind, .ref a, .int ((4096 : Nat) : Int)] H1 Q E0 := fun H1 s1 hk => ⟨kind, a, x, 4096, rfl, hk, s1.seq hl, hn, fun H' s2 => by
      have q := q H' (s1.trans s2)
      rw [hk, Bool.true_and] at q
      exact q⟩
    refine ⟨_, rfl, kind, rfl, _, rfl, ite2 (fun c => ?_) (fun c => ?_)⟩
    · have hk : kindI kind = true := by rw [key, c, Bool.true_or]
      exact iteF ⟨_, rfl, _, rfl, fin H (Same.refl _) hk⟩
    · have c : wholeK kind = false := by simpa using c
      refine ⟨_, rfl, kind, rfl, _, rfl, ite2 (fun c2 => ?_) (fun c2 => ?_)⟩
      · have c2 : okKind kind = false := by simpa using c2
        rw [key, c, c2] at q
        exact q H (Same.refl H)
      · have c2 : okKind kind = true := by simpa using c2
        have hk : kindI kind = true := by rw [key, c2, Bool.or_true]
        exact ⟨_, rfl, _, rfl, fin H (Same.refl _) hk⟩
abbrev s_pairs_refusal : Stmt := top 23
theorem sc_pairs_refusal : FnScope ["kind", "x", "y"] ["kind", "x", "y"] (defScope s_pairs_refusal) := ⟨rfl, rfl, rfl, by decide +kernel, rfl, by decide +kernel, by decide +kernel⟩
theorem ok_pairs_refusal {f : Addr} {fd : FuncData} (F : Fun K "pairs_refusal" "pairs_refusal" s_pairs_refusal f fd) (T : Txt P w K mg C N)
    (c_row_refusal : Callee P w K mg base 4 "row_refusal" ["kind", "row"] (sp_row_refusal K)) :
    FnOk P w K mg base CX0 5 f fd ["kind", "x", "y"] (sp_pairs_refusal K) := by
  refine F.ok sc_pairs_refusal (fun vs H Q E h => ?_) (fun cdv A outer s H vs Q E hr h => ?_)
  · obtain ⟨kind, a, b, x, y, rfl, _⟩ := h
    rfl
  · obtain ⟨kind, a, b, x, y, rfl, hl, hl2, hn, hn2, q⟩ := h
    refine ⟨_, (pss_cons (ps_if (PW.pt (pw_or (pt_cmp (pc_neI (pe_callC c_row_refusal (hr.mono (by decide)) (by rfl) (pa_cons (pv 0) (pa_cons (pv 1) pa_nil))) pe_int)) (pw_or (pt_cmp (pc_neI (pe_callC c_row_refusal (hr.mono (by decide)) (by rfl) (pa_cons (pv 0) (pa_cons (pv 2) pa_nil))) pe_int)) (pw_or1 (pt_cmp (pc_neI (pe_callB call_len_seq (by rfl) T.n_len boot_len1 (pa_cons (pv 1) pa_nil)) (pe_callB call_len_seq (by rfl) T.n_len boot_len1 (pa_cons (pv 2) pa_nil)))))))) (pss_one (ps_ret (pe_globI (by rfl) T.g_WRONG_FORM))) pss_nil) (pss_one (ps_ret pe_int))), ?_⟩
    unfold Er.twoI at q
    have el : ((x.map V.int).length : Int) = (x.length : Int) := by rw [List.length_map]
    have el2 : ((y.map V.int).length : Int) = (y.length : Int) := by rw [List.length_map]
    refine ⟨_, rfl, _, rfl, kind, a, x, rfl, hl, Nat.le_trans hn (by decide), fun H1 s1 => ?_⟩
    refine ⟨_, _, rfl, rfl, _, rfl, ite2 (fun c => ?_) (fun c => ?_)⟩
    · have c : (kindI kind && rowI kind.toNat 4096 x) = false := by
        cases h : (kindI kind && rowI kind.toNat 4096 x)
        · rfl
        · rw [h] at c
          simp at c
      rw [if_neg (by
        intro z
        simp only [Bool.and_eq_true] at z
        rw [z.1, z.2.1] at c
        cases c)] at q
      exact iteT (q H1 s1)
    · have c : (kindI kind && rowI kind.toNat 4096 x) = true := by
        cases h : (kindI kind && rowI kind.toNat 4096 x)
        · rw [h] at c
          exact absurd (by decide) c
        · rfl
      simp only [Bool.and_eq_true] at c
      rw [c.1, c.2, Bool.true_and, Bool.true_and] at q
      refine ⟨_, rfl, _, rfl, kind, b, y, rfl, s1.seq hl2, Nat.le_trans hn2 (by decide), fun H2 s2 => ?_⟩
      rw [c.1, Bool.true_and]
      refine ⟨_, _, rfl, rfl, _, rfl, ite2 (fun c2 => ?_) (fun c2 => ?_)⟩
      · have c2 : rowI kind.toNat 4096 y = false := by
          cases h : rowI kind.toNat 4096 y
          · rfl
          · rw [h] at c2
            simp at c2
        rw [c2, Bool.false_and, if_neg (by decide)] at q
        exact iteT (q H2 (s1.trans s2))
      · have c2 : rowI kind.toNat 4096 y = true := by
          cases h : rowI kind.toNat 4096 y
          · rw [h] at c2
            exact absurd (by decide) c2
          · rfl
        rw [c2, Bool.true_and] at q
        have s02 := s1.trans s2
        refine ⟨_, rfl, a, _, rfl, Or.inl (s02.seq hl), _, rfl, b, _, rfl, Or.inl (s02.seq hl2), _, _, rfl, rfl, _, rfl, ite2 (fun c3 => ?_) (fun c3 => ?_)⟩
        · have c3 : (!decide (((x.map V.int).length : Int) = ((y.map V.int).length : Int))) = true := c3
          have c3 : ¬ ((x.map V.int).length : Int) = ((y.map V.int).length : Int) := fun e => by
            rw [decide_eq_true e] at c3
            cases c3
          rw [if_neg (by
            intro z
            have z := of_decide_eq_true z
            omega)] at q
          exact q H2 s02
        · have c3 : ((x.map V.int).length : Int) = ((y.map V.int).length : Int) := by
            by_cases e : ((x.map V.int).length : Int) = ((y.map V.int).length : Int)
            · exact e
            · exact absurd (show (!decide (((x.map V.int).length : Int) = ((y.map V.int).length : Int))) = true by rw [decide_eq_false e]; rfl) c3
          rw [if_pos (decide_eq_true (by omega))] at q
          exact q H2 s02
abbrev s_signed_numbers : Stmt := top 13
theorem sc_signed_numbers : FnScope ["bits", "row", "sign", "cell"] ["bits", "row"] (defScope s_signed_numbers) := ⟨rfl, rfl, rfl, by decide +kernel, rfl, by decide +kernel, by decide +kernel⟩
def lc_signed_numbers_0 : Scope := { kind := PySem.ScopeKind.function, names := [ (PySem.Str.ofString ".0", PySem.NameKind.local), (PySem.Str.ofString "cell", PySem.NameKind.local), (PySem.Str.ofString "sign", PySem.NameKind.free)], isGenerator := false, isCoroutine := false, more := [] : PySem.Scope }
theorem blk_lc_signed_numbers_0 : BlkOk ["bits", "row", "sign", "cell"] (defScope s_signed_numbers) lc_signed_numbers_0 [("cell", 3)] := ⟨rfl, by decide +kernel, by decide +kernel, by decide +kernel, by decide +kernel⟩
theorem ok_signed_numbers {f : Addr} {fd : FuncData} (F : Fun K "signed_numbers" "signed_numbers" s_signed_numbers f fd) (T : Txt P w K mg C N) :
    FnOk P w K mg base CX0 1 f fd ["bits", "row"] (sp_signed_numbers K) := by
  refine F.ok sc_signed_numbers (fun vs H Q E h => ?_) (fun cdv A outer s H vs Q E hr h => ?_)
  · obtain ⟨kind, a, x, rfl, _⟩ := h
    rfl
  · obtain ⟨kind, a, x, rfl, hk, hl, hn, hx, q⟩ := h
    obtain ⟨_, _, _, hb1, hb2⟩ := sgn_facts hk
    refine ⟨_, (pss_cons (ps_set (i := 2) sc_signed_numbers.nd rfl (by first | exact Or.inl rfl | exact Or.inr rfl) (pe_op op_shlB pe_int (pe_op op_sub (pv 0) pe_int))) (pss_one (ps_ret (pe_lc rfl sc_signed_numbers.nd (pi_list (pv 1)) (blk_lc_signed_numbers_0) (fun _ _ _ _ _ => pg_name (i := 3) sc_signed_numbers.nd rfl (Or.inl rfl) (by first | exact Or.inl rfl | exact Or.inr rfl)) (fun _ _ _ _ _ => pts_nil) (fun _ _ _ _ _ => (pe_ifExp (pt_cmp (pc_ge (pv 3) (pv 2))) (pe_op op_sub (pv 3) (pe_op op_mulB pe_int (pv 2))) (pv 3))))))), ?_⟩
    have eb : (((bitsK kind.toNat : Nat) : Int) - 1).toNat = bitsK kind.toNat - 1 := by omega
    refine ⟨_, rfl, _, _, rfl, rfl, _, _, rfl, rfl, ⟨by omega, 1, lt1 1 (by decide), by omega⟩, ?_⟩
    try dsimp only
    rw [Int.one_mul, eb]
    have lsg : Lt2 ((2 : Int) ^ (bitsK kind.toNat - 1)) 64 := (Lt2.two _).mono (by omega)
    try dsimp only [tRet, tCB, tCons, tNil, tSeq, tAsg, gName, tIfS, tNot, tB, tNext, sFld]
    refine tLc_in ?_
    refine ⟨_, rfl, a, rfl, ⟨_, hl⟩, ?_⟩
    refine er_lc (vI fun c => .int (valI kind.toNat c)) hl (len_ltM hn) (fun i y H' Q' hi sm q' => ?_) (fun H' D sm hd hD => ?_)
    · obtain ⟨c, hc, rfl⟩ := get_map hi
      have q'' := q' _ (Same.refl _)
      unfold vI at q''
      dsimp only at q''
      rw [val_sgn hk (hx c (List.mem_of_getElem? hc))] at q''
      refine ⟨_, rfl, _, rfl, _, _, rfl, rfl, _, rfl, ite2 (fun c1 => ?_) (fun c1 => ?_)⟩
      · rw [if_pos (of_decide_eq_true c1)] at q''
        exact ⟨_, rfl, _, rfl, _, _, rfl, rfl, ⟨2, 64, by unfold Lt2; decide, lsg, by decide⟩, _, _, rfl, rfl, q''⟩
      · rw [if_neg (fun z => c1 (decide_eq_true z))] at q''
        exact ⟨_, rfl, q''⟩
    · rw [map_vI] at hd
      refine q H' D sm ?_ hD
      rw [hd, List.map_map]
      rfl
abbrev s_Shape_init : Stmt := inClass (top 5) 0
theorem sc_Shape_init : FnScope ["self", "exponent_bits", "fraction_bits"] ["self", "exponent_bits", "fraction_bits"] (defScope s_Shape_init) := ⟨rfl, rfl, rfl, by decide +kernel, rfl, by decide +kernel, by decide +kernel⟩
theorem ok_Shape {f : Addr} {fd : FuncData} (F : Fun K "__init__" "Shape.__init__" s_Shape_init f fd) (T : Txt P w K mg C N) :
    FnOk P w K mg base CX0 1 f fd ["self", "exponent_bits", "fraction_bits"] (sp_Shape C) := by
  refine F.ok sc_Shape_init (fun vs H Q E h => ?_) (fun cdv A outer s H vs Q E hr h => ?_)
  · obtain ⟨p, dx, k, rfl, _⟩ := h
    rfl
  · obtain ⟨p, dx, k, rfl, hk, hp, q⟩ := h
    have hb := fmt_few hk
    refine ⟨_, (pss_cons (ps_fld (pv 0) (pv 2) rfl) (pss_cons (ps_fld (pv 0) (pe_op op_shlB pe_int (pe_op op_add (pv 1) (pv 2))) rfl) (pss_cons (ps_fld (pv 0) (pe_op op_shlB (pe_op op_sub (pe_op op_shlB pe_int (pv 1)) pe_int) (pv 2)) rfl) (pss_cons (ps_fld (pv 0) (pe_op op_add (pe_fld (pv 0) rfl) (pe_op op_shlB pe_int (pe_op op_sub (pv 2) pe_int))) rfl) (pss_cons (ps_fld (pv 0) (pe_op op_sub pe_int (pe_op op_shlB pe_int (pe_op op_sub (pv 1) pe_int))) rfl) (pss_one (ps_fld (pv 0) (pe_op op_sub (pv 2) (pe_fld (pv 0) rfl)) rfl))))))), ?_⟩
    refine ⟨_, rfl, _, rfl, p, C, dx, _, rfl, hp, T.cl, T.a_m, (by show 0 < 1000; decide), ?_⟩
    refine ⟨_, rfl, _, rfl, _, _, rfl, rfl, _, _, rfl, rfl, ⟨by omega, 1, lt1 1 (by decide), by omega⟩, _, rfl, p, C, dx, _, rfl, upd_same, T.cl, T.a_s, (by show 1 < 1000; decide), ?_⟩
    refine ⟨_, rfl, _, _, rfl, rfl, ⟨by omega, 1, lt1 1 (by decide), by omega⟩, _, _, rfl, rfl, _, rfl, _, _, rfl, rfl, ⟨by omega, 14, ?_, by omega⟩, _, rfl, p, C, dx, _, rfl, upd_same, T.cl, T.a_i, (by show 2 < 1000; decide), ?_⟩
    · rcases hk with h | h | h | h <;> subst h <;> (unfold Lt2; decide +kernel)
    refine ⟨_, rfl, p, C, dx, _, _, rfl, upd_same, T.cl, T.a_i, rfl, _, rfl, _, _, rfl, rfl, _, _, rfl, rfl, ⟨by omega, 1, lt1 1 (by decide), by omega⟩, _, _, rfl, rfl, _, rfl, p, C, dx, _, rfl, upd_same, T.cl, T.a_n, (by show 3 < 1000; decide), ?_⟩
    refine ⟨_, rfl, _, _, rfl, rfl, _, _, rfl, rfl, ⟨by have := hk.good.e; omega, 1, lt1 1 (by decide), by omega⟩, _, _, rfl, rfl, _, rfl, p, C, dx, _, rfl, upd_same, T.cl, T.a_l, (by show 4 < 1000; decide), ?_⟩
    refine ⟨_, rfl, _, rfl, p, C, dx, _, _, rfl, upd_same, T.cl, T.a_l, rfl, _, _, rfl, rfl, _, rfl, p, C, dx, _, rfl, upd_same, T.cl, T.a_u, (by show 5 < 1000; decide), ?_⟩
    refine q _ ?_ fun b o e hb => by rw [upd_ne hb, upd_ne hb, upd_ne hb, upd_ne hb, upd_ne hb, upd_ne hb]; exact e
    rw [upd_same]
    rcases hk with h | h | h | h <;> subst h <;> rfl
abbrev s_shape_of : Stmt := top 8
theorem sc_shape_of : FnScope ["kind", "bits"] ["kind"] (defScope s_shape_of) := ⟨rfl, rfl, rfl, by decide +kernel, rfl, by decide +kernel, by decide +kernel⟩
theorem ok_shape_of {f : Addr} {fd : FuncData} (F : Fun K "shape_of" "shape_of" s_shape_of f fd) (T : Txt P w K mg C N)
    (c_Shape : Maker P w K mg base C 1 "Shape" ["self", "exponent_bits", "fraction_bits"] (sp_Shape C)) :
    FnOk P w K mg base CX0 3 f fd ["kind"] (sp_shape_of C) := by
  refine F.ok sc_shape_of (fun vs H Q E h => ?_) (fun cdv A outer s H vs Q E hr h => ?_)
  · obtain ⟨kind, rfl, _⟩ := h
    rfl
  · obtain ⟨kind, rfl, hk, q⟩ := h
    obtain ⟨DF, a9, a10, a11, a12, g_FLOATING_KINDS, dF, t9, t10, t11, t12⟩ := T.t_F
    obtain ⟨ak, hv, hsq⟩ := get_F t9 t10 t11 t12 hk
    refine ⟨_, (pss_cons (ps_set (i := 1) sc_shape_of.nd rfl (by first | exact Or.inl rfl | exact Or.inr rfl) (pe_dgetK (pe_globR (by rfl) g_FLOATING_KINDS) (pv 0) (fun _ _ => rfl))) (pss_one (ps_ret (pe_makeC c_Shape (hr.mono (by decide)) (by rfl) (pa_cons (pe_ix (show IxR _ (rIxT K) from ix_tup) (pv 1) pe_int (fun _ _ => rfl)) (pa_cons (pe_ix (show IxR _ (rIxT K) from ix_tup) (pv 1) pe_int (fun _ _ => rfl)) pa_nil)))))), ?_⟩
    refine ⟨_, rfl, DF, _, Sum.inl kind, _, rfl, rfl, dF, hv, ?_⟩
    refine ⟨_, rfl, _, _, _, _, rfl, rfl, hsq _, rfl, _, rfl, _, _, _, _, rfl, rfl, hsq _, rfl, ?_⟩
    intro x dx hx hdx hne
    refine ⟨x, dx, kind.toNat, rfl, Er.okKind_iff.mp hk, upd_same, fun H' e1 e2 => ⟨rfl, ?_⟩⟩
    exact q H' x (Same.made hx hdx e2) ⟨Er.okKind_iff.mp hk, dx, e1⟩
abbrev s_size_bits : Stmt := top 11
theorem sc_size_bits : FnScope ["shape", "cell"] ["shape", "cell"] (defScope s_size_bits) := ⟨rfl, rfl, rfl, by decide +kernel, rfl, by decide +kernel, by decide +kernel⟩
theorem ok_size_bits {f : Addr} {fd : FuncData} (F : Fun K "size_bits" "size_bits" s_size_bits f fd) (T : Txt P w K mg C N) :
    FnOk P w K mg base CX0 1 f fd ["shape", "cell"] (sp_size_bits C) := by
  refine F.ok sc_size_bits (fun vs H Q E h => ?_) (fun cdv A outer s H vs Q E hr h => ?_)
  · obtain ⟨p, k, c, rfl, _⟩ := h
    rfl
  · obtain ⟨p, k, c, rfl, ⟨hk, dx, hp⟩, hc, q⟩ := h
    refine ⟨_, (pss_one (ps_ret (pe_op op_and (pv 1) (pe_op op_sub (pe_fld (pv 0) rfl) pe_int)))), ?_⟩
    refine ⟨_, rfl, _, rfl, p, C, dx, _, _, rfl, hp, T.cl, T.a_s, shp_s _, _, _, rfl, rfl, _, _, rfl, rfl, ?_⟩
    try dsimp only
    rw [mag_and hc]
    exact q
abbrev s_floating_place : Stmt := top 14
theorem sc_floating_place : FnScope ["shape", "cell", "size"] ["shape", "cell"] (defScope s_floating_place) := ⟨rfl, rfl, rfl, by decide +kernel, rfl, by decide +kernel, by decide +kernel⟩
theorem ok_floating_place {f : Addr} {fd : FuncData} (F : Fun K "floating_place" "floating_place" s_floating_place f fd) (T : Txt P w K mg C N)
    (c_size_bits : Callee P w K mg base 1 "size_bits" ["shape", "cell"] (sp_size_bits C)) :
    FnOk P w K mg base CX0 2 f fd ["shape", "cell"] (sp_floating_place C) := by
  refine F.ok sc_floating_place (fun vs H Q E h => ?_) (fun cdv A outer s H vs Q E hr h => ?_)
  · obtain ⟨p, k, c, rfl, _⟩ := h
    rfl
  · obtain ⟨p, k, c, rfl, hs, hc, q⟩ := h
    obtain ⟨hk, dx, hp⟩ := id hs
    refine ⟨_, (pss_cons (ps_set (i := 2) sc_floating_place.nd rfl (by first | exact Or.inl rfl | exact Or.inr rfl) (pe_callC c_size_bits (hr.mono (by decide)) (by rfl) (pa_cons (pv 0) (pa_cons (pv 1) pa_nil)))) (pss_cons (ps_if (pt_cmp (pc_gt (pv 2) (pe_fld (pv 0) rfl))) (pss_one (ps_ret (pe_globI (by rfl) T.g_NONE_PLACE))) pss_nil) (pss_cons (ps_if (pt_cmp (pc_neI (pe_op op_and (pv 1) (pe_fld (pv 0) rfl)) pe_int)) (pss_one (ps_ret (pe_un un_neg (pv 2)))) pss_nil) (pss_one (ps_ret (pv 2)))))), ?_⟩
    rw [val_float hk] at q
    obtain ⟨_, _, esg⟩ := unit_eq (f := fmt k) hc
    refine ⟨_, rfl, _, rfl, p, k, c, rfl, hs, hc, ?_⟩
    refine ⟨_, rfl, _, rfl, p, C, dx, _, _, rfl, hp, T.cl, T.a_i, shp_i _, _, _, rfl, rfl, _, rfl, ite2 (fun c1 => ?_) (fun c1 => ?_)⟩
    · have c1 := of_decide_eq_true c1
      rw [if_pos (by omega)] at q
      exact q
    · have c1 : ¬ ((fmt k).infBits : Int) < ((mag (fmt k) c.toNat : Nat) : Int) := fun z => c1 (decide_eq_true z)
      rw [if_neg (by omega)] at q
      refine ⟨_, rfl, _, rfl, p, C, dx, _, _, rfl, hp, T.cl, T.a_s, shp_s _, _, _, rfl, rfl, _, _, rfl, rfl, _, rfl, ite2 (fun c2 => ?_) (fun c2 => ?_)⟩
      · have c2 : Builtin.bitAnd c ((fmt k).signBit : Int) ≠ 0 := by simpa using c2
        rw [if_pos (esg.mp c2)] at q
        exact ⟨_, rfl, _, rfl, q⟩
      · have c2 : ¬ Builtin.bitAnd c ((fmt k).signBit : Int) ≠ 0 := by simpa using c2
        rw [if_neg (fun z => c2 (esg.mpr z))] at q
        exact ⟨_, rfl, q⟩
abbrev s_value_places : Stmt := top 12
theorem sc_value_places : FnScope ["kind", "row", "shape", "cell"] ["kind", "row"] (defScope s_value_places) := ⟨rfl, rfl, rfl, by decide +kernel, rfl, by decide +kernel, by decide +kernel⟩
def lc_value_places_0 : Scope := { kind := PySem.ScopeKind.function, names := [ (PySem.Str.ofString ".0", PySem.NameKind.local), (PySem.Str.ofString "cell", PySem.NameKind.local), (PySem.Str.ofString "floating_place", PySem.NameKind.globalImplicit), (PySem.Str.ofString "shape", PySem.NameKind.free)], isGenerator := false, isCoroutine := false, more := [] : PySem.Scope }
theorem blk_lc_value_places_0 : BlkOk ["kind", "row", "shape", "cell"] (defScope s_value_places) lc_value_places_0 [("cell", 3)] := ⟨rfl, by decide +kernel, by decide +kernel, by decide +kernel, by decide +kernel⟩
theorem ok_value_places {f : Addr} {fd : FuncData} (F : Fun K "value_places" "value_places" s_value_places f fd) (T : Txt P w K mg C N)
    (c_signed_numbers : Callee P w K mg base 1 "signed_numbers" ["bits", "row"] (sp_signed_numbers K))
    (c_shape_of : Callee P w K mg base 3 "shape_of" ["kind"] (sp_shape_of C))
    (c_floating_place : Callee P w K mg base 2 "floating_place" ["shape", "cell"] (sp_floating_place C)) :
    FnOk P w K mg base CX0 4 f fd ["kind", "row"] (sp_value_places K) := by
  refine F.ok sc_value_places (fun vs H Q E h => ?_) (fun cdv A outer s H vs Q E hr h => ?_)
  · obtain ⟨kind, a, x, rfl, _⟩ := h
    rfl
  · obtain ⟨kind, a, x, rfl, hk, hl, hn, hx, q⟩ := h
    obtain ⟨DU, g_UNSIGNED_KINDS, dU⟩ := T.t_U
    obtain ⟨DS, g_SIGNED_KINDS, dS⟩ := T.t_S
    refine ⟨_, (pss_cons (ps_if (pt_cmp (pc_dinK (pv 0) (pe_globR (by rfl) g_UNSIGNED_KINDS))) (pss_one (ps_ret (pe_callTy call_list_of (by rfl) T.n_list boot_list1 (pa_cons (pv 1) pa_nil)))) pss_nil) (pss_cons (ps_if (pt_cmp (pc_dinK (pv 0) (pe_globR (by rfl) g_SIGNED_KINDS))) (pss_one (ps_ret (pe_callC c_signed_numbers (hr.mono (by decide)) (by rfl) (pa_cons (pe_dgetK (pe_globR (by rfl) g_SIGNED_KINDS) (pv 0) (fun _ _ => rfl)) (pa_cons (pv 1) pa_nil))))) pss_nil) (pss_cons (ps_set (i := 2) sc_value_places.nd rfl (by first | exact Or.inl rfl | exact Or.inr rfl) (pe_callC c_shape_of (hr.mono (by decide)) (by rfl) (pa_cons (pv 0) pa_nil))) (pss_one (ps_ret (pe_lc rfl sc_value_places.nd (pi_list (pv 1)) (blk_lc_value_places_0) (fun _ _ _ _ _ => pg_name (i := 3) sc_value_places.nd rfl (Or.inl rfl) (by first | exact Or.inl rfl | exact Or.inr rfl)) (fun _ _ _ _ _ => pts_nil) (fun _ _ _ _ _ => (pe_callC c_floating_place (hr.mono (by decide)) (by rfl) (pa_cons (pv 2) (pa_cons (pv 3) pa_nil)))))))))), ?_⟩
    refine ⟨_, rfl, DU, _, Sum.inl kind, rfl, rfl, dU, ?_⟩
    try dsimp only
    rw [val_U]
    refine ⟨_, rfl, ite2 (fun c => ?_) (fun c => ?_)⟩
    · rw [map_id_of fun z hz => val_uns c (hx z hz)] at q
      exact ⟨_, rfl, a, _, rfl, Or.inl hl, fun l hl0 => q _ l (Same.upd hl0) upd_same hl0⟩
    · have c : unsK kind = false := by simpa using c
      refine ⟨_, rfl, DS, _, Sum.inl kind, rfl, rfl, dS, ?_⟩
      try dsimp only
      rw [val_S]
      refine ⟨_, rfl, ite2 (fun c2 => ?_) (fun c2 => ?_)⟩
      · exact ⟨_, rfl, DS, _, Sum.inl kind, _, rfl, rfl, dS, get_S c2, _, rfl, kind, a, x, rfl, c2, hl, hn, hx, q⟩
      · have c2 : sgnK kind = false := by simpa using c2
        have hf := wf_kind hk c2 c
        refine ⟨_, rfl, kind, rfl, hf, fun H1 p s1 hp => ?_⟩
        have hl1 := s1.seq hl
        try dsimp only [tRet, tCB, tCons, tNil, tSeq, tAsg, gName, tIfS, tNot, tB, tNext, sFld]
        refine tLc_in ?_
        refine ⟨_, rfl, a, rfl, ⟨_, hl1⟩, ?_⟩
        refine er_lc (vI fun c => .int (valI kind.toNat c)) hl1 (len_ltM hn) (fun i y H' Q' hi sm q' => ?_) (fun H' D sm hd hD => ?_)
        · obtain ⟨c, hc, rfl⟩ := get_map hi
          exact ⟨_, rfl, _, rfl, p, kind.toNat, c, rfl, hp.mono sm, hx c (List.mem_of_getElem? hc), q' _ (Same.refl _)⟩
        · rw [map_vI] at hd
          refine q H' D (s1.trans sm) ?_ (s1.free hD)
          rw [hd, List.map_map]
          rfl
abbrev s_pairs_among : Stmt := top 26
theorem sc_pairs_among : FnScope ["count"] ["count"] (defScope s_pairs_among) := ⟨rfl, rfl, rfl, by decide +kernel, rfl, by decide +kernel, by decide +kernel⟩
theorem ok_pairs_among {f : Addr} {fd : FuncData} (F : Fun K "pairs_among" "pairs_among" s_pairs_among f fd) (T : Txt P w K mg C N) :
    FnOk P w K mg base CX0 1 f fd ["count"] (sp_pairs_among) := by
  refine F.ok sc_pairs_among (fun vs H Q E h => ?_) (fun cdv A outer s H vs Q E hr h => ?_)
  · obtain ⟨n, rfl, _⟩ := h
    rfl
  · obtain ⟨n, rfl, hn, q⟩ := h
    refine ⟨_, (pss_one (ps_ret (pe_op op_fdivB (pe_op op_mulB (pv 0) (pe_op op_sub (pv 0) pe_int)) pe_int))), ?_⟩
    refine ⟨_, rfl, _, rfl, _, _, rfl, rfl, _, _, rfl, rfl, ⟨15, 15, Lt2.of_lt (by omega) (by omega), by unfold Lt2; omega, by decide⟩, _, _, rfl, rfl, ⟨by decide, by unfold Lt2; decide⟩, ?_⟩
    try dsimp only
    rw [triN_int]
    exact q
abbrev s_counted : Stmt := top 16
theorem sc_counted : FnScope ["values", "counts", "value"] ["values"] (defScope s_counted) := ⟨rfl, rfl, rfl, by decide +kernel, rfl, by decide +kernel, by decide +kernel⟩
theorem ok_counted {f : Addr} {fd : FuncData} (F : Fun K "counted" "counted" s_counted f fd) (T : Txt P w K mg C N) :
    FnOk P w K mg base CX0 1 f fd ["values"] (sp_counted K) := by
  refine F.ok sc_counted (fun vs H Q E h => ?_) (fun cdv A outer s H vs Q E hr h => ?_)
  · obtain ⟨a, rfl, _⟩ := h
    rfl
  · obtain ⟨a, rfl, hq⟩ := h
    refine ⟨_, (pss_cons (ps_set (i := 1) sc_counted.nd rfl (by first | exact Or.inl rfl | exact Or.inr rfl) pe_dnewKT) (pss_cons (ps_for PassesOwn.never rfl (pi_list (pv 0)) (pg_name (i := 2) sc_counted.nd rfl (Or.inl rfl) (by first | exact Or.inl rfl | exact Or.inr rfl)) (pss_one (ps_dput (hu_of hr) (pv 1) (pv 2) (pe_op op_add (pe_dget2 (hu_of hr) (pv 1) (pv 2) pe_int ⟨rfl, rfl, rfl, rfl⟩) pe_int) rfl))) (pss_one (ps_ret (pv 1))))), ?_⟩
    rcases hq with ⟨l, hl, hn, q⟩ | ⟨l, ts, hl, hts, hn, q⟩
    · refine Or.inl fun d hd => ?_
      have s0 : Same H _ := Same.upd (o := .dK []) hd
      refine ⟨_, rfl, a, rfl, ⟨_, s0.seq hl⟩, for_list (K := K) (a := a) (xs := l.map V.int) (fun i σ H' => ∃ v2 : Option V, σ = [some (.ref a), some (.ref d), v2] ∧ Same H H' ∧ H' d = some (.dK (cntKV kI (l.take i))))
        ⟨none, rfl, s0, upd_same⟩ (fun i σ H' _ ⟨_, _, sm, _⟩ => sm.seq hl) ?_ ?_⟩
      · rintro i y σ H' hi ⟨v2, rfl, sm, hk⟩
        obtain ⟨c, hc, rfl⟩ := get_map hi
        have hle := cnt_len kI (l.take i)
        rw [List.length_take] at hle
        have hlt : (cntKV kI (l.take i)).length < sizeLine := Nat.lt_of_le_of_lt (show _ ≤ 8500 by omega) (by decide)
        refine ⟨_, rfl, d, rfl, Or.inl ⟨_, Rd.of hk⟩, _, rfl, _, DGet.k (k := kI c) hk, ?_⟩
        rw [cnt_getD kI_inj]
        refine ⟨_, _, rfl, rfl, _, rfl, _, rfl, d, _, rfl, Or.inl ⟨_, kI c, hk, rfl, hlt, rfl⟩, ?_⟩
        try dsimp only
        rw [cnt_put kI_inj, ← take_snocV hc]
        exact ⟨_, rfl, fun b o e => by rw [upd_ne (ne_of_none e hd)]; exact sm _ _ e, upd_same⟩
      · rintro σ H' ⟨v2, rfl, sm, hk⟩
        rw [List.length_map, List.take_length] at hk
        exact ⟨_, rfl, q H' d sm hk hd⟩
    · refine Or.inr fun d hd => ?_
      have s0 : Same H _ := Same.upd (o := .dT []) hd
      have hlen : ts.length = l.length := paired_len hts
      refine ⟨_, rfl, a, rfl, ⟨_, s0.seq hl⟩, for_list (K := K) (a := a) (xs := ts.map V.ref) (fun i σ H' => ∃ v2 : Option V, σ = [some (.ref a), some (.ref d), v2] ∧ Same H H' ∧ H' d = some (.dT (cntKV kP (l.take i))))
        ⟨none, rfl, s0, upd_same⟩ (fun i σ H' _ ⟨_, _, sm, _⟩ => sm.seq hl) ?_ ?_⟩
      · rintro i y σ H' hi ⟨v2, rfl, sm, hk⟩
        obtain ⟨t, ht, rfl⟩ := refs_get hi
        obtain ⟨c, hc, htup⟩ := paired_get hts ht
        have htup' : H' t = some (.tup ((kP c).map kV)) := sm _ _ htup
        have hle := cnt_len kP (l.take i)
        rw [List.length_take] at hle
        have hlt : (cntKV kP (l.take i)).length < sizeLine := Nat.lt_of_le_of_lt (show _ ≤ 8500 by omega) (by decide)
        refine ⟨_, rfl, d, rfl, Or.inr ⟨_, Rd.of hk⟩, _, rfl, _, Or.inr ⟨_, kP c, t, Rd.of hk, rfl, htup', rfl⟩, ?_⟩
        rw [cnt_getD kP_inj]
        refine ⟨_, _, rfl, rfl, _, rfl, _, rfl, d, _, rfl, Or.inr ⟨_, kP c, t, hk, rfl, htup', hlt, rfl⟩, ?_⟩
        try dsimp only
        rw [cnt_put kP_inj, ← take_snocV hc]
        exact ⟨_, rfl, fun b o e => by rw [upd_ne (ne_of_none e hd)]; exact sm _ _ e, upd_same⟩
      · rintro σ H' ⟨v2, rfl, sm, hk⟩
        rw [List.length_map, hlen, List.take_length] at hk
        exact ⟨_, rfl, q H' d sm hk hd⟩
abbrev s_equal_pairs : Stmt := top 27
theorem sc_equal_pairs : FnScope ["values", "count"] ["values"] (defScope s_equal_pairs) := ⟨rfl, rfl, rfl, by decide +kernel, rfl, by decide +kernel, by decide +kernel⟩
def lc_equal_pairs_0 : Scope := { kind := PySem.ScopeKind.function, names := [ (PySem.Str.ofString ".0", PySem.NameKind.local), (PySem.Str.ofString "count", PySem.NameKind.local), (PySem.Str.ofString "pairs_among", PySem.NameKind.globalImplicit)], isGenerator := false, isCoroutine := false, more := [] : PySem.Scope }
theorem blk_lc_equal_pairs_0 : BlkOk ["values", "count"] (defScope s_equal_pairs) lc_equal_pairs_0 [("count", 1)] := ⟨rfl, by decide +kernel, by decide +kernel, by decide +kernel, by decide +kernel⟩
theorem ok_equal_pairs {f : Addr} {fd : FuncData} (F : Fun K "equal_pairs" "equal_pairs" s_equal_pairs f fd) (T : Txt P w K mg C N)
    (c_counted : Callee P w K mg base 1 "counted" ["values"] (sp_counted K))
    (c_pairs_among : Callee P w K mg base 1 "pairs_among" ["count"] (sp_pairs_among)) :
    FnOk P w K mg base CX0 2 f fd ["values"] (sp_equal_pairs K) := by
  refine F.ok sc_equal_pairs (fun vs H Q E h => ?_) (fun cdv A outer s H vs Q E hr h => ?_)
  · obtain ⟨a, rfl, _⟩ := h
    rfl
  · obtain ⟨a, rfl, hq⟩ := h
    refine ⟨_, (pss_one (ps_ret (pe_callB (cr_sum rfl) (by rfl) T.n_sum boot_sum1 (pa_cons (pe_lc rfl sc_equal_pairs.nd (pi_valuesKT (pe_frz (pe_callC c_counted (hr.mono (by decide)) (by rfl) (pa_cons (pv 0) pa_nil)))) (blk_lc_equal_pairs_0) (fun _ _ _ _ _ => pg_name (i := 1) sc_equal_pairs.nd rfl (Or.inl rfl) (by first | exact Or.inl rfl | exact Or.inr rfl)) (fun _ _ _ _ _ => pts_nil) (fun _ _ _ _ _ => (pe_callC c_pairs_among (hr.mono (by decide)) (by rfl) (pa_cons (pv 1) pa_nil)))) pa_nil)))), ?_⟩
    rcases hq with ⟨l, hl, hn, q⟩ | ⟨l, ts, hl, hts, hn, q⟩
    · skip
      try dsimp only [tRet, tCB, tCons, tNil, tSeq, tAsg, gName, tIfS, tNot, tB, tNext, sFld]
      refine tLc_in ?_
      refine ⟨_, rfl, a, rfl, Or.inl ⟨l, hl, hn, fun H1 d s1 hd hf => ?_⟩⟩
      refine ⟨d, _, rfl, hd, trivial, fun od => ⟨d, od, rfl, Or.inl ⟨_, upd_same, ?_⟩⟩⟩
      have s2 : Same H (upd H1 d (.frz od (.dK (cntKV kI l)))) := fun b o e => by rw [upd_ne (ne_of_none e hf)]; exact s1 _ _ e
      have hfl : (firsts l).length ≤ l.length := (firsts_sub l).length_le
      refine er_lcV (xs := (firsts l).map fun v => V.int ((cn l v : Nat) : Int)) (ys := (firsts l).map fun v => V.int ((triN (cn l v) : Nat) : Int)) upd_same (cnt_sum kI l).1.symm (by rw [List.length_map]; exact Nat.lt_of_le_of_lt (show _ ≤ 8500 by omega) (by decide)) (by rw [List.length_map, List.length_map]) (fun i x y H' Q' hx hy sm q' => ?_) (fun H' D sm hd' hD => ?_)
      · rw [List.getElem?_map] at hx hy
        obtain ⟨v, hv, rfl⟩ := Option.map_eq_some_iff.mp hx
        rw [hv] at hy
        cases Option.some.inj hy
        exact ⟨_, rfl, cn l v, rfl, Nat.le_trans (cn_le l v) hn, q' _ (Same.refl _)⟩
      · refine ⟨D, (firsts l).map fun v => ((triN (cn l v) : Nat) : Int), rfl, SqL.of (by rw [hd', List.map_map]; rfl), ?_⟩
        try dsimp only
        rw [(cnt_sum kI l).2]
        exact q H' (s2.trans sm)
    · skip
      try dsimp only [tRet, tCB, tCons, tNil, tSeq, tAsg, gName, tIfS, tNot, tB, tNext, sFld]
      refine tLc_in ?_
      refine ⟨_, rfl, a, rfl, Or.inr ⟨l, ts, hl, hts, hn, fun H1 d s1 hd hf => ?_⟩⟩
      refine ⟨d, _, rfl, hd, trivial, fun od => ⟨d, od, rfl, Or.inr ⟨_, upd_same, ?_⟩⟩⟩
      have s2 : Same H (upd H1 d (.frz od (.dT (cntKV kP l)))) := fun b o e => by rw [upd_ne (ne_of_none e hf)]; exact s1 _ _ e
      have hfl : (firsts l).length ≤ l.length := (firsts_sub l).length_le
      refine er_lcVT (xs := (firsts l).map fun v => V.int ((cn l v : Nat) : Int)) (ys := (firsts l).map fun v => V.int ((triN (cn l v) : Nat) : Int)) upd_same (cnt_sum kP l).1.symm (by rw [List.length_map]; exact Nat.lt_of_le_of_lt (show _ ≤ 8500 by omega) (by decide)) (by rw [List.length_map, List.length_map]) (fun i x y H' Q' hx hy sm q' => ?_) (fun H' D sm hd' hD => ?_)
      · rw [List.getElem?_map] at hx hy
        obtain ⟨v, hv, rfl⟩ := Option.map_eq_some_iff.mp hx
        rw [hv] at hy
        cases Option.some.inj hy
        exact ⟨_, rfl, cn l v, rfl, Nat.le_trans (cn_le l v) hn, q' _ (Same.refl _)⟩
      · refine ⟨D, (firsts l).map fun v => ((triN (cn l v) : Nat) : Int), rfl, SqL.of (by rw [hd', List.map_map]; rfl), ?_⟩
        try dsimp only
        rw [(cnt_sum kP l).2]
        exact q H' (s2.trans sm)
abbrev s_count_at_most : Stmt := top 17
theorem sc_count_at_most : FnScope ["rising", "limit", "low", "high", "middle"] ["rising", "limit"] (defScope s_count_at_most) := ⟨rfl, rfl, rfl, by decide +kernel, rfl, by decide +kernel, by decide +kernel⟩
theorem ok_count_at_most {f : Addr} {fd : FuncData} (F : Fun K "count_at_most" "count_at_most" s_count_at_most f fd) (T : Txt P w K mg C N) :
    FnOk P w K mg base CX0 1 f fd ["rising", "limit"] (sp_count_at_most K) := by
  refine F.ok sc_count_at_most (fun vs H Q E h => ?_) (fun cdv A outer s H vs Q E hr h => ?_)
  · obtain ⟨a, l, z, rfl, _⟩ := h
    rfl
  · obtain ⟨a, l, z, rfl, hl, hn, hpw, q⟩ := h
    refine ⟨_, (pss_cons (ps_set (i := 2) sc_count_at_most.nd rfl (by first | exact Or.inl rfl | exact Or.inr rfl) pe_int) (pss_cons (ps_set (i := 3) sc_count_at_most.nd rfl (by first | exact Or.inl rfl | exact Or.inr rfl) (pe_callB call_len_seq (by rfl) T.n_len boot_len1 (pa_cons (pv 0) pa_nil))) (pss_cons (ps_while PassesOwn.never (pt_cmp (pc_lt (pv 2) (pv 3))) (pss_cons (ps_set (i := 4) sc_count_at_most.nd rfl (by first | exact Or.inl rfl | exact Or.inr rfl) (pe_op op_fdivB (pe_op op_add (pv 2) (pv 3)) pe_int)) (pss_one (ps_if (pt_cmp (pc_le (pe_ix (show IxR _ (rIxL K) from ix_list) (pv 0) (pv 4) (fun _ _ => rfl)) (pv 1))) (pss_one (ps_set (i := 2) sc_count_at_most.nd rfl (by first | exact Or.inl rfl | exact Or.inr rfl) (pe_op op_add (pv 4) pe_int))) (pss_one (ps_set (i := 3) sc_count_at_most.nd rfl (by first | exact Or.inl rfl | exact Or.inr rfl) (pv 4))))))) (pss_one (ps_ret (pv 2)))))), ?_⟩
    refine ⟨_, rfl, a, _, rfl, Or.inl hl, ?_⟩
    have el : ((l.map V.int).length : Int) = (l.length : Int) := by rw [List.length_map]
    try dsimp only
    rw [el]
    refine while_by (fun σ H' => H' = H ∧ ∃ (lo hi : Nat) (v4 : Option V), σ = [some (.ref a), some (.int z), some (.int lo), some (.int hi), v4] ∧ lo ≤ hi ∧ hi ≤ l.length ∧ (∀ i, i < lo → l.getD i 0 ≤ z) ∧ (∀ i, hi ≤ i → i < l.length → z < l.getD i 0))
      (fun σ _ => match σ with | [_, _, some (.int lo), some (.int hi), _] => (hi - lo).toNat | _ => 0) ⟨rfl, 0, l.length, none, rfl, by omega, by omega, fun i hi => by omega, fun i h1 h2 => by omega⟩ ?_ ?_
    · rintro σ H' ⟨rfl, lo, hi, v4, rfl, h1, h2, h3, h4⟩
      refine ⟨_, rfl, _, rfl, _, _, rfl, rfl, _, rfl, ite2 (fun c => ?_) (fun c => ?_)⟩
      · have c := of_decide_eq_true c
        have em : ((lo : Int) + (hi : Int)) / 2 = (((lo + hi) / 2 : Nat) : Int) := by omega
        refine ⟨_, rfl, _, rfl, _, _, rfl, rfl, _, _, rfl, rfl, ⟨by decide, by unfold Lt2; decide⟩, ?_⟩
        try dsimp only
        rw [em]
        obtain ⟨m, hm⟩ : ∃ m, m = (lo + hi) / 2 := ⟨_, rfl⟩
        rw [← hm]
        refine ⟨_, rfl, _, rfl, a, _, _, _, rfl, rfl, hl, at_of (j := m) rfl (getI_at (by omega)), _, rfl, _, _, rfl, rfl, _, rfl, ite2 (fun c2 => ?_) (fun c2 => ?_)⟩
        · have c2 := of_decide_eq_true c2
          refine ⟨_, rfl, _, _, rfl, rfl, ⟨rfl, m + 1, hi, _, rfl, by omega, h2, fun i hi2 => ?_, h4⟩, ?_⟩
          · have := pw_getD hpw (i := i) (j := m) (by omega) (by omega)
            omega
          · show ((hi : Int) - ((m : Int) + 1)).toNat < ((hi : Int) - (lo : Int)).toNat
            omega
        · have c2 : ¬ l.getD m 0 ≤ z := fun w => c2 (decide_eq_true w)
          refine ⟨_, rfl, ⟨rfl, lo, m, _, rfl, by omega, by omega, h3, fun i h5 h6 => ?_⟩, ?_⟩
          · have := pw_getD hpw (i := m) (j := i) h5 h6
            omega
          · show ((m : Int) - (lo : Int)).toNat < ((hi : Int) - (lo : Int)).toNat
            omega
      · have c : ¬ (lo : Int) < (hi : Int) := fun w => c (decide_eq_true w)
        have e : lo = hi := by omega
        subst e
        rw [atMost_split h2 h3 h4] at q
        exact ⟨_, rfl, q⟩
    · intro σ H' Q1 Q2 hq h
      obtain ⟨v1, e1, v2, e2, i, j, e3, e4, b, e5, h⟩ := h
      exact ⟨v1, e1, v2, e2, i, j, e3, e4, b, e5, hq _ _ h⟩
abbrev s_falling_pairs : Stmt := top 28
theorem sc_falling_pairs : FnScope ["numbers", "falls", "seen", "number", "place"] ["numbers"] (defScope s_falling_pairs) := ⟨rfl, rfl, rfl, by decide +kernel, rfl, by decide +kernel, by decide +kernel⟩
theorem ok_falling_pairs {f : Addr} {fd : FuncData} (F : Fun K "falling_pairs" "falling_pairs" s_falling_pairs f fd) (T : Txt P w K mg C N)
    (c_count_at_most : Callee P w K mg base 1 "count_at_most" ["rising", "limit"] (sp_count_at_most K)) :
    FnOk P w K mg base CX0 2 f fd ["numbers"] (sp_falling_pairs K) := by
  refine F.ok sc_falling_pairs (fun vs H Q E h => ?_) (fun cdv A outer s H vs Q E hr h => ?_)
  · obtain ⟨a, l, rfl, _⟩ := h
    rfl
  · obtain ⟨a, l, rfl, hl, hn, q⟩ := h
    refine ⟨_, (pss_cons (ps_set (i := 1) sc_falling_pairs.nd rfl (by first | exact Or.inl rfl | exact Or.inr rfl) pe_int) (pss_cons (ps_set (i := 2) sc_falling_pairs.nd rfl (by first | exact Or.inl rfl | exact Or.inr rfl) (pe_lst pa_nil)) (pss_cons (ps_for PassesOwn.never rfl (pi_list (pv 0)) (pg_name (i := 3) sc_falling_pairs.nd rfl (Or.inl rfl) (by first | exact Or.inl rfl | exact Or.inr rfl)) (pss_cons (ps_set (i := 4) sc_falling_pairs.nd rfl (by first | exact Or.inl rfl | exact Or.inr rfl) (pe_callC c_count_at_most (hr.mono (by decide)) (by rfl) (pa_cons (pv 2) (pa_cons (pv 3) pa_nil)))) (pss_cons (ps_set (i := 1) sc_falling_pairs.nd rfl (by first | exact Or.inl rfl | exact Or.inr rfl) (pe_op op_sub (pe_op op_add (pv 1) (pe_callB call_len_seq (by rfl) T.n_len boot_len1 (pa_cons (pv 2) pa_nil))) (pv 4))) (pss_one (ps_expr (pe_bm PySem.F.plainAttrs_list PySem.F.slot_list_insert PySem.F.type_list_insert mt_insert (pv 2) (pa_cons (pv 4) (pa_cons (pv 3) pa_nil)))))))) (pss_one (ps_ret (pv 1)))))), ?_⟩
    refine ⟨(by show 0 ≤ sizeLine; decide), fun d hd => ?_⟩
    have s0 : Same H _ := Same.upd (o := .lst []) hd
    refine ⟨_, rfl, a, rfl, ⟨_, s0.seq hl⟩, for_list (K := K) (a := a) (xs := l.map V.int) (fun i σ H' => ∃ (v3 v4 : Option V) (sn : List Int), σ = [some (.ref a), some (.int (fallN (l.take i))), some (.ref d), v3, v4] ∧ Same H H' ∧ H' d = some (.lst (sn.map V.int)) ∧ sn.Pairwise (· ≤ ·) ∧ sn.Perm (l.take i))
      ⟨none, none, [], rfl, s0, upd_same, List.Pairwise.nil, List.Perm.nil⟩ (fun i σ H' _ ⟨_, _, _, _, sm, _⟩ => sm.seq hl) ?_ ?_⟩
    · rintro i y σ H' hi ⟨v3, v4, sn, rfl, sm, hk, hpw, hpm⟩
      obtain ⟨v, hv, rfl⟩ := get_map hi
      have hsl : sn.length ≤ 8500 := by rw [hpm.length_eq, List.length_take]; omega
      obtain ⟨k, hk0⟩ : ∃ k, k = atMost sn v := ⟨_, rfl⟩
      obtain ⟨p1, p2, p3, p4⟩ := put_in hpw (v := v) (k := k) hk0
      have hf : fallN (l.take i) + ((sn.map V.int).length : Int) - ((k : Nat) : Int) = fallN (l.take (i + 1)) := by
        unfold fallN
        rw [take_snocV hv, pn_snoc, ← (hpm.filter fun a => decide (v < a)).length_eq, ← p3, List.length_map, Int.natCast_add]
        omega
      refine ⟨_, rfl, _, rfl, d, sn, v, rfl, SqL.of hk, hsl, hpw, ?_⟩
      rw [← hk0]
      refine ⟨_, rfl, _, rfl, d, _, rfl, Or.inl (SqL.of hk), _, _, rfl, rfl, _, rfl, _, _, rfl, rfl, ?_⟩
      try dsimp only
      rw [hf]
      refine ⟨_, rfl, Or.inl ⟨rfl, _, SqL.of hk⟩, _, rfl, _, rfl, d, _, k, _, rfl, rfl, hk, by rw [List.length_map]; exact p4, by rw [List.length_map]; exact Nat.lt_of_le_of_lt hsl (by decide), ?_⟩
      refine ⟨_, _, sn.take k ++ v :: sn.drop k, rfl, fun b o e => by rw [upd_ne (ne_of_none e hd)]; exact sm _ _ e, ?_, p1, ?_⟩
      · rw [upd_same, List.map_append, List.map_cons, List.map_take, List.map_drop]
      · rw [take_snocV hv]
        exact p2.trans (hpm.append_right [v])
    · rintro σ H' ⟨v3, v4, sn, rfl, sm, hk, hpw, hpm⟩
      rw [List.length_map, List.take_length]
      exact ⟨_, rfl, q H' sm⟩
abbrev s_row_pairs : Stmt := top 25
theorem sc_row_pairs : FnScope ["kind", "x", "y", "points", "compared", "apart", "alike", "other", "point"] ["kind", "x", "y"] (defScope s_row_pairs) := ⟨rfl, rfl, rfl, by decide +kernel, rfl, by decide +kernel, by decide +kernel⟩
def lc_row_pairs_0 : Scope := { kind := PySem.ScopeKind.function, names := [ (PySem.Str.ofString ".0", PySem.NameKind.local), (PySem.Str.ofString "point", PySem.NameKind.local), (PySem.Str.ofString "NONE_PLACE", PySem.NameKind.globalImplicit)], isGenerator := false, isCoroutine := false, more := [] : PySem.Scope }
theorem blk_lc_row_pairs_0 : BlkOk ["kind", "x", "y", "points", "compared", "apart", "alike", "other", "point"] (defScope s_row_pairs) lc_row_pairs_0 [("point", 8)] := ⟨rfl, by decide +kernel, by decide +kernel, by decide +kernel, by decide +kernel⟩
def lc_row_pairs_1 : Scope := { kind := PySem.ScopeKind.function, names := [(PySem.Str.ofString ".0", PySem.NameKind.local), (PySem.Str.ofString "point", PySem.NameKind.local)], isGenerator := false, isCoroutine := false, more := [] : PySem.Scope }
theorem blk_lc_row_pairs_1 : BlkOk ["kind", "x", "y", "points", "compared", "apart", "alike", "other", "point"] (defScope s_row_pairs) lc_row_pairs_1 [("point", 8)] := ⟨rfl, by decide +kernel, by decide +kernel, by decide +kernel, by decide +kernel⟩
def lc_row_pairs_2 : Scope := { kind := PySem.ScopeKind.function, names := [(PySem.Str.ofString ".0", PySem.NameKind.local), (PySem.Str.ofString "point", PySem.NameKind.local)], isGenerator := false, isCoroutine := false, more := [] : PySem.Scope }
theorem blk_lc_row_pairs_2 : BlkOk ["kind", "x", "y", "points", "compared", "apart", "alike", "other", "point"] (defScope s_row_pairs) lc_row_pairs_2 [("point", 8)] := ⟨rfl, by decide +kernel, by decide +kernel, by decide +kernel, by decide +kernel⟩
def lc_row_pairs_3 : Scope := { kind := PySem.ScopeKind.function, names := [(PySem.Str.ofString ".0", PySem.NameKind.local), (PySem.Str.ofString "point", PySem.NameKind.local)], isGenerator := false, isCoroutine := false, more := [] : PySem.Scope }
theorem blk_lc_row_pairs_3 : BlkOk ["kind", "x", "y", "points", "compared", "apart", "alike", "other", "point"] (defScope s_row_pairs) lc_row_pairs_3 [("point", 8)] := ⟨rfl, by decide +kernel, by decide +kernel, by decide +kernel, by decide +kernel⟩
theorem ok_row_pairs {f : Addr} {fd : FuncData} (F : Fun K "row_pairs" "row_pairs" s_row_pairs f fd) (T : Txt P w K mg C N)
    (c_value_places : Callee P w K mg base 4 "value_places" ["kind", "row"] (sp_value_places K))
    (c_pairs_among : Callee P w K mg base 1 "pairs_among" ["count"] (sp_pairs_among))
    (c_equal_pairs : Callee P w K mg base 2 "equal_pairs" ["values"] (sp_equal_pairs K))
    (c_falling_pairs : Callee P w K mg base 2 "falling_pairs" ["numbers"] (sp_falling_pairs K)) :
    FnOk P w K mg base CX0 5 f fd ["kind", "x", "y"] (sp_row_pairs K) := by
  refine F.ok sc_row_pairs (fun vs H Q E h => ?_) (fun cdv A outer s H vs Q E hr h => ?_)
  · obtain ⟨kind, a, b, x, y, rfl, _⟩ := h
    rfl
  · obtain ⟨kind, a, b, x, y, rfl, hk, ht, hl, hl2, q⟩ := h
    have ht' := ht
    unfold Er.twoI at ht'
    simp only [Bool.and_eq_true, decide_eq_true_eq] at ht'
    obtain ⟨hrx, hry, hxy⟩ := ht'
    have cx : ∀ c ∈ x, 0 ≤ c ∧ cellI kind.toNat c = true := fun c h => by
      unfold rowI at hrx
      simp only [Bool.and_eq_true] at hrx
      have hc := List.all_eq_true.mp hrx.2 c h
      exact ⟨(cellI_K hc).1, hc⟩
    have cy : ∀ c ∈ y, 0 ≤ c ∧ cellI kind.toNat c = true := fun c h => by
      unfold rowI at hry
      simp only [Bool.and_eq_true] at hry
      have hc := List.all_eq_true.mp hry.2 c h
      exact ⟨(cellI_K hc).1, hc⟩
    have hx1 : x.length ≤ 4096 := by
      unfold rowI at hrx
      simp only [Bool.and_eq_true, decide_eq_true_eq] at hrx
      exact hrx.1
    have hy1 : y.length ≤ 4096 := by omega
    rw [pair_link hk cx cy, pair_link hk cx cy, pair_link hk cx cy, pair_link hk cx cy] at q
    obtain ⟨U, hU⟩ : ∃ U, U = x.map (valI kind.toNat) := ⟨_, rfl⟩
    obtain ⟨W, hW⟩ : ∃ W, W = y.map (valI kind.toNat) := ⟨_, rfl⟩
    rw [← hU, ← hW] at q
    have hul : U.length = x.length := by rw [hU, List.length_map]
    have hwl : W.length = y.length := by rw [hW, List.length_map]
    have k3 := sorts3 (U.zip W)
    have k2 := sorts2 (U.zip W)
    have k1 := sorts1 (U.zip W)
    have k0 := sorts0 (U.zip W)
    have hzl : (U.zip W).length = x.length := by rw [List.length_zip]; omega
    have hpl : ((U.zip W).filter gd).length ≤ (U.zip W).length := List.length_filter_le ..
    refine ⟨_, (pss_cons (ps_setLc (i := 3) rfl sc_row_pairs.nd rfl rfl rfl (pi_zipN (by rfl) T.n_zip (pa_cons (pe_callC c_value_places (hr.mono (by decide)) (by rfl) (pa_cons (pv 0) (pa_cons (pv 1) pa_nil))) (pa_cons (pe_callC c_value_places (hr.mono (by decide)) (by rfl) (pa_cons (pv 0) (pa_cons (pv 2) pa_nil))) pa_nil))) (blk_lc_row_pairs_0) (fun _ _ _ _ _ => pg_name (i := 8) sc_row_pairs.nd rfl (Or.inl rfl) (by first | exact Or.inl rfl | exact Or.inr rfl)) (fun _ _ _ _ _ => (pts_one (pt_cmpR (show OpR _ _ (rIn K true) from op_notIn_seq) (pe_globI (by rfl) T.g_NONE_PLACE) (pv 8) rfl))) (fun _ _ _ _ _ => (pv 8))) (pss_cons (ps_set (i := 4) sc_row_pairs.nd rfl (by first | exact Or.inl rfl | exact Or.inr rfl) (pe_callC c_pairs_among (hr.mono (by decide)) (by rfl) (pa_cons (pe_callB call_len_seq (by rfl) T.n_len boot_len1 (pa_cons (pv 3) pa_nil)) pa_nil))) (pss_cons (ps_set (i := 5) sc_row_pairs.nd rfl (by first | exact Or.inl rfl | exact Or.inr rfl) (pe_op op_sub (pe_callC c_pairs_among (hr.mono (by decide)) (by rfl) (pa_cons (pe_callB call_len_seq (by rfl) T.n_len boot_len1 (pa_cons (pv 1) pa_nil)) pa_nil)) (pv 4))) (pss_cons (ps_set (i := 6) sc_row_pairs.nd rfl (by first | exact Or.inl rfl | exact Or.inr rfl) (pe_op op_add (pe_callC c_equal_pairs (hr.mono (by decide)) (by rfl) (pa_cons (pe_lc rfl sc_row_pairs.nd (pi_list (pv 3)) (blk_lc_row_pairs_1) (fun _ _ _ _ _ => pg_name (i := 8) sc_row_pairs.nd rfl (Or.inl rfl) (by first | exact Or.inl rfl | exact Or.inr rfl)) (fun _ _ _ _ _ => pts_nil) (fun _ _ _ _ _ => (pe_ix (show IxR _ (rIxT K) from ix_tup) (pv 8) pe_int (fun _ _ => rfl)))) pa_nil)) (pe_callC c_equal_pairs (hr.mono (by decide)) (by rfl) (pa_cons (pe_lc rfl sc_row_pairs.nd (pi_list (pv 3)) (blk_lc_row_pairs_2) (fun _ _ _ _ _ => pg_name (i := 8) sc_row_pairs.nd rfl (Or.inl rfl) (by first | exact Or.inl rfl | exact Or.inr rfl)) (fun _ _ _ _ _ => pts_nil) (fun _ _ _ _ _ => (pe_ix (show IxR _ (rIxT K) from ix_tup) (pv 8) pe_int (fun _ _ => rfl)))) pa_nil)))) (pss_cons (ps_set (i := 6) sc_row_pairs.nd rfl (by first | exact Or.inl rfl | exact Or.inr rfl) (pe_op op_sub (pv 6) (pe_callC c_equal_pairs (hr.mono (by decide)) (by rfl) (pa_cons (pv 3) pa_nil)))) (pss_cons (ps_set (i := 7) sc_row_pairs.nd rfl (by first | exact Or.inl rfl | exact Or.inr rfl) (pe_callC c_falling_pairs (hr.mono (by decide)) (by rfl) (pa_cons (pe_lc rfl sc_row_pairs.nd (pi_list (pe_callB cr_sortedT (by rfl) T.n_sorted boot_sorted1 (pa_cons (pv 3) pa_nil))) (blk_lc_row_pairs_3) (fun _ _ _ _ _ => pg_name (i := 8) sc_row_pairs.nd rfl (Or.inl rfl) (by first | exact Or.inl rfl | exact Or.inr rfl)) (fun _ _ _ _ _ => pts_nil) (fun _ _ _ _ _ => (pe_ix (show IxR _ (rIxT K) from ix_tup) (pv 8) pe_int (fun _ _ => rfl)))) pa_nil))) (pss_one (ps_ret (pe_lst (pa_cons (pe_op op_sub (pe_op op_sub (pv 4) (pv 6)) (pv 7)) (pa_cons (pv 7) (pa_cons (pv 6) (pa_cons (pv 5) pa_nil))))))))))))), ?_⟩
    try dsimp only [tRet, tCB, tCons, tNil, tSeq, tAsg, gName, tIfS, tNot, tB, tNext, sFld]
    refine tLc_in ?_
    refine ⟨_, rfl, _, rfl, kind, a, x, rfl, hk, hl, Nat.le_trans hx1 (by decide), fun c h => (cx c h).1, fun H1 A1 s1 hA1 hf1 => ?_⟩
    refine ⟨_, rfl, _, rfl, kind, b, y, rfl, hk, s1.seq hl2, Nat.le_trans hy1 (by decide), fun c h => (cy c h).1, fun H2 A2 s2 hA2 hf2 => ?_⟩
    rw [← hU] at hA1
    rw [← hW] at hA2
    refine ⟨A1, A2, _, _, rfl, SqL.of (s2 _ _ hA1), SqL.of hA2, ?_⟩
    have s02 := s1.trans s2
    refine er_lczF gd (SqL.of (s2 _ _ hA1)) (SqL.of hA2) (by omega) (by rw [hul]; exact Nat.lt_of_le_of_lt hx1 (by decide)) (fun t p H' Q' hp q' => ?_) (fun t H' Q' q' => ?_) (fun H3 D ts s3 hts hD hDf => ?_)
    · refine ⟨_, rfl, t, _, rfl, Or.inr (Or.inl (Or.inl hp)), rfl, rfl, _, rfl, ?_⟩
      rw [gd_in]
      exact q'
    · exact ⟨_, rfl, q'⟩
    obtain ⟨ps, hps⟩ : ∃ ps, ps = (U.zip W).filter gd := ⟨_, rfl⟩
    rw [← hps] at k0 k1 k2 k3 hts hpl
    have htl : ts.length = ps.length := paired_len hts
    have s03 := s02.trans s3
    have el : (ts.map V.ref).length = ps.length := by rw [List.length_map, htl]
    have exl : (x.map V.int).length = x.length := by rw [List.length_map]
    refine ⟨_, rfl, D, _, rfl, Or.inl (SqL.of hD), (ts.map V.ref).length, rfl, (by omega), ?_⟩
    rw [el]
    refine ⟨_, rfl, a, _, rfl, Or.inl (s03.seq hl), (x.map V.int).length, rfl, (by omega), ?_⟩
    rw [exl]
    refine ⟨_, rfl, _, _, rfl, rfl, ?_⟩
    have hlt : (ts.map V.ref).length < sizeLine := by rw [el]; exact Nat.lt_of_le_of_lt (show _ ≤ 4096 by omega) (by decide)
    dsimp only [tOp, tCall, tCons, tNil, tSeq, tAsg, gName]
    refine tLc_in ?_
    refine ⟨_, rfl, D, rfl, ⟨_, SqL.of hD⟩, ?_⟩
    refine er_lcG (ys := (ps.map Prod.fst).map V.int) (SqL.of hD) hlt (by simp [htl]) (fun i z1 z2 H' Q' e1 e2 sm q' => ?_) (fun H4 D1 s4 hD1 hf4 => ?_)
    · obtain ⟨t, ht, rfl⟩ := refs_get e1
      obtain ⟨p, hp, hpa⟩ := paired_get hts ht
      rw [List.getElem?_map, List.getElem?_map, hp] at e2
      cases Option.some.inj e2
      exact ⟨_, rfl, _, _, _, _, rfl, rfl, Or.inl (Or.inl (sm _ _ hpa)), rfl, q' _ (Same.refl _)⟩
    refine ⟨D1, rfl, Or.inl ⟨ps.map Prod.fst, SqL.of hD1, by rw [List.length_map]; omega, fun H5 s5 => ?_⟩⟩
    have s35 := s4.trans s5
    dsimp only [tOp, tCall, tCons, tNil, tSeq, tAsg, gName]
    refine tLc_in ?_
    refine ⟨_, rfl, D, rfl, ⟨_, SqL.of (s35 _ _ hD)⟩, ?_⟩
    refine er_lcG (ys := (ps.map Prod.snd).map V.int) (SqL.of (s35 _ _ hD)) hlt (by simp [htl]) (fun i z1 z2 H' Q' e1 e2 sm q' => ?_) (fun H6 D2 s6 hD2 hf6 => ?_)
    · obtain ⟨t, ht, rfl⟩ := refs_get e1
      obtain ⟨p, hp, hpa⟩ := paired_get hts ht
      rw [List.getElem?_map, List.getElem?_map, hp] at e2
      cases Option.some.inj e2
      exact ⟨_, rfl, _, _, _, _, rfl, rfl, Or.inl (Or.inl (sm _ _ (s35 _ _ hpa))), rfl, q' _ (Same.refl _)⟩
    refine ⟨D2, rfl, Or.inl ⟨ps.map Prod.snd, SqL.of hD2, by rw [List.length_map]; omega, fun H7 s7 => ?_⟩⟩
    have s37 := s35.trans (s6.trans s7)
    refine ⟨_, _, rfl, rfl, _, rfl, _, rfl, D, rfl, Or.inr ⟨ps, ts, SqL.of (s37 _ _ hD), paired_imp (fun t p h => s37 _ _ h) hts, by omega, fun H8 s8 => ⟨_, _, rfl, rfl, ?_⟩⟩⟩
    have s38 := s37.trans s8
    dsimp only [tOp, tCall, tCB, tCons, tNil, tSeq, tAsg, gName]
    refine tLc_in ?_
    refine ⟨_, rfl, D, ts, ps, rfl, SqL.of (s38 _ _ hD), paired_imp (fun t p h => Or.inl (Or.inl (s38 _ _ h))) hts, fun ts' ps' L hpm hsrt hts' hL => ⟨L, rfl, ⟨_, SqL.of upd_same⟩, ?_⟩⟩
    have s9 : Same H8 _ := Same.upd (o := .lst (ts'.map V.ref)) hL
    have htl' : ts'.length = ps'.length := paired_len hts'
    have hpl' : ps'.length = ps.length := hpm.length_eq
    refine er_lcG (ys := (ps'.map Prod.snd).map V.int) (SqL.of upd_same) (by rw [List.length_map, htl', hpl', ← el]; exact hlt) (by simp [htl']) (fun i z1 z2 H' Q' e1 e2 sm q' => ?_) (fun H9 D3 s10 hD3 hf9 => ?_)
    · obtain ⟨t, ht, rfl⟩ := refs_get e1
      obtain ⟨p, hp, hpa⟩ := paired_get hts' ht
      rw [List.getElem?_map, List.getElem?_map, hp] at e2
      cases Option.some.inj e2
      exact ⟨_, rfl, _, _, _, _, rfl, rfl, sm.tup (s9.tup hpa), rfl, q' _ (Same.refl _)⟩
    refine ⟨D3, ps'.map Prod.snd, rfl, SqL.of hD3, by rw [List.length_map]; omega, fun H10 s11 => ?_⟩
    have s0 := s03.trans (s38.trans (s9.trans (s10.trans s11)))
    refine ⟨_, rfl, _, rfl, _, _, rfl, rfl, _, rfl, _, _, rfl, rfl, _, rfl, _, rfl, _, rfl, (by show 4 ≤ sizeLine; decide), fun r hr0 => q _ r (s0.trans (Same.upd hr0)) ?_⟩
    rw [upd_same]
    unfold eqN fallN
    rw [fall_perm hpm hsrt, pn_map, pn_map]
    rw [hzl] at k3
    have g2 : (((pn (fun p q => decide (p.1 = q.1)) ps : Nat) : Int) + ((pn (fun p q => decide (p.2 = q.2)) ps : Nat) : Int)) - ((pn (fun p q => decide (p = q)) ps : Nat) : Int) = ((pn (fun p q => sK p q == 2) (U.zip W) : Nat) : Int) := by omega
    have g0 : ((triN ps.length : Nat) : Int) - ((pn (fun p q => sK p q == 2) (U.zip W) : Nat) : Int) - ((pn oppP ps : Nat) : Int) = ((pn (fun p q => sK p q == 0) (U.zip W) : Nat) : Int) := by omega
    have g3 : ((triN x.length : Nat) : Int) - ((triN ps.length : Nat) : Int) = ((pn (fun p q => sK p q == 3) (U.zip W) : Nat) : Int) := by omega
    rw [g2]
    dsimp only
    rw [g0, g3, k1]
abbrev s_pairs : Stmt := top 30
theorem sc_pairs : FnScope ["kind", "x", "y", "refused"] ["kind", "x", "y"] (defScope s_pairs) := ⟨rfl, rfl, rfl, by decide +kernel, rfl, by decide +kernel, by decide +kernel⟩
theorem ok_pairs {f : Addr} {fd : FuncData} (F : Fun K "pairs" "pairs" s_pairs f fd) (T : Txt P w K mg C N)
    (c_pairs_refusal : Callee P w K mg base 5 "pairs_refusal" ["kind", "x", "y"] (sp_pairs_refusal K))
    (c_row_pairs : Callee P w K mg base 5 "row_pairs" ["kind", "x", "y"] (sp_row_pairs K)) :
    FnOk P w K mg base CX0 6 f fd ["kind", "x", "y"] (sp_pairs K) := by
  refine F.ok sc_pairs (fun vs H Q E h => ?_) (fun cdv A outer s H vs Q E hr h => ?_)
  · obtain ⟨kind, a, b, x, y, rfl, _⟩ := h
    rfl
  · obtain ⟨kind, a, b, x, y, rfl, hl, hl2, hn, hn2, hk0, hx, hy, q⟩ := h
    refine ⟨_, (pss_cons (ps_set (i := 3) sc_pairs.nd rfl (by first | exact Or.inl rfl | exact Or.inr rfl) (pe_callC c_pairs_refusal (hr.mono (by decide)) (by rfl) (pa_cons (pv 0) (pa_cons (pv 1) (pa_cons (pv 2) pa_nil))))) (pss_cons (ps_if (pt_cmp (pc_neI (pv 3) pe_int)) (pss_one (ps_ret (pe_lst (pa_cons (pv 3) pa_nil)))) pss_nil) (pss_one (ps_ret (pe_op op_cat (pe_lst (pa_cons pe_int pa_nil)) (pe_callC c_row_pairs (hr.mono (by decide)) (by rfl) (pa_cons (pv 0) (pa_cons (pv 1) (pa_cons (pv 2) pa_nil))))))))), ?_⟩
    refine ⟨_, rfl, _, rfl, _, rfl, kind, a, b, x, y, rfl, hl, hl2, hn, hn2, fun H1 s1 => ?_⟩
    cases c0 : (kindI kind && Er.twoI kind.toNat x y)
    · rw [if_neg (by decide)]
      rw [Er.pairs_bad hk0 hx hy c0] at q
      refine ⟨_, rfl, _, _, rfl, rfl, _, rfl, ite2 (fun c => ?_) (fun c => ?_)⟩
      · exact ⟨_, rfl, (by show 1 ≤ sizeLine; decide), fun l hl => q _ l upd_same⟩
      · exact absurd (by decide) c
    · rw [if_pos rfl]
      simp only [Bool.and_eq_true] at c0
      rw [Er.pairs_ok hk0 c0.1 c0.2] at q
      refine ⟨_, rfl, _, _, rfl, rfl, _, rfl, ite2 (fun c => ?_) (fun c => ?_)⟩
      · exact absurd c (by decide)
      · refine ⟨(by show 1 ≤ sizeLine; decide), fun l1 h1 => ?_⟩
        have t1 : Same H1 _ := Same.upd (o := .lst [.int 0]) h1
        refine ⟨_, rfl, _, rfl, _, rfl, kind, a, b, x, y, rfl, c0.1, c0.2, t1.seq (s1.seq hl), t1.seq (s1.seq hl2), fun H2 l2 s2 h2 => ?_⟩
        refine ⟨l1, l2, _, _, rfl, rfl, s2 _ _ upd_same, h2, (by show 5 ≤ sizeLine; decide), fun l3 h3 => q _ l3 ?_⟩
        rw [upd_same]
        rfl
end
end ErP
end
set_option Elab.async false
set_option linter.all false
set_option maxRecDepth 100000
set_option maxHeartbeats 4000000
namespace ErP
open PySem PySem.Spec PyProof.Rows L2
open Er (IsK Lt2 okKind kindI cellI rowI bitsK mag valI nanI)
open Lw (Fmt fmt Four turnWord mill millRound drawBelow tried triesFrom W32)
theorem all_mk {P : Program} {w : World} {K : PySem.W.Frag} {h : Heap} {mg : Str → Option Value} {fa : Addr} {C : Addr} (X : K.In h) (G : h.Ns mainGlobals mg) (hfa : mg "pairs" = some (.ref fa))
    {f_Shape : Addr} {od_Shape an_Shape : Option Addr} {sl_Shape : Array (Option Value)} {oc_Shape kV_Shape dc_Shape pm_Shape cd_Shape ct_Shape : Value}
    {f_is_whole : Addr} {od_is_whole an_is_whole : Option Addr} {sl_is_whole : Array (Option Value)} {oc_is_whole kV_is_whole dc_is_whole pm_is_whole cd_is_whole ct_is_whole : Value}
    {f_is_floating : Addr} {od_is_floating an_is_floating : Option Addr} {sl_is_floating : Array (Option Value)} {oc_is_floating kV_is_floating dc_is_floating pm_is_floating cd_is_floating ct_is_floating : Value}
    {f_shape_of : Addr} {od_shape_of an_shape_of : Option Addr} {sl_shape_of : Array (Option Value)} {oc_shape_of kV_shape_of dc_shape_of pm_shape_of cd_shape_of ct_shape_of : Value}
    {f_bits_of : Addr} {od_bits_of an_bits_of : Option Addr} {sl_bits_of : Array (Option Value)} {oc_bits_of kV_bits_of dc_bits_of pm_bits_of cd_bits_of ct_bits_of : Value}
    {f_are_cells : Addr} {od_are_cells an_are_cells : Option Addr} {sl_are_cells : Array (Option Value)} {oc_are_cells kV_are_cells dc_are_cells pm_are_cells cd_are_cells ct_are_cells : Value}
    {f_size_bits : Addr} {od_size_bits an_size_bits : Option Addr} {sl_size_bits : Array (Option Value)} {oc_size_bits kV_size_bits dc_size_bits pm_size_bits cd_size_bits ct_size_bits : Value}
    {f_value_places : Addr} {od_value_places an_value_places : Option Addr} {sl_value_places : Array (Option Value)} {oc_value_places kV_value_places dc_value_places pm_value_places cd_value_places ct_value_places : Value}
    {f_signed_numbers : Addr} {od_signed_numbers an_signed_numbers : Option Addr} {sl_signed_numbers : Array (Option Value)} {oc_signed_numbers kV_signed_numbers dc_signed_numbers pm_signed_numbers cd_signed_numbers ct_signed_numbers : Value}
    {f_floating_place : Addr} {od_floating_place an_floating_place : Option Addr} {sl_floating_place : Array (Option Value)} {oc_floating_place kV_floating_place dc_floating_place pm_floating_place cd_floating_place ct_floating_place : Value}
    {f_counted : Addr} {od_counted an_counted : Option Addr} {sl_counted : Array (Option Value)} {oc_counted kV_counted dc_counted pm_counted cd_counted ct_counted : Value}
    {f_count_at_most : Addr} {od_count_at_most an_count_at_most : Option Addr} {sl_count_at_most : Array (Option Value)} {oc_count_at_most kV_count_at_most dc_count_at_most pm_count_at_most cd_count_at_most ct_count_at_most : Value}
    {f_row_refusal : Addr} {od_row_refusal an_row_refusal : Option Addr} {sl_row_refusal : Array (Option Value)} {oc_row_refusal kV_row_refusal dc_row_refusal pm_row_refusal cd_row_refusal ct_row_refusal : Value}
    {f_cells_refusal : Addr} {od_cells_refusal an_cells_refusal : Option Addr} {sl_cells_refusal : Array (Option Value)} {oc_cells_refusal kV_cells_refusal dc_cells_refusal pm_cells_refusal cd_cells_refusal ct_cells_refusal : Value}
    {f_pairs_refusal : Addr} {od_pairs_refusal an_pairs_refusal : Option Addr} {sl_pairs_refusal : Array (Option Value)} {oc_pairs_refusal kV_pairs_refusal dc_pairs_refusal pm_pairs_refusal cd_pairs_refusal ct_pairs_refusal : Value}
    {f_row_pairs : Addr} {od_row_pairs an_row_pairs : Option Addr} {sl_row_pairs : Array (Option Value)} {oc_row_pairs kV_row_pairs dc_row_pairs pm_row_pairs cd_row_pairs ct_row_pairs : Value}
    {f_pairs_among : Addr} {od_pairs_among an_pairs_among : Option Addr} {sl_pairs_among : Array (Option Value)} {oc_pairs_among kV_pairs_among dc_pairs_among pm_pairs_among cd_pairs_among ct_pairs_among : Value}
    {f_equal_pairs : Addr} {od_equal_pairs an_equal_pairs : Option Addr} {sl_equal_pairs : Array (Option Value)} {oc_equal_pairs kV_equal_pairs dc_equal_pairs pm_equal_pairs cd_equal_pairs ct_equal_pairs : Value}
    {f_falling_pairs : Addr} {od_falling_pairs an_falling_pairs : Option Addr} {sl_falling_pairs : Array (Option Value)} {oc_falling_pairs kV_falling_pairs dc_falling_pairs pm_falling_pairs cd_falling_pairs ct_falling_pairs : Value}
    {f_pairs : Addr} {od_pairs an_pairs : Option Addr} {sl_pairs : Array (Option Value)} {oc_pairs kV_pairs dc_pairs pm_pairs cd_pairs ct_pairs : Value}
    {t_NONE_PLACE : Tok}
    {t_MOST_CELLS : Tok}
    {t_WRONG_FORM : Tok}
    {DS : Addr} {epS : Nat} {k1 b1 k2 b2 k3 b3 k4 b4 : Tok}
    {DU : Addr} {epU : Nat} {k5 b5 k6 b6 k7 b7 k8 b8 : Tok}
    {DF a9 a10 a11 a12 : Addr} {u9 u10 u11 u12 : Tok} {ep n9 n10 n11 n12 : Nat} {v9 w9 v10 w10 v11 w11 v12 w12 : Tok}
    (aC_Shape : PySem.W.nsIn K mainGlobals "Shape" = some (some (.ref C)))
    (a_Shape : PySem.W.findIn K (.ref C) "__init__" = some (some (.ref f_Shape)))
    (i_Shape : PySem.W.isFn K (.ref f_Shape) = true)
    (l_Shape : K.lookup f_Shape = some ⟨oc_Shape, od_Shape, .func (PySem.W.fnOf "__init__" "Shape.__init__" (defArgs s_Shape_init) (defBody s_Shape_init) (defScope s_Shape_init) .none kV_Shape dc_Shape pm_Shape an_Shape cd_Shape ct_Shape), sl_Shape⟩)
    (c_Shape : PySem.W.codeIn K cd_Shape "Shape.__init__" = true)
    (k_Shape : PySem.W.keepIn K (.ref f_Shape) = true)
    (a_is_whole : PySem.W.nsIn K mainGlobals "is_whole" = some (some (.ref f_is_whole)))
    (l_is_whole : K.lookup f_is_whole = some ⟨oc_is_whole, od_is_whole, .func (PySem.W.fnOf "is_whole" "is_whole" (defArgs s_is_whole) (defBody s_is_whole) (defScope s_is_whole) .none kV_is_whole dc_is_whole pm_is_whole an_is_whole cd_is_whole ct_is_whole), sl_is_whole⟩)
    (c_is_whole : PySem.W.codeIn K cd_is_whole "is_whole" = true)
    (k_is_whole : PySem.W.keepIn K (.ref f_is_whole) = true)
    (a_is_floating : PySem.W.nsIn K mainGlobals "is_floating" = some (some (.ref f_is_floating)))
    (l_is_floating : K.lookup f_is_floating = some ⟨oc_is_floating, od_is_floating, .func (PySem.W.fnOf "is_floating" "is_floating" (defArgs s_is_floating) (defBody s_is_floating) (defScope s_is_floating) .none kV_is_floating dc_is_floating pm_is_floating an_is_floating cd_is_floating ct_is_floating), sl_is_floating⟩)
    (c_is_floating : PySem.W.codeIn K cd_is_floating "is_floating" = true)
    (k_is_floating : PySem.W.keepIn K (.ref f_is_floating) = true)
    (a_shape_of : PySem.W.nsIn K mainGlobals "shape_of" = some (some (.ref f_shape_of)))
    (l_shape_of : K.lookup f_shape_of = some ⟨oc_shape_of, od_shape_of, .func (PySem.W.fnOf "shape_of" "shape_of" (defArgs s_shape_of) (defBody s_shape_of) (defScope s_shape_of) .none kV_shape_of dc_shape_of pm_shape_of an_shape_of cd_shape_of ct_shape_of), sl_shape_of⟩)
    (c_shape_of : PySem.W.codeIn K cd_shape_of "shape_of" = true)
    (k_shape_of : PySem.W.keepIn K (.ref f_shape_of) = true)
    (a_bits_of : PySem.W.nsIn K mainGlobals "bits_of" = some (some (.ref f_bits_of)))
    (l_bits_of : K.lookup f_bits_of = some ⟨oc_bits_of, od_bits_of, .func (PySem.W.fnOf "bits_of" "bits_of" (defArgs s_bits_of) (defBody s_bits_of) (defScope s_bits_of) .none kV_bits_of dc_bits_of pm_bits_of an_bits_of cd_bits_of ct_bits_of), sl_bits_of⟩)
    (c_bits_of : PySem.W.codeIn K cd_bits_of "bits_of" = true)
    (k_bits_of : PySem.W.keepIn K (.ref f_bits_of) = true)
    (a_are_cells : PySem.W.nsIn K mainGlobals "are_cells" = some (some (.ref f_are_cells)))
    (l_are_cells : K.lookup f_are_cells = some ⟨oc_are_cells, od_are_cells, .func (PySem.W.fnOf "are_cells" "are_cells" (defArgs s_are_cells) (defBody s_are_cells) (defScope s_are_cells) .none kV_are_cells dc_are_cells pm_are_cells an_are_cells cd_are_cells ct_are_cells), sl_are_cells⟩)
    (c_are_cells : PySem.W.codeIn K cd_are_cells "are_cells" = true)
    (k_are_cells : PySem.W.keepIn K (.ref f_are_cells) = true)
    (a_size_bits : PySem.W.nsIn K mainGlobals "size_bits" = some (some (.ref f_size_bits)))
    (l_size_bits : K.lookup f_size_bits = some ⟨oc_size_bits, od_size_bits, .func (PySem.W.fnOf "size_bits" "size_bits" (defArgs s_size_bits) (defBody s_size_bits) (defScope s_size_bits) .none kV_size_bits dc_size_bits pm_size_bits an_size_bits cd_size_bits ct_size_bits), sl_size_bits⟩)
    (c_size_bits : PySem.W.codeIn K cd_size_bits "size_bits" = true)
    (k_size_bits : PySem.W.keepIn K (.ref f_size_bits) = true)
    (a_value_places : PySem.W.nsIn K mainGlobals "value_places" = some (some (.ref f_value_places)))
    (l_value_places : K.lookup f_value_places = some ⟨oc_value_places, od_value_places, .func (PySem.W.fnOf "value_places" "value_places" (defArgs s_value_places) (defBody s_value_places) (defScope s_value_places) .none kV_value_places dc_value_places pm_value_places an_value_places cd_value_places ct_value_places), sl_value_places⟩)
    (c_value_places : PySem.W.codeIn K cd_value_places "value_places" = true)
    (k_value_places : PySem.W.keepIn K (.ref f_value_places) = true)
    (a_signed_numbers : PySem.W.nsIn K mainGlobals "signed_numbers" = some (some (.ref f_signed_numbers)))
    (l_signed_numbers : K.lookup f_signed_numbers = some ⟨oc_signed_numbers, od_signed_numbers, .func (PySem.W.fnOf "signed_numbers" "signed_numbers" (defArgs s_signed_numbers) (defBody s_signed_numbers) (defScope s_signed_numbers) .none kV_signed_numbers dc_signed_numbers pm_signed_numbers an_signed_numbers cd_signed_numbers ct_signed_numbers), sl_signed_numbers⟩)
    (c_signed_numbers : PySem.W.codeIn K cd_signed_numbers "signed_numbers" = true)
    (k_signed_numbers : PySem.W.keepIn K (.ref f_signed_numbers) = true)
    (a_floating_place : PySem.W.nsIn K mainGlobals "floating_place" = some (some (.ref f_floating_place)))
    (l_floating_place : K.lookup f_floating_place = some ⟨oc_floating_place, od_floating_place, .func (PySem.W.fnOf "floating_place" "floating_place" (defArgs s_floating_place) (defBody s_floating_place) (defScope s_floating_place) .none kV_floating_place dc_floating_place pm_floating_place an_floating_place cd_floating_place ct_floating_place), sl_floating_place⟩)
    (c_floating_place : PySem.W.codeIn K cd_floating_place "floating_place" = true)
    (k_floating_place : PySem.W.keepIn K (.ref f_floating_place) = true)
    (a_counted : PySem.W.nsIn K mainGlobals "counted" = some (some (.ref f_counted)))
    (l_counted : K.lookup f_counted = some ⟨oc_counted, od_counted, .func (PySem.W.fnOf "counted" "counted" (defArgs s_counted) (defBody s_counted) (defScope s_counted) .none kV_counted dc_counted pm_counted an_counted cd_counted ct_counted), sl_counted⟩)
    (c_counted : PySem.W.codeIn K cd_counted "counted" = true)
    (k_counted : PySem.W.keepIn K (.ref f_counted) = true)
    (a_count_at_most : PySem.W.nsIn K mainGlobals "count_at_most" = some (some (.ref f_count_at_most)))
    (l_count_at_most : K.lookup f_count_at_most = some ⟨oc_count_at_most, od_count_at_most, .func (PySem.W.fnOf "count_at_most" "count_at_most" (defArgs s_count_at_most) (defBody s_count_at_most) (defScope s_count_at_most) .none kV_count_at_most dc_count_at_most pm_count_at_most an_count_at_most cd_count_at_most ct_count_at_most), sl_count_at_most⟩)
    (c_count_at_most : PySem.W.codeIn K cd_count_at_most "count_at_most" = true)
    (k_count_at_most : PySem.W.keepIn K (.ref f_count_at_most) = true)
    (a_row_refusal : PySem.W.nsIn K mainGlobals "row_refusal" = some (some (.ref f_row_refusal)))
    (l_row_refusal : K.lookup f_row_refusal = some ⟨oc_row_refusal, od_row_refusal, .func (PySem.W.fnOf "row_refusal" "row_refusal" (defArgs s_row_refusal) (defBody s_row_refusal) (defScope s_row_refusal) .none kV_row_refusal dc_row_refusal pm_row_refusal an_row_refusal cd_row_refusal ct_row_refusal), sl_row_refusal⟩)
    (c_row_refusal : PySem.W.codeIn K cd_row_refusal "row_refusal" = true)
    (k_row_refusal : PySem.W.keepIn K (.ref f_row_refusal) = true)
    (a_cells_refusal : PySem.W.nsIn K mainGlobals "cells_refusal" = some (some (.ref f_cells_refusal)))
    (l_cells_refusal : K.lookup f_cells_refusal = some ⟨oc_cells_refusal, od_cells_refusal, .func (PySem.W.fnOf "cells_refusal" "cells_refusal" (defArgs s_cells_refusal) (defBody s_cells_refusal) (defScope s_cells_refusal) .none kV_cells_refusal dc_cells_refusal pm_cells_refusal an_cells_refusal cd_cells_refusal ct_cells_refusal), sl_cells_refusal⟩)
    (c_cells_refusal : PySem.W.codeIn K cd_cells_refusal "cells_refusal" = true)
    (k_cells_refusal : PySem.W.keepIn K (.ref f_cells_refusal) = true)
    (a_pairs_refusal : PySem.W.nsIn K mainGlobals "pairs_refusal" = some (some (.ref f_pairs_refusal)))
    (l_pairs_refusal : K.lookup f_pairs_refusal = some ⟨oc_pairs_refusal, od_pairs_refusal, .func (PySem.W.fnOf "pairs_refusal" "pairs_refusal" (defArgs s_pairs_refusal) (defBody s_pairs_refusal) (defScope s_pairs_refusal) .none kV_pairs_refusal dc_pairs_refusal pm_pairs_refusal an_pairs_refusal cd_pairs_refusal ct_pairs_refusal), sl_pairs_refusal⟩)
    (c_pairs_refusal : PySem.W.codeIn K cd_pairs_refusal "pairs_refusal" = true)
    (k_pairs_refusal : PySem.W.keepIn K (.ref f_pairs_refusal) = true)
    (a_row_pairs : PySem.W.nsIn K mainGlobals "row_pairs" = some (some (.ref f_row_pairs)))
    (l_row_pairs : K.lookup f_row_pairs = some ⟨oc_row_pairs, od_row_pairs, .func (PySem.W.fnOf "row_pairs" "row_pairs" (defArgs s_row_pairs) (defBody s_row_pairs) (defScope s_row_pairs) .none kV_row_pairs dc_row_pairs pm_row_pairs an_row_pairs cd_row_pairs ct_row_pairs), sl_row_pairs⟩)
    (c_row_pairs : PySem.W.codeIn K cd_row_pairs "row_pairs" = true)
    (k_row_pairs : PySem.W.keepIn K (.ref f_row_pairs) = true)
    (a_pairs_among : PySem.W.nsIn K mainGlobals "pairs_among" = some (some (.ref f_pairs_among)))
    (l_pairs_among : K.lookup f_pairs_among = some ⟨oc_pairs_among, od_pairs_among, .func (PySem.W.fnOf "pairs_among" "pairs_among" (defArgs s_pairs_among) (defBody s_pairs_among) (defScope s_pairs_among) .none kV_pairs_among dc_pairs_among pm_pairs_among an_pairs_among cd_pairs_among ct_pairs_among), sl_pairs_among⟩)
    (c_pairs_among : PySem.W.codeIn K cd_pairs_among "pairs_among" = true)
    (k_pairs_among : PySem.W.keepIn K (.ref f_pairs_among) = true)
    (a_equal_pairs : PySem.W.nsIn K mainGlobals "equal_pairs" = some (some (.ref f_equal_pairs)))
    (l_equal_pairs : K.lookup f_equal_pairs = some ⟨oc_equal_pairs, od_equal_pairs, .func (PySem.W.fnOf "equal_pairs" "equal_pairs" (defArgs s_equal_pairs) (defBody s_equal_pairs) (defScope s_equal_pairs) .none kV_equal_pairs dc_equal_pairs pm_equal_pairs an_equal_pairs cd_equal_pairs ct_equal_pairs), sl_equal_pairs⟩)
    (c_equal_pairs : PySem.W.codeIn K cd_equal_pairs "equal_pairs" = true)
    (k_equal_pairs : PySem.W.keepIn K (.ref f_equal_pairs) = true)
    (a_falling_pairs : PySem.W.nsIn K mainGlobals "falling_pairs" = some (some (.ref f_falling_pairs)))
    (l_falling_pairs : K.lookup f_falling_pairs = some ⟨oc_falling_pairs, od_falling_pairs, .func (PySem.W.fnOf "falling_pairs" "falling_pairs" (defArgs s_falling_pairs) (defBody s_falling_pairs) (defScope s_falling_pairs) .none kV_falling_pairs dc_falling_pairs pm_falling_pairs an_falling_pairs cd_falling_pairs ct_falling_pairs), sl_falling_pairs⟩)
    (c_falling_pairs : PySem.W.codeIn K cd_falling_pairs "falling_pairs" = true)
    (k_falling_pairs : PySem.W.keepIn K (.ref f_falling_pairs) = true)
    (a_pairs : PySem.W.nsIn K mainGlobals "pairs" = some (some (.ref f_pairs)))
    (l_pairs : K.lookup f_pairs = some ⟨oc_pairs, od_pairs, .func (PySem.W.fnOf "pairs" "pairs" (defArgs s_pairs) (defBody s_pairs) (defScope s_pairs) .none kV_pairs dc_pairs pm_pairs an_pairs cd_pairs ct_pairs), sl_pairs⟩)
    (c_pairs : PySem.W.codeIn K cd_pairs "pairs" = true)
    (k_pairs : PySem.W.keepIn K (.ref f_pairs) = true)
    (pg_Shape : PySem.W.plainGet K C Str.empty = true)
    (hd_Shape : PySem.W.hasDictIn K C = true)
    (po_Shape : PySem.W.plainOver K C = true)
    (sa_Shape : PySem.W.findIn K (.ref C) "__setattr__" = some (some (.builtin "object.__setattr__")))
    (mk_Shape : PySem.W.makesIn K C = true)
    (kc_Shape : PySem.W.keepIn K (.ref C) = true)
    (x_a_m : PySem.W.findIn K (.ref C) "fraction_bits" = some none)
    (x_a_s : PySem.W.findIn K (.ref C) "sign" = some none)
    (x_a_i : PySem.W.findIn K (.ref C) "infinite" = some none)
    (x_a_n : PySem.W.findIn K (.ref C) "none" = some none)
    (x_a_l : PySem.W.findIn K (.ref C) "least_power" = some none)
    (x_a_u : PySem.W.findIn K (.ref C) "unit_depth" = some none)
    (n_all : PySem.W.nsIn K mainGlobals "all" = some none)
    (n_len : PySem.W.nsIn K mainGlobals "len" = some none)
    (n_list : PySem.W.nsIn K mainGlobals "list" = some none)
    (n_sorted : PySem.W.nsIn K mainGlobals "sorted" = some none)
    (n_sum : PySem.W.nsIn K mainGlobals "sum" = some none)
    (n_zip : PySem.W.nsIn K mainGlobals "zip" = some none)
    (g_NONE_PLACE : PySem.W.nsIn K mainGlobals "NONE_PLACE" = some (some (.int 18446744073709551616 t_NONE_PLACE)))
    (g_MOST_CELLS : PySem.W.nsIn K mainGlobals "MOST_CELLS" = some (some (.int 4096 t_MOST_CELLS)))
    (g_WRONG_FORM : PySem.W.nsIn K mainGlobals "WRONG_FORM" = some (some (.int (-1) t_WRONG_FORM)))
    (gDS : PySem.W.nsIn K mainGlobals "SIGNED_KINDS" = some (some (.ref DS)))
    (lDS : K.lookup DS = some { cls := .type "dict", data := .dict #[⟨hashInt 1, .int 1 k1, .int 8 b1⟩, ⟨hashInt 2, .int 2 k2, .int 16 b2⟩, ⟨hashInt 3, .int 3 k3, .int 32 b3⟩, ⟨hashInt 4, .int 4 k4, .int 64 b4⟩] epS })
    (sDS : (DS == sysModules) = false)
    (gDU : PySem.W.nsIn K mainGlobals "UNSIGNED_KINDS" = some (some (.ref DU)))
    (lDU : K.lookup DU = some { cls := .type "dict", data := .dict #[⟨hashInt 5, .int 5 k5, .int 8 b5⟩, ⟨hashInt 6, .int 6 k6, .int 16 b6⟩, ⟨hashInt 7, .int 7 k7, .int 32 b7⟩, ⟨hashInt 8, .int 8 k8, .int 64 b8⟩] epU })
    (sDU : (DU == sysModules) = false)
    (gDF : PySem.W.nsIn K mainGlobals "FLOATING_KINDS" = some (some (.ref DF)))
    (lDF : K.lookup DF = some { cls := .type "dict", data := .dict #[⟨hashInt 9, .int 9 u9, .ref a9⟩, ⟨hashInt 10, .int 10 u10, .ref a10⟩, ⟨hashInt 11, .int 11 u11, .ref a11⟩, ⟨hashInt 12, .int 12 u12, .ref a12⟩] ep })
    (sDF : (DF == sysModules) = false)
    (l9 : K.lookup a9 = some { cls := .type "tuple", data := .seq #[.int 5 v9, .int 10 w9] n9 })
    (l10 : K.lookup a10 = some { cls := .type "tuple", data := .seq #[.int 8 v10, .int 7 w10] n10 })
    (l11 : K.lookup a11 = some { cls := .type "tuple", data := .seq #[.int 8 v11, .int 23 w11] n11 })
    (l12 : K.lookup a12 = some { cls := .type "tuple", data := .seq #[.int 11 v12, .int 52 w12] n12 }) :
    ∃ fd : FuncData, (∀ (s : Shared) (us : List Value), us.length = (["kind", "x", "y"] : List Str).length → BindsTo s fd ⟨us, []⟩ ((["kind", "x", "y"] : List Str).zip us)) ∧ ∀ base : Heap, K.In base → base.Ns mainGlobals mg → FnOk P w K mg base CX0 6 fa fd ["kind", "x", "y"] (sp_pairs K) := by
  have e := hfa.symm.trans (PySem.W.mg_of X G a_pairs)
  cases e
  have T : Txt P w K mg C (0 : Addr) := ⟨⟨pg_Shape, hd_Shape, po_Shape, sa_Shape⟩,
    x_a_m,
    x_a_s,
    x_a_i,
    x_a_n,
    x_a_l,
    x_a_u,
    PySem.W.mg_none_of X G n_all,
    PySem.W.mg_none_of X G n_len,
    PySem.W.mg_none_of X G n_list,
    PySem.W.mg_none_of X G n_sorted,
    PySem.W.mg_none_of X G n_sum,
    PySem.W.mg_none_of X G n_zip,
    ⟨_, PySem.W.mg_of X G g_NONE_PLACE⟩,
    ⟨_, PySem.W.mg_of X G g_MOST_CELLS⟩,
    ⟨_, PySem.W.mg_of X G g_WRONG_FORM⟩,
    ⟨DS, PySem.W.mg_of X G gDS, kdictI_of (es := [((1, k1), (8, b1)), ((2, k2), (16, b2)), ((3, k3), (32, b3)), ((4, k4), (64, b4))]) lDS sDS (show ([1, 2, 3, 4] : List Int).Nodup by decide)⟩,
    ⟨DU, PySem.W.mg_of X G gDU, kdictI_of (es := [((5, k5), (8, b5)), ((6, k6), (16, b6)), ((7, k7), (32, b7)), ((8, k8), (64, b8))]) lDU sDU (show ([5, 6, 7, 8] : List Int).Nodup by decide)⟩,
    ⟨DF, a9, a10, a11, a12, PySem.W.mg_of X G gDF, kdict_of (es := [(9, u9, a9), (10, u10, a10), (11, u11, a11), (12, u12, a12)]) lDF sDF (show ([9, 10, 11, 12] : List Int).Nodup by decide), fun H => ktup l9 (by show 2 ≤ sizeLine; decide) (.cons ⟨_, rfl⟩ (.cons ⟨_, rfl⟩ .nil)), fun H => ktup l10 (by show 2 ≤ sizeLine; decide) (.cons ⟨_, rfl⟩ (.cons ⟨_, rfl⟩ .nil)), fun H => ktup l11 (by show 2 ≤ sizeLine; decide) (.cons ⟨_, rfl⟩ (.cons ⟨_, rfl⟩ .nil)), fun H => ktup l12 (by show 2 ≤ sizeLine; decide) (.cons ⟨_, rfl⟩ (.cons ⟨_, rfl⟩ .nil))⟩⟩
  have F_Shape := fun_mk (st := s_Shape_init) l_Shape c_Shape k_Shape
  have b_Shape := F_Shape.binds (ps := ["self", "exponent_bits", "fraction_bits"]) fun _ _ _ _ _ _ us hl => match us, hl with | [_, _, _], _ => rfl
  have F_is_whole := fun_mk (st := s_is_whole) l_is_whole c_is_whole k_is_whole
  have b_is_whole := F_is_whole.binds (ps := ["kind"]) fun _ _ _ _ _ _ us hl => match us, hl with | [_], _ => rfl
  have F_is_floating := fun_mk (st := s_is_floating) l_is_floating c_is_floating k_is_floating
  have b_is_floating := F_is_floating.binds (ps := ["kind"]) fun _ _ _ _ _ _ us hl => match us, hl with | [_], _ => rfl
  have F_shape_of := fun_mk (st := s_shape_of) l_shape_of c_shape_of k_shape_of
  have b_shape_of := F_shape_of.binds (ps := ["kind"]) fun _ _ _ _ _ _ us hl => match us, hl with | [_], _ => rfl
  have F_bits_of := fun_mk (st := s_bits_of) l_bits_of c_bits_of k_bits_of
  have b_bits_of := F_bits_of.binds (ps := ["kind"]) fun _ _ _ _ _ _ us hl => match us, hl with | [_], _ => rfl
  have F_are_cells := fun_mk (st := s_are_cells) l_are_cells c_are_cells k_are_cells
  have b_are_cells := F_are_cells.binds (ps := ["kind", "numbers"]) fun _ _ _ _ _ _ us hl => match us, hl with | [_, _], _ => rfl
  have F_size_bits := fun_mk (st := s_size_bits) l_size_bits c_size_bits k_size_bits
  have b_size_bits := F_size_bits.binds (ps := ["shape", "cell"]) fun _ _ _ _ _ _ us hl => match us, hl with | [_, _], _ => rfl
  have F_value_places := fun_mk (st := s_value_places) l_value_places c_value_places k_value_places
  have b_value_places := F_value_places.binds (ps := ["kind", "row"]) fun _ _ _ _ _ _ us hl => match us, hl with | [_, _], _ => rfl
  have F_signed_numbers := fun_mk (st := s_signed_numbers) l_signed_numbers c_signed_numbers k_signed_numbers
  have b_signed_numbers := F_signed_numbers.binds (ps := ["bits", "row"]) fun _ _ _ _ _ _ us hl => match us, hl with | [_, _], _ => rfl
  have F_floating_place := fun_mk (st := s_floating_place) l_floating_place c_floating_place k_floating_place
  have b_floating_place := F_floating_place.binds (ps := ["shape", "cell"]) fun _ _ _ _ _ _ us hl => match us, hl with | [_, _], _ => rfl
  have F_counted := fun_mk (st := s_counted) l_counted c_counted k_counted
  have b_counted := F_counted.binds (ps := ["values"]) fun _ _ _ _ _ _ us hl => match us, hl with | [_], _ => rfl
  have F_count_at_most := fun_mk (st := s_count_at_most) l_count_at_most c_count_at_most k_count_at_most
  have b_count_at_most := F_count_at_most.binds (ps := ["rising", "limit"]) fun _ _ _ _ _ _ us hl => match us, hl with | [_, _], _ => rfl
  have F_row_refusal := fun_mk (st := s_row_refusal) l_row_refusal c_row_refusal k_row_refusal
  have b_row_refusal := F_row_refusal.binds (ps := ["kind", "row"]) fun _ _ _ _ _ _ us hl => match us, hl with | [_, _], _ => rfl
  have F_cells_refusal := fun_mk (st := s_cells_refusal) l_cells_refusal c_cells_refusal k_cells_refusal
  have b_cells_refusal := F_cells_refusal.binds (ps := ["kind", "cells", "most_cells"]) fun _ _ _ _ _ _ us hl => match us, hl with | [_, _, _], _ => rfl
  have F_pairs_refusal := fun_mk (st := s_pairs_refusal) l_pairs_refusal c_pairs_refusal k_pairs_refusal
  have b_pairs_refusal := F_pairs_refusal.binds (ps := ["kind", "x", "y"]) fun _ _ _ _ _ _ us hl => match us, hl with | [_, _, _], _ => rfl
  have F_row_pairs := fun_mk (st := s_row_pairs) l_row_pairs c_row_pairs k_row_pairs
  have b_row_pairs := F_row_pairs.binds (ps := ["kind", "x", "y"]) fun _ _ _ _ _ _ us hl => match us, hl with | [_, _, _], _ => rfl
  have F_pairs_among := fun_mk (st := s_pairs_among) l_pairs_among c_pairs_among k_pairs_among
  have b_pairs_among := F_pairs_among.binds (ps := ["count"]) fun _ _ _ _ _ _ us hl => match us, hl with | [_], _ => rfl
  have F_equal_pairs := fun_mk (st := s_equal_pairs) l_equal_pairs c_equal_pairs k_equal_pairs
  have b_equal_pairs := F_equal_pairs.binds (ps := ["values"]) fun _ _ _ _ _ _ us hl => match us, hl with | [_], _ => rfl
  have F_falling_pairs := fun_mk (st := s_falling_pairs) l_falling_pairs c_falling_pairs k_falling_pairs
  have b_falling_pairs := F_falling_pairs.binds (ps := ["numbers"]) fun _ _ _ _ _ _ us hl => match us, hl with | [_], _ => rfl
  have F_pairs := fun_mk (st := s_pairs) l_pairs c_pairs k_pairs
  have b_pairs := F_pairs.binds (ps := ["kind", "x", "y"]) fun _ _ _ _ _ _ us hl => match us, hl with | [_, _, _], _ => rfl
  refine ⟨PySem.W.fnOf "pairs" "pairs" (defArgs s_pairs) (defBody s_pairs) (defScope s_pairs) .none kV_pairs dc_pairs pm_pairs an_pairs cd_pairs ct_pairs, fun s us hu => match us, hu with | [_, _, _], _ => .of_eq rfl, fun base _ _ => ?_⟩
  have c_is_floating : Callee P w K mg base 1 "is_floating" ["kind"] (sp_is_floating) := ⟨_, _, ok_is_floating F_is_floating T, b_is_floating, PySem.W.mg_of X G a_is_floating, k_is_floating⟩
  have c_is_whole : Callee P w K mg base 1 "is_whole" ["kind"] (sp_is_whole) := ⟨_, _, ok_is_whole F_is_whole T, b_is_whole, PySem.W.mg_of X G a_is_whole, k_is_whole⟩
  have c_bits_of : Callee P w K mg base 1 "bits_of" ["kind"] (sp_bits_of) := ⟨_, _, ok_bits_of F_bits_of T, b_bits_of, PySem.W.mg_of X G a_bits_of, k_bits_of⟩
  have c_are_cells : Callee P w K mg base 2 "are_cells" ["kind", "numbers"] (sp_are_cells K) := ⟨_, _, ok_are_cells F_are_cells T c_bits_of, b_are_cells, PySem.W.mg_of X G a_are_cells, k_are_cells⟩
  have c_cells_refusal : Callee P w K mg base 3 "cells_refusal" ["kind", "cells", "most_cells"] (sp_cells_refusal K) := ⟨_, _, ok_cells_refusal F_cells_refusal T c_are_cells, b_cells_refusal, PySem.W.mg_of X G a_cells_refusal, k_cells_refusal⟩
  have c_row_refusal : Callee P w K mg base 4 "row_refusal" ["kind", "row"] (sp_row_refusal K) := ⟨_, _, ok_row_refusal F_row_refusal T c_is_floating c_is_whole c_cells_refusal, b_row_refusal, PySem.W.mg_of X G a_row_refusal, k_row_refusal⟩
  have c_pairs_refusal : Callee P w K mg base 5 "pairs_refusal" ["kind", "x", "y"] (sp_pairs_refusal K) := ⟨_, _, ok_pairs_refusal F_pairs_refusal T c_row_refusal, b_pairs_refusal, PySem.W.mg_of X G a_pairs_refusal, k_pairs_refusal⟩
  have c_signed_numbers : Callee P w K mg base 1 "signed_numbers" ["bits", "row"] (sp_signed_numbers K) := ⟨_, _, ok_signed_numbers F_signed_numbers T, b_signed_numbers, PySem.W.mg_of X G a_signed_numbers, k_signed_numbers⟩
  have c_Shape : Maker P w K mg base C 1 "Shape" ["self", "exponent_bits", "fraction_bits"] (sp_Shape C) := ⟨_, _, ⟨mk_Shape, a_Shape, i_Shape, kc_Shape⟩, ok_Shape F_Shape T, b_Shape, PySem.W.mg_of X G aC_Shape⟩
  have c_shape_of : Callee P w K mg base 3 "shape_of" ["kind"] (sp_shape_of C) := ⟨_, _, ok_shape_of F_shape_of T c_Shape, b_shape_of, PySem.W.mg_of X G a_shape_of, k_shape_of⟩
  have c_size_bits : Callee P w K mg base 1 "size_bits" ["shape", "cell"] (sp_size_bits C) := ⟨_, _, ok_size_bits F_size_bits T, b_size_bits, PySem.W.mg_of X G a_size_bits, k_size_bits⟩
  have c_floating_place : Callee P w K mg base 2 "floating_place" ["shape", "cell"] (sp_floating_place C) := ⟨_, _, ok_floating_place F_floating_place T c_size_bits, b_floating_place, PySem.W.mg_of X G a_floating_place, k_floating_place⟩
  have c_value_places : Callee P w K mg base 4 "value_places" ["kind", "row"] (sp_value_places K) := ⟨_, _, ok_value_places F_value_places T c_signed_numbers c_shape_of c_floating_place, b_value_places, PySem.W.mg_of X G a_value_places, k_value_places⟩
  have c_pairs_among : Callee P w K mg base 1 "pairs_among" ["count"] (sp_pairs_among) := ⟨_, _, ok_pairs_among F_pairs_among T, b_pairs_among, PySem.W.mg_of X G a_pairs_among, k_pairs_among⟩
  have c_counted : Callee P w K mg base 1 "counted" ["values"] (sp_counted K) := ⟨_, _, ok_counted F_counted T, b_counted, PySem.W.mg_of X G a_counted, k_counted⟩
  have c_equal_pairs : Callee P w K mg base 2 "equal_pairs" ["values"] (sp_equal_pairs K) := ⟨_, _, ok_equal_pairs F_equal_pairs T c_counted c_pairs_among, b_equal_pairs, PySem.W.mg_of X G a_equal_pairs, k_equal_pairs⟩
  have c_count_at_most : Callee P w K mg base 1 "count_at_most" ["rising", "limit"] (sp_count_at_most K) := ⟨_, _, ok_count_at_most F_count_at_most T, b_count_at_most, PySem.W.mg_of X G a_count_at_most, k_count_at_most⟩
  have c_falling_pairs : Callee P w K mg base 2 "falling_pairs" ["numbers"] (sp_falling_pairs K) := ⟨_, _, ok_falling_pairs F_falling_pairs T c_count_at_most, b_falling_pairs, PySem.W.mg_of X G a_falling_pairs, k_falling_pairs⟩
  have c_row_pairs : Callee P w K mg base 5 "row_pairs" ["kind", "x", "y"] (sp_row_pairs K) := ⟨_, _, ok_row_pairs F_row_pairs T c_value_places c_pairs_among c_equal_pairs c_falling_pairs, b_row_pairs, PySem.W.mg_of X G a_row_pairs, k_row_pairs⟩
  exact ok_pairs F_pairs T c_pairs_refusal c_row_pairs
end ErP

open PySem PySem.W PyProof.Rows
set_option maxRecDepth 100000 in
set_option maxHeartbeats 0 in
theorem PySem.Challenge.cw_exactrows_s13_pairs_holds : PySem.Challenge.rw_exactrows_s13_pairs.Holds := by
  w_on; k_headS; (case hw => exact ⟨[.int 0, .list [], .list []], by decide +kernel, by decide +kernel⟩)
  k_fillS
  refine L2.walk_specK (r := PySem.Challenge.rw_exactrows_s13_pairs) (k := 6) (CX := L2.CX0) (ps := ["kind", "x", "y"]) (sp := ErP.sp_pairs) (by decide +kernel) rfl rfl ⟨rfl, by decide, by decide⟩ (fun w h Y => PySem.W.kIn_of Y) ?F ?S (fun _ _ _ _ z => z)
  case F =>
    intro w mg fa h Y KX G hmg
    refine' ErP.all_mk KX G hmg ?aC_Shape ?a_Shape ?i_Shape ?l_Shape ?c_Shape ?k_Shape ?a_is_whole ?l_is_whole ?c_is_whole ?k_is_whole ?a_is_floating ?l_is_floating ?c_is_floating ?k_is_floating ?a_shape_of ?l_shape_of ?c_shape_of ?k_shape_of ?a_bits_of ?l_bits_of ?c_bits_of ?k_bits_of ?a_are_cells ?l_are_cells ?c_are_cells ?k_are_cells ?a_size_bits ?l_size_bits ?c_size_bits ?k_size_bits ?a_value_places ?l_value_places ?c_value_places ?k_value_places ?a_signed_numbers ?l_signed_numbers ?c_signed_numbers ?k_signed_numbers ?a_floating_place ?l_floating_place ?c_floating_place ?k_floating_place ?a_counted ?l_counted ?c_counted ?k_counted ?a_count_at_most ?l_count_at_most ?c_count_at_most ?k_count_at_most ?a_row_refusal ?l_row_refusal ?c_row_refusal ?k_row_refusal ?a_cells_refusal ?l_cells_refusal ?c_cells_refusal ?k_cells_refusal ?a_pairs_refusal ?l_pairs_refusal ?c_pairs_refusal ?k_pairs_refusal ?a_row_pairs ?l_row_pairs ?c_row_pairs ?k_row_pairs ?a_pairs_among ?l_pairs_among ?c_pairs_among ?k_pairs_among ?a_equal_pairs ?l_equal_pairs ?c_equal_pairs ?k_equal_pairs ?a_falling_pairs ?l_falling_pairs ?c_falling_pairs ?k_falling_pairs ?a_pairs ?l_pairs ?c_pairs ?k_pairs ?pg_Shape ?hd_Shape ?po_Shape ?sa_Shape ?mk_Shape ?kc_Shape ?x_a_m ?x_a_s ?x_a_i ?x_a_n ?x_a_l ?x_a_u ?n_all ?n_len ?n_list ?n_sorted ?n_sum ?n_zip ?g_NONE_PLACE ?g_MOST_CELLS ?g_WRONG_FORM ?gDS ?lDS ?sDS ?gDU ?lDU ?sDU ?gDF ?lDF ?sDF ?l9 ?l10 ?l11 ?l12
    (case aC_Shape => k_is)
    (case a_Shape => k_is)
    (case i_Shape => k_is)
    (case l_Shape => k_is)
    (case c_Shape => k_is)
    (case k_Shape => k_is)
    (case a_is_whole => k_is)
    (case l_is_whole => k_is)
    (case c_is_whole => k_is)
    (case k_is_whole => k_is)
    (case a_is_floating => k_is)
    (case l_is_floating => k_is)
    (case c_is_floating => k_is)
    (case k_is_floating => k_is)
    (case a_shape_of => k_is)
    (case l_shape_of => k_is)
    (case c_shape_of => k_is)
    (case k_shape_of => k_is)
    (case a_bits_of => k_is)
    (case l_bits_of => k_is)
    (case c_bits_of => k_is)
    (case k_bits_of => k_is)
    (case a_are_cells => k_is)
    (case l_are_cells => k_is)
    (case c_are_cells => k_is)
    (case k_are_cells => k_is)
    (case a_size_bits => k_is)
    (case l_size_bits => k_is)
    (case c_size_bits => k_is)
    (case k_size_bits => k_is)
    (case a_value_places => k_is)
    (case l_value_places => k_is)
    (case c_value_places => k_is)
    (case k_value_places => k_is)
    (case a_signed_numbers => k_is)
    (case l_signed_numbers => k_is)
    (case c_signed_numbers => k_is)
    (case k_signed_numbers => k_is)
    (case a_floating_place => k_is)
    (case l_floating_place => k_is)
    (case c_floating_place => k_is)
    (case k_floating_place => k_is)
    (case a_counted => k_is)
    (case l_counted => k_is)
    (case c_counted => k_is)
    (case k_counted => k_is)
    (case a_count_at_most => k_is)
    (case l_count_at_most => k_is)
    (case c_count_at_most => k_is)
    (case k_count_at_most => k_is)
    (case a_row_refusal => k_is)
    (case l_row_refusal => k_is)
    (case c_row_refusal => k_is)
    (case k_row_refusal => k_is)
    (case a_cells_refusal => k_is)
    (case l_cells_refusal => k_is)
    (case c_cells_refusal => k_is)
    (case k_cells_refusal => k_is)
    (case a_pairs_refusal => k_is)
    (case l_pairs_refusal => k_is)
    (case c_pairs_refusal => k_is)
    (case k_pairs_refusal => k_is)
    (case a_row_pairs => k_is)
    (case l_row_pairs => k_is)
    (case c_row_pairs => k_is)
    (case k_row_pairs => k_is)
    (case a_pairs_among => k_is)
    (case l_pairs_among => k_is)
    (case c_pairs_among => k_is)
    (case k_pairs_among => k_is)
    (case a_equal_pairs => k_is)
    (case l_equal_pairs => k_is)
    (case c_equal_pairs => k_is)
    (case k_equal_pairs => k_is)
    (case a_falling_pairs => k_is)
    (case l_falling_pairs => k_is)
    (case c_falling_pairs => k_is)
    (case k_falling_pairs => k_is)
    (case a_pairs => k_is)
    (case l_pairs => k_is)
    (case c_pairs => k_is)
    (case k_pairs => k_is)
    (case pg_Shape => k_is)
    (case hd_Shape => k_is)
    (case po_Shape => k_is)
    (case sa_Shape => k_is)
    (case mk_Shape => k_is)
    (case kc_Shape => k_is)
    (case x_a_m => k_is)
    (case x_a_s => k_is)
    (case x_a_i => k_is)
    (case x_a_n => k_is)
    (case x_a_l => k_is)
    (case x_a_u => k_is)
    (case n_all => k_is)
    (case n_len => k_is)
    (case n_list => k_is)
    (case n_sorted => k_is)
    (case n_sum => k_is)
    (case n_zip => k_is)
    (case g_NONE_PLACE => k_is)
    (case g_MOST_CELLS => k_is)
    (case g_WRONG_FORM => k_is)
    (case gDS => k_is)
    (case lDS => k_is)
    (case sDS => first | rfl | decide | k_is)
    (case gDU => k_is)
    (case lDU => k_is)
    (case sDU => first | rfl | decide | k_is)
    (case gDF => k_is)
    (case lDF => k_is)
    (case sDF => first | rfl | decide | k_is)
    (case l9 => k_is)
    (case l10 => k_is)
    (case l11 => k_is)
    (case l12 => k_is)
  case S =>
    intro K H xs a hO hwi hask hx
    obtain ⟨kind, x, y, u⟩ := a
    cases hx with
    | cons h1 h2 =>
      cases h1
      cases h2 with
      | cons h3 h4 =>
        cases h4 with
        | cons h5 h6 =>
          cases h6
          cases h3 with
          | lst hs ha =>
            cases h5 with
            | lst hs2 hb =>
              have e := L2.ints_dw x _ ha
              subst e
              have e2 := L2.ints_dw y _ hb
              subst e2
              have q : (Codec.inInt 0 18446744073709551615 kind && ((Codec.inLen 0 4200 x && x.all (Codec.inInt 0 18446744073709551615)) && ((Codec.inLen 0 4200 y && y.all (Codec.inInt 0 18446744073709551615)) && true))) = true := hwi
              rw [Bool.and_eq_true, Bool.and_eq_true, Bool.and_eq_true, Bool.and_eq_true, Bool.and_eq_true] at q
              have hk : 0 ≤ kind := ErP.inI q.1
              have hx : ∀ c ∈ x, 0 ≤ c := fun c hc => ErP.inI (List.all_eq_true.mp q.2.1.2 c hc)
              have hy : ∀ c ∈ y, 0 ≤ c := fun c hc => ErP.inI (List.all_eq_true.mp q.2.2.1.2 c hc)
              refine ⟨kind, _, _, x, y, rfl, hs, hs2, (Codec.inNat_iff.mp q.2.1.1).2, (Codec.inNat_iff.mp q.2.2.1.1).2, hk, hx, hy, fun H' p hp => ?_⟩
              exact .lst (L2.SqL.of hp) (L2.dw_ints _)
#print axioms PySem.Challenge.cw_exactrows_s13_pairs_holds
