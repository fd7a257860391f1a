import PyProof.Rows.All
import Wide.All
import OpenK.AllK
import Wide.FinOn
import PyProof.EqAt
import PyProof.EqKinds
import PyProof.TupleCall
import KE.BitLaws
import Open.SpecLaws
import KE.OsHead
import KE.OsGo
import PyProof.ListRange
import PyProof.Rows.SortShellAny
import KE.KDictSum
import KE.KItemsList
import KE.KSortTupG
import PySem.Challenge.RW_exactrows_s04_quant
section
set_option Elab.async false
set_option linter.all false
set_option maxRecDepth 100000
namespace L2
open PySem PySem.Spec PyProof.Rows

/-- a key: an int or a str -/
abbrev Key := Sum Int Str
def keyIs : Key → Value → Bool
  | .inl k, v => Value.isInt k v
  | .inr x, v => Value.isStrOf x v
def keyH (w : World) : Key → Int
  | .inl k => hashInt k
  | .inr x => hashStr w x
theorem keyIs_shape : ∀ {k : Key} {v : Value}, keyIs k v = true → (∃ i t, k = Sum.inl i ∧ v = Value.int i t) ∨ (∃ x t, k = Sum.inr x ∧ v = Value.str x t)
  | .inl i, v, h => by
    obtain ⟨t, e⟩ := Value.isInt_shape (k := i) (v := v) h
    exact .inl ⟨i, t, rfl, e⟩
  | .inr x, v, h => by
    obtain ⟨t, e⟩ := Value.isStrOf_shape (x := x) (v := v) h
    exact .inr ⟨x, t, rfl, e⟩
theorem keyIs_int (i : Int) (t : Tok) : keyIs (.inl i) (.int i t) = true := by simp [keyIs, Value.isInt]
theorem keyIs_str (x : Str) (t : Tok) : keyIs (.inr x) (.str x t) = true := by simp [keyIs, Value.isStrOf]
theorem key_ll (a b : Int) : decide ((Sum.inl a : Key) = Sum.inl b) = (a == b) := by
  by_cases e : a = b
  · subst e; simp
  · have h : ¬ (Sum.inl a : Key) = Sum.inl b := fun q => e (Sum.inl.inj q)
    rw [decide_eq_false h]
    exact (beq_eq_false_iff_ne.mpr e).symm
theorem key_rr (a b : Str) : decide ((Sum.inr a : Key) = Sum.inr b) = decide (a = b) := by
  by_cases e : a = b
  · subst e; simp
  · have h : ¬ (Sum.inr a : Key) = Sum.inr b := fun q => e (Sum.inr.inj q)
    rw [decide_eq_false h, decide_eq_false e]
theorem key_lr (a : Int) (b : Str) : decide ((Sum.inl a : Key) = Sum.inr b) = false := decide_eq_false (fun q => nomatch q)
theorem key_rl (a : Str) (b : Int) : decide ((Sum.inr a : Key) = Sum.inl b) = false := decide_eq_false (fun q => nomatch q)

def mixKind (prog : Program) (w : World) : PySem.KeyKind prog w Key where
  is := keyIs
  hash := keyH w
  inj := fun v a b ha hb => by
    rcases keyIs_shape ha with ⟨i, t, rfl, rfl⟩ | ⟨x, t, rfl, rfl⟩
    · rcases keyIs_shape hb with ⟨j, u, rfl, e⟩ | ⟨y, u, rfl, e⟩
      · injection e with e1 _; rw [e1]
      · exact nomatch e
    · rcases keyIs_shape hb with ⟨j, u, rfl, e⟩ | ⟨y, u, rfl, e⟩
      · exact nomatch e
      · injection e with e1 _; rw [e1]
  byValue := fun k v h => by
    rcases keyIs_shape h with ⟨i, t, rfl, rfl⟩ | ⟨x, t, rfl, rfl⟩ <;> rfl
  pyHash := fun hv h => by
    rcases keyIs_shape hv with ⟨i, t, rfl, rfl⟩ | ⟨x, t, rfl, rfl⟩
    · exact wpAny_pyHash_int h
    · exact wpAny_pyHash_str h
  eqBool := fun hu hv h => by
    rcases keyIs_shape hu with ⟨i, t, rfl, rfl⟩ | ⟨x, t, rfl, rfl⟩
    · rcases keyIs_shape hv with ⟨j, u, rfl, rfl⟩ | ⟨y, u, rfl, rfl⟩
      · rw [key_ll] at h; exact wpAny_eqBool_int h
      · rw [key_lr] at h; exact SeqAt.EqAt.int_str i t y u _ _ _ _ h
    · rcases keyIs_shape hv with ⟨j, u, rfl, rfl⟩ | ⟨y, u, rfl, rfl⟩
      · rw [key_rl] at h; exact SeqAt.EqAt.str_int x t j u _ _ _ _ h
      · rw [key_rr] at h; exact wpAny_eqBool_str h
  «strs» := fun k x t v h => by
    rcases keyIs_shape h with ⟨i, u, rfl, e⟩ | ⟨y, u, rfl, e⟩
    · exact nomatch e
    · injection e with e1 _
      subst e1
      cases v <;> rfl

theorem mixKind_int (prog : Program) (w : World) (i : Int) (t : Tok) : (mixKind prog w).is (.inl i) (.int i t) = true := keyIs_int i t
theorem mixKind_str (prog : Program) (w : World) (x : Str) (t : Tok) : (mixKind prog w).is (.inr x) (.str x t) = true := keyIs_str x t
end L2

namespace L2
open PySem PySem.Spec PyProof.Rows

/-- a value, without the heap -/
inductive V where
  | non | bl (b : Bool) | int (i : Int) | str (x : Str) | byt (b : Array UInt8) | flt (b : UInt64) | ref (a : Addr) | ty (n : String)
  deriving DecidableEq

def RelV : V → Value → Prop
  | .non, u => u = Value.none
  | .bl b, u => u = Value.bool b
  | .int i, u => ∃ t, u = Value.int i t
  | .str x, u => ∃ t, u = Value.str x t
  | .byt b, u => ∃ t, u = Value.bytes b t
  | .flt b, u => ∃ t, u = Value.float b t
  | .ref a, u => u = Value.ref a
  | .ty n, u => u = Value.type n

abbrev Vals : List V → List Value → Prop := Paired RelV
theorem Vals.length {xs : List V} {us : List Value} (r : Vals xs us) : xs.length = us.length := Paired.length r
theorem Vals.get : ∀ {xs : List V} {us : List Value} {i : Nat} {x : V}, Vals xs us → xs[i]? = some x → ∃ u, us[i]? = some u ∧ RelV x u
  | _, _, _, _, .nil, e => by simp at e
  | _, _, 0, _, .cons r _, e => by simp at e; subst e; exact ⟨_, rfl, r⟩
  | _, _, i + 1, x, .cons _ t, e => by
    obtain ⟨u, h1, h2⟩ := Vals.get (i := i) (x := x) t (by simpa using e)
    exact ⟨u, by simpa using h1, h2⟩
theorem Vals.append : ∀ {xs ys : List V} {us ws : List Value}, Vals xs us → Vals ys ws → Vals (xs ++ ys) (us ++ ws)
  | _, _, _, _, .nil, s => s
  | _, _, _, _, .cons r t, s => .cons r (Vals.append t s)
def RelO : Option V → Option Value → Prop
  | some v, some u => RelV v u
  | none, none => True
  | _, _ => False
def KV {κ : Type} : List (κ × V) → List (κ × Value) → Prop := Paired fun (p : κ × V) (q : κ × Value) => p.1 = q.1 ∧ RelV p.2 q.2

/-- a key of a dict (00_mix): an int or a text -/
def kV : Key → V
  | .inl i => .int i
  | .inr x => .str x

/-- what stands at a tracked address -/
inductive HO where
  /-- a list -/
  | lst (xs : List V)
  /-- a tuple (never changes) -/
  | tup (xs : List V)
  /-- a dict whose keys are natInts and texts; one whose keys are tuples of natInts and texts (the empty one is both) -/
  | dK (kvs : List (Key × V)) | dT (kvs : List (List Key × V))
  /-- a set of natInts: its members, its size -/
  | set (S : Int → Bool) (n : Nat)
  /-- an instance of the class at C, its dict at dx, its attributes -/
  | ins (C dx : Addr) (fs : List (Str × V))
  /-- the dict of the instance at x -/
  | own (x : Addr)
  /-- the dict of an exception -/
  | xd (fs : List (Str × V))
  /-- a bound method, f of x -/
  | met (f x : Addr)
  /-- a range object lo, lo + 1, .. below hi -/
  | rng (lo hi : Int)
  /-- a thing that is known to the object (the script; a dict while a loop walks it): read, never written while it is so -/
  | frz (o : Obj) (u : HO)
  /-- a code object's table -/
  | tbl (ps : Array Value)
  /-- any other thing, by what is true of its one object (a def of one's own: SetO a S n := HO.ext fun h => ..) -/
  | ext (φ : Heap → Prop)

abbrev Hp := Addr → Option HO
def upd (H : Hp) (a : Addr) (o : HO) : Hp := fun b => if b = a then some o else H b
theorem upd_same {H : Hp} {a : Addr} {o : HO} : upd H a o a = some o := by unfold upd; rw [if_pos rfl]
theorem upd_ne {H : Hp} {a b : Addr} {o : HO} (h : b ≠ a) : upd H a o b = H b := by unfold upd; rw [if_neg h]
theorem ne_of_none {H : Hp} {a b : Addr} {o : HO} (h : H a = some o) (h' : H b = none) : a ≠ b := by
  intro e; subst e; rw [h] at h'; cases h'

section
variable (P : Program) (w : World)
def ObjOk (H : Hp) (h : Heap) (a : Addr) : HO → Prop
  | .lst xs => xs.length ≤ sizeLine ∧ ∃ (its : List Value) (n : Nat), Vals xs its ∧ h.get? a = some { cls := .type "list", data := .seq its.toArray n }
  | .tup xs => xs.length ≤ sizeLine ∧ ∃ its : List Value, Vals xs its ∧ IsTup h a its.toArray
  | .dK kvs => kvs.length ≤ sizeLine ∧ (a == sysModules) = false ∧ ∃ vs, KV kvs vs ∧ h.DictOf (mixKind P w) a vs
  | .dT kvs => kvs.length ≤ sizeLine ∧ (a == sysModules) = false ∧ ∃ xs : List (List Key × Addr × Value),
      Paired (fun (p : List Key × V) (q : List Key × Addr × Value) => p.1 = q.1 ∧ H q.2.1 = some (.tup (p.1.map kV)) ∧ RelV p.2 q.2.2) kvs xs ∧
      ∃ o es ep, h.get? a = some o ∧ o.ExactDict ∧ o.data = .dict es ep ∧ es.toList = xs.map (entryOfKey (tupleKind (mixKind P w))) ∧ (xs.map (·.1)).Nodup
  | .set S n => h.SetOf (intKind P w) a S n
  | .ins C dx fs => H dx = some (.own a) ∧ fs.length ≤ 1000 ∧ dx ≠ a ∧ h.get? a = some (PySem.W.instObj C dx) ∧
      ∃ mA, h.Ns1 dx mA ∧ (∀ f, RelO (fs.lookup f) (mA f)) ∧ PySem.Within mA (fs.map (·.1))
  | .own _ => ∃ o, h.get? a = some o
  | .xd fs => ∃ mA, h.Ns1 a mA ∧ ∀ f, RelO (fs.lookup f) (mA f)
  | .rng lo hi => ∃ t u v, h.get? a = some { cls := .type "range", data := .fields #[.int lo t, .int hi u, .int 1 v] }
  | .frz o u => h.get? a = some o ∧ ObjOk H h a u
  | .tbl ps => h.get? a = some { cls := .none, data := .fields ps }
  | .met f x => h.get? a = some (PySem.W.methodObj (.ref f) (.ref x))
  | .ext φ => φ h ∧ (∃ o, h.get? a = some o) ∧ ∀ h1 h2 : Heap, φ h1 → (∀ o, h1.get? a = some o → h2.get? a = some o) → φ h2
/-- the abstract heap is held -/
def HOk (H : Hp) (h : Heap) : Prop := ∀ a o, H a = some o → ObjOk P w H h a o
end

section
variable {P : Program} {w : World} {H H' : Hp} {h h' : Heap} {a : Addr} {o : HO}
theorem ObjOk.lt (x : ObjOk P w H h a o) : a < h.objs.size := by
  cases o with
  | lst xs => obtain ⟨_, _, _, _, e⟩ := x; exact Heap.lt_size e
  | tup xs => obtain ⟨_, _, _, p⟩ := x; exact p.lt
  | dK kvs => obtain ⟨_, _, _, _, o, _, _, e, _⟩ := x; exact Heap.lt_size e
  | dT kvs => obtain ⟨_, _, _, _, o, _, _, e, _⟩ := x; exact Heap.lt_size e
  | set S n => obtain ⟨o, _, _, _, e, _⟩ := x; exact Heap.lt_size e
  | ins C dx fs => obtain ⟨_, _, _, e, _⟩ := x; exact Heap.lt_size e
  | own y => obtain ⟨_, e⟩ := x; exact Heap.lt_size e
  | xd fs => obtain ⟨_, ⟨_, _, _, e, _⟩, _⟩ := x; exact Heap.lt_size e
  | rng lo hi => obtain ⟨_, _, _, e⟩ := x; exact Heap.lt_size e
  | frz ob u => obtain ⟨e, _⟩ := x; exact Heap.lt_size e
  | tbl ps => exact Heap.lt_size (show h.get? a = some _ from x)
  | met f y => exact Heap.lt_size (show h.get? a = some _ from x)
  | ext φ => obtain ⟨_, ⟨_, e⟩, _⟩ := x; exact Heap.lt_size e
theorem Paired.mapP {α β : Type} {F G : α → β → Prop} : ∀ {l₁ : List α} {l₂ : List β}, Paired F l₁ l₂ → (∀ a b, F a b → G a b) → Paired G l₁ l₂
  | _, _, .nil, _ => .nil
  | _, _, .cons r t, f => .cons (f _ _ r) (Paired.mapP t f)
/-- what an object's description leans on: its own object, its own dict, the tuples -/
theorem ObjOk.stay (x : ObjOk P w H h a o) (k : ∀ b u, (b = a ∨ H b = some (.own a)) → h.get? b = some u → h'.get? b = some u)
    (ho : ∀ b, H b = some (.own a) → H' b = some (.own a)) (ht : ∀ b xs, H b = some (.tup xs) → H' b = some (.tup xs)) : ObjOk P w H' h' a o := by
  induction o with
  | lst xs => obtain ⟨z, its, n, r, e⟩ := x; exact ⟨z, its, n, r, k _ _ (.inl rfl) e⟩
  | tup xs => obtain ⟨z, its, r, ob, e, c⟩ := x; exact ⟨z, its, r, ob, k _ _ (.inl rfl) e, c⟩
  | dK kvs => obtain ⟨z, y, vs, r, ob, es, ep, e, c⟩ := x; exact ⟨z, y, vs, r, ob, es, ep, k _ _ (.inl rfl) e, c⟩
  | dT kvs =>
    obtain ⟨z, y, xs, r, ob, es, ep, e, c⟩ := x
    exact ⟨z, y, xs, Paired.mapP r fun p q z => ⟨z.1, ht _ _ z.2.1, z.2.2⟩, ob, es, ep, k _ _ (.inl rfl) e, c⟩
  | set S n => obtain ⟨ob, es, ep, t, e, c⟩ := x; exact ⟨ob, es, ep, t, k _ _ (.inl rfl) e, c⟩
  | ins C dx fs =>
    obtain ⟨d, z, ne, e, mA, ⟨od, es, ep, e2, c⟩, r⟩ := x
    exact ⟨ho _ d, z, ne, k _ _ (.inl rfl) e, mA, ⟨od, es, ep, k _ _ (.inr d) e2, c⟩, r⟩
  | own y => obtain ⟨ob, e⟩ := x; exact ⟨ob, k _ _ (.inl rfl) e⟩
  | xd fs => obtain ⟨mA, ⟨od, es, ep, e, c⟩, r⟩ := x; exact ⟨mA, ⟨od, es, ep, k _ _ (.inl rfl) e, c⟩, r⟩
  | rng lo hi => obtain ⟨t, u, v, e⟩ := x; exact ⟨t, u, v, k _ _ (.inl rfl) e⟩
  | frz ob u ih => obtain ⟨e, q⟩ := x; exact ⟨k _ _ (.inl rfl) e, ih q⟩
  | tbl ps =>
    have e : h.get? a = some { cls := .none, data := .fields ps } := x
    show h'.get? a = some { cls := .none, data := .fields ps }
    exact k a _ (.inl rfl) e
  | met f y =>
    have e : h.get? a = some (PySem.W.methodObj (.ref f) (.ref y)) := x
    show h'.get? a = some (PySem.W.methodObj (.ref f) (.ref y))
    exact k a _ (.inl rfl) e
  | ext φ => obtain ⟨p, ⟨o, e⟩, st⟩ := x; exact ⟨st _ _ p fun o q => k _ _ (.inl rfl) q, ⟨o, k _ _ (.inl rfl) e⟩, st⟩
theorem HOk.lt (x : HOk P w H h) (e : H a = some o) : a < h.objs.size := (x a o e).lt
theorem HOk.fresh (x : HOk P w H h) (e : h.objs.size ≤ a) : H a = none := by
  cases q : H a with
  | none => rfl
  | some u => exact absurd (Nat.lt_of_lt_of_le (x.lt q) e) (Nat.lt_irrefl _)
/-- every object of the heap is kept -/
theorem HOk.kept (x : HOk P w H h) (k : ∀ b u, h.get? b = some u → h'.get? b = some u) : HOk P w H h' := fun a o e =>
  (x a o e).stay (fun b u _ q => k b u q) (fun _ q => q) fun _ _ q => q
/-- a new object is laid and tracked -/
theorem HOk.laid (x : HOk P w H h) (k : ∀ b u, h.get? b = some u → h'.get? b = some u) (hp : h.objs.size ≤ a) (new : ObjOk P w (upd H a o) h' a o) : HOk P w (upd H a o) h' := fun b u e => by
  have hn := x.fresh hp
  by_cases hb : b = a
  · subst hb; rw [upd_same] at e; cases e; exact new
  · rw [upd_ne hb] at e
    exact (x b u e).stay (fun c v _ q => k c v q) (fun c q => by rw [upd_ne (ne_of_none q hn)]; exact q) fun c xs q => by rw [upd_ne (ne_of_none q hn)]; exact q
end

/-- what may be read as u: it is u, or a known u -/
def Rd (H : Hp) (a : Addr) (u : HO) : Prop := H a = some u ∨ ∃ o, H a = some (.frz o u)
theorem Rd.ok {P : Program} {w : World} {H : Hp} {h : Heap} {a : Addr} {u : HO} (r : Rd H a u) (x : HOk P w H h) : ObjOk P w H h a u := by
  rcases r with r | ⟨o, r⟩
  · exact x a u r
  · obtain ⟨_, q⟩ := x a _ r
    exact q
/-- what may be written -/
def Mut : Option HO → Prop
  | some (.lst _) => True
  | some (.dK _) => True
  | some (.dT _) => True
  | some (.set _ _) => True
  | some (.ins _ _ _) => True
  | some (.ext _) => True
  | _ => False
section
variable {P : Program} {w : World} {H : Hp} {h h' : Heap} {x e : Addr} {o' : HO}
/-- the object at e is changed: x itself, or the dict of the instance x -/
theorem HOk.write (ok : HOk P w H h) (mu : Mut (H x)) (he : e = x ∨ H e = some (.own x)) (k : ∀ b u, b ≠ e → h.get? b = some u → h'.get? b = some u) (heo : ∃ u, h'.get? e = some u)
    (new : ObjOk P w (upd H x o') h' x o') : HOk P w (upd H x o') h' := fun b u q => by
  have nown : ∀ c y, H c = some (.own y) → c ≠ x := fun c y r z => by subst z; rw [r] at mu; exact mu
  have ntup : ∀ c xs, H c = some (.tup xs) → c ≠ x := fun c xs r z => by subst z; rw [r] at mu; exact mu
  by_cases hb : b = x
  · subst hb; rw [upd_same] at q; cases q; exact new
  · rw [upd_ne hb] at q
    by_cases hbe : b = e
    · have q' : H b = some (.own x) := by
        rcases he with z | z
        · exact absurd (hbe.trans z) hb
        · rw [hbe]; exact z
      rw [q] at q'; cases q'
      obtain ⟨v, hv⟩ := heo
      exact ⟨v, by rw [hbe]; exact hv⟩
    · refine (ok b u q).stay (fun c v hc r => k c v ?_ r) (fun c r => by rw [upd_ne (nown c b r)]; exact r) fun c xs r => by rw [upd_ne (ntup c xs r)]; exact r
      rcases hc with rfl | hc
      · exact hbe
      · rintro rfl
        rcases he with z | z
        · exact nown c b hc z
        · rw [hc] at z; cases z; exact hb rfl
end

structure Un (fs ex : List Addr) (H H' : Hp) (h h' : Heap) : Prop where
  keep : ∀ b o, h.get? b = some o → H b = none → b ∉ fs → b ∉ ex → h'.get? b = some o
  slot : ∀ b o, h.get? b = some o → H b = none → b ∈ fs → b ∉ ex → ∃ sl, h'.get? b = some { o with slots := sl }
  free : ∀ b o, h.get? b = some o → H b = none → b ∉ ex → H' b = none
  there : ∀ b o, h.get? b = some o → b ∉ ex → ∃ o', h'.get? b = some o'
  tups : ∀ b xs, H b = some (.tup xs) → H' b = some (.tup xs)
  frzs : ∀ b o u, H b = some (.frz o u) → H' b = some (.frz o u)
  tbls : ∀ b ps, H b = some (.tbl ps) → ∃ more, H' b = some (.tbl (ps ++ more))
section
variable {fs fs' ex ex' : List Addr} {H H1 H2 : Hp} {h h1 h2 h' : Heap} {a x e : Addr} {o : HO}
theorem Un.any (u : Un fs ex H H1 h h1) {b : Addr} {ob : Obj} (q : h.get? b = some ob) (n : H b = none) (hx : b ∉ ex) : ∃ sl, h1.get? b = some { ob with slots := sl } := by
  by_cases hb : b ∈ fs
  · exact u.slot b ob q n hb hx
  · exact ⟨ob.slots, u.keep b ob q n hb hx⟩
theorem Un.kept (k : ∀ b u, h.get? b = some u → h'.get? b = some u) : Un fs ex H H h h' :=
  ⟨fun b ob q _ _ _ => k b ob q, fun b ob q _ _ _ => ⟨ob.slots, k b ob q⟩, fun _ _ _ n _ => n, fun b ob q _ => ⟨ob, k b ob q⟩, fun _ _ q => q, fun _ _ _ q => q, fun _ ps q => ⟨#[], by rw [q]; simp⟩⟩
theorem Un.refl : Un fs ex H H h h := Un.kept fun _ _ q => q
theorem Un.laid (k : ∀ b u, h.get? b = some u → h'.get? b = some u) (hp : h.objs.size ≤ a) (hn : H a = none) : Un fs ex H (upd H a o) h h' where
  keep := fun b u q _ _ _ => k b u q
  slot := fun b u q _ _ _ => ⟨u.slots, k b u q⟩
  free := fun b u q n _ => by rw [upd_ne (Nat.ne_of_lt (Nat.lt_of_lt_of_le (Heap.lt_size q) hp))]; exact n
  there := fun b u q _ => ⟨u, k b u q⟩
  tups := fun b xs q => by rw [upd_ne (ne_of_none q hn)]; exact q
  frzs := fun b u xs q => by rw [upd_ne (ne_of_none q hn)]; exact q
  tbls := fun b ps q => ⟨#[], by rw [upd_ne (ne_of_none q hn), q]; simp⟩
theorem Un.write (mu : Mut (H x)) (he : e = x ∨ H e = some (.own x)) (k : ∀ b u, b ≠ e → h.get? b = some u → h'.get? b = some u) (heo : ∃ u, h'.get? e = some u) : Un fs ex H (upd H x o) h h' := by
  have hx : ∀ b, H b = none → b ≠ x := fun b n z => by subst z; rw [n] at mu; exact mu
  have hb : ∀ b, H b = none → b ≠ e := fun b n z => by
    subst z
    rcases he with r | r
    · exact hx b n r
    · rw [n] at r; cases r
  have hm : ∀ b u, H b = some u → ¬ Mut (some u) → b ≠ x := fun b u q nm z => by subst z; rw [q] at mu; exact nm mu
  refine ⟨fun b u q n _ _ => k b u (hb b n) q, fun b u q n _ _ => ⟨u.slots, k b u (hb b n) q⟩, fun b u q n _ => by rw [upd_ne (hx b n)]; exact n, fun b u q _ => ?_,
    fun b xs q => by rw [upd_ne (hm b _ q fun z => z)]; exact q, fun b u xs q => by rw [upd_ne (hm b _ q fun z => z)]; exact q, fun b ps q => ⟨#[], by rw [upd_ne (hm b _ q fun z => z), q]; simp⟩⟩
  by_cases hbe : b = e
  · subst hbe; exact heo
  · exact ⟨u, k b u hbe q⟩
end

def trk (h : Heap) (H : Hp) : List Addr := (List.range h.objs.size).filter fun a => (H a).isSome
def hidT (h : Heap) (H : Hp) : Heap := PySem.W.hideAll h (trk h H)
theorem hidT_size (h : Heap) (H : Hp) : (hidT h H).objs.size = h.objs.size := PySem.W.hideAll_size _ _
theorem hidT_get {h : Heap} {H : Hp} {b : Addr} {o : Obj} (e : h.get? b = some o) (n : H b = none) : (hidT h H).get? b = some o :=
  PySem.W.hideAll_get _ e fun hm => by
    have q : (H b).isSome = true := (List.mem_filter.mp hm).2
    rw [n] at q; simp at q
theorem of_hidT {h : Heap} {H : Hp} {b : Addr} {o : Obj} (e : (hidT h H).get? b = some o) : h.get? b = some o ∧ H b = none := by
  have e' : h.get? b = some o := PySem.W.of_hideAll (trk h H) e
  refine ⟨e', ?_⟩
  cases q : H b with
  | none => rfl
  | some x =>
    have hm : b ∈ trk h H := List.mem_filter.mpr ⟨List.mem_range.mpr (Heap.lt_size e'), by simp [q]⟩
    have z : (hidT h H).get? b = none := PySem.W.hideAll_none (trk h H) hm
    rw [z] at e; cases e

end L2

namespace L2
open PySem PySem.Spec PyProof.Rows

/-- the module's facts, over the base: the heap at the law's entry without what is tracked there -/
structure Mod (K : PySem.W.Frag) (mg : Str → Option Value) (base : Heap) : Prop where
  kin : K.In base
  glob : base.Ns mainGlobals mg
  blt : ∃ mb, base.Ns builtinsNs mb ∧ ∀ x : Str, x ≠ "__name__" → mb x = bootBuiltins x
  nolimit : base.NoLimit

/-- the context: a def's body (or a comprehension's block) running. base: fixed through the whole law; s₀, H₀: the entry; outer: the frames whose slots others may change (a def's callers); stack: all frames that run;
   ex: iterators that were made ahead of the entry and are walked here (a comprehension's); fn: the names whose cells were made at the entry (a def: all; a comprehension's block: its own); calm: not within an except suite; pn: pins that every state bears; xe: what is wanted of an exception that leaves the code -/
structure Cx where
  prog : Program
  w : World
  K : PySem.W.Frag
  mg : Str → Option Value
  base : Heap
  A : Around
  N : List Str
  s_0 : Shared
  H_0 : Hp
  env : Env
  outer : List Env
  stack : List Env
  ex : List Addr
  fn : Str → Bool
  calm : Bool
  pn : List (Addr × Obj)
  xe : Value → Shared → Prop
/-- the callers' frames -/
def frs (l : List Env) : List Addr := l.filterMap (·.frame)
abbrev Cx.fs (X : Cx) : List Addr := frs X.outer

def Vis (sc : Scope) (x : Str) : Prop := sc.names.lookup x = some .local ∨ sc.names.lookup x = some .cell ∨ sc.names.lookup x = some .free
def Loc (sc : Scope) (x : Str) : Prop := sc.names.lookup x = some .local ∨ sc.names.lookup x = some .cell
def Look (env : Env) (h : Heap) (m : Str → Option Value) (x : Str) (u : Value) : Prop :=
  (env.kindOf x = some .local ∧ m x = some u) ∨ ((env.kindOf x = some .cell ∨ env.kindOf x = some .free) ∧ ∃ c, env.cells.lookup x = some c ∧ h.IsCell c (some u))

structure Cx.Ok (X : Cx) : Prop where
  mod : Mod X.K X.mg X.base
  kind : X.env.scope.kind = .function
  glob : X.env.globals = mainGlobals
  blt : X.env.builtins = builtinsNs
  above : X.s_0.heap.objs.size ≤ X.env.locals
  inj : ∀ x y c, X.env.cells.lookup x = some c → X.env.cells.lookup y = some c → x = y
  has : ∀ x, (X.env.kindOf x = some .cell ∨ X.env.kindOf x = some .free) → ∃ c, X.env.cells.lookup x = some c
  cab : ∀ x c, X.fn x = true → X.env.cells.lookup x = some c → X.s_0.heap.objs.size ≤ c
  hd : X.calm = true → X.A.handled = none
  frames : X.A.frames = some X.stack
  stk : X.stack = X.outer ∨ (X.stack = X.env :: X.outer ∧ X.env.frame = some X.env.locals)
  exf : ∀ b ∈ X.ex, b ≠ X.env.locals ∧ ∀ x c, X.env.cells.lookup x = some c → c ≠ b
  bs : ∀ b o, X.base.get? b = some o → X.s_0.heap.get? b = some o ∧ X.H_0 b = none
  bsz : X.base.objs.size ≤ X.s_0.heap.objs.size
  noex : ∀ b o, X.base.get? b = some o → b ∉ X.ex
  exfs : ∀ b ∈ X.ex, b ∉ X.fs
  funs : X.s_0.heap.FunFrames X.base X.outer
  frf : ∀ b ∈ X.fs, X.H_0 b = none

structure Inv (X : Cx) (pins : List (Addr × Obj)) (σ : List (Option V)) (H : Hp) (s : Shared) : Prop where
  ok : X.Ok
  os : s.os = X.s_0.os
  bare : AllBare s.gens
  base : Un X.fs X.ex X.H_0 H X.s_0.heap s.heap
  loc : ∃ m, s.heap.Ns X.env.locals m ∧ ∀ (i : Nat) (x : Str) (v : V), X.N[i]? = some x → σ[i]? = some (some v) → Vis X.env.scope x → ∃ u, RelV v u ∧ Look X.env s.heap m x u
  cell : ∀ x c, X.env.cells.lookup x = some c → ∃ v, s.heap.IsCell c v
  free : H X.env.locals = none
  freeC : ∀ x c, X.env.cells.lookup x = some c → H c = none
  pin : ∀ p ∈ X.pn ++ pins, s.heap.get? p.1 = some p.2 ∧ H p.1 = none ∧ p.1 ≠ X.env.locals ∧ p.1 ∉ X.fs ∧ ∀ v, p.2.data ≠ .cell v
  hok : HOk X.prog X.w H s.heap
  len : σ.length = X.N.length

section
variable {X : Cx} {pins : List (Addr × Obj)} {σ : List (Option V)} {H H' : Hp} {s : Shared} {h' : Heap}

theorem Cx.Ok.nofr (ok : X.Ok) {b : Addr} {o : Obj} (e : X.base.get? b = some o) : b ∉ X.fs := fun hb => by
  have := (ok.funs.mem hb).1
  rw [e] at this; cases this
theorem Inv.bs (I : Inv X pins σ H s) : ∀ b o, X.base.get? b = some o → s.heap.get? b = some o ∧ H b = none := fun b o e =>
  ⟨I.base.keep b o (I.ok.bs b o e).1 (I.ok.bs b o e).2 (I.ok.nofr e) (I.ok.noex b o e), I.base.free b o (I.ok.bs b o e).1 (I.ok.bs b o e).2 (I.ok.noex b o e)⟩
theorem Inv.bk (I : Inv X pins σ H s) : ∀ b o, X.base.get? b = some o → s.heap.get? b = some o := fun b o e => (I.bs b o e).1
theorem Inv.mod (I : Inv X pins σ H s) : Mod X.K X.mg X.base := I.ok.mod
theorem Inv.kIn (I : Inv X pins σ H s) : X.K.In s.heap := I.ok.mod.kin.keeps I.bk
theorem Inv.lt (I : Inv X pins σ H s) : X.env.locals < s.heap.objs.size := let ⟨_, hn, _⟩ := I.loc; hn.lt
theorem Inv.sz (I : Inv X pins σ H s) : X.s_0.heap.objs.size ≤ s.heap.objs.size := Nat.le_trans I.ok.above (Nat.le_of_lt I.lt)
theorem Inv.nofs (I : Inv X pins σ H s) {a : Addr} (h : s.heap.objs.size ≤ a) : a ∉ X.fs := fun hb => by
  obtain ⟨_, o, ho, _⟩ := I.ok.funs.mem hb
  exact absurd (Nat.lt_of_lt_of_le (Heap.lt_size ho) (Nat.le_trans I.sz h)) (Nat.lt_irrefl _)
theorem Inv.cne (I : Inv X pins σ H s) : ∀ x c, X.env.cells.lookup x = some c → c ≠ X.env.locals := fun x c e z => by
  obtain ⟨v, o, ho, hd⟩ := I.cell x c e
  obtain ⟨m, ⟨o', es, ep, ho', hd', _⟩, _⟩ := I.loc
  rw [z, ho'] at ho; cases ho; rw [hd'] at hd; cases hd
theorem Inv.funs (I : Inv X pins σ H s) : s.heap.FunFrames X.base X.outer := by
  have all : ∀ (l : List Env), (∀ b ∈ frs l, b ∈ X.fs) → X.s_0.heap.FunFrames X.base l → s.heap.FunFrames X.base l := by
    intro l
    induction l with
    | nil => intro _ _; trivial
    | cons env r ih =>
      intro hs hl
      obtain ⟨hk, ⟨L, o, hf, hn, ho, hd⟩, hr⟩ := hl
      have hL : L ∈ X.fs := hs L (by unfold frs; rw [List.filterMap_cons, hf]; exact List.mem_cons_self)
      obtain ⟨sl, e⟩ := I.base.slot L o ho (I.ok.frf L hL) hL fun z => I.ok.exfs L z hL
      exact ⟨hk, ⟨L, _, hf, hn, e, hd⟩, ih (fun b hb => hs b (by unfold frs; rw [List.filterMap_cons, hf]; exact List.mem_cons_of_mem _ hb)) hr⟩
  exact all X.outer (fun _ hb => hb) I.ok.funs

/-- the frames that run, for a call -/
theorem Inv.stack (I : Inv X pins σ H s) : s.heap.FunFrames X.base X.stack := by
  rcases I.ok.stk with e | ⟨e, hf⟩
  · rw [e]; exact I.funs
  · rw [e]
    obtain ⟨m, hn, _⟩ := I.loc
    refine .cons (by rw [I.ok.kind]; decide) hf hn ?_ I.funs
    exact Heap.get?_none_of_le (Nat.le_trans I.ok.bsz I.ok.above)
theorem Inv.stkSub (I : Inv X pins σ H s) : ∀ b ∈ frs X.stack, b ∈ X.env.locals :: X.fs := fun b hb => by
  rcases I.ok.stk with e | ⟨e, hf⟩
  · rw [e] at hb; exact List.mem_cons_of_mem _ hb
  · rw [e] at hb
    unfold frs at hb
    rw [List.filterMap_cons, hf] at hb
    exact hb
theorem Inv.stkFree (I : Inv X pins σ H s) : ∀ b ∈ frs X.stack, H b = none := fun b hb => by
  rcases List.mem_cons.mp (I.stkSub b hb) with e | hb
  · rw [e]; exact I.free
  · obtain ⟨_, o, ho, _⟩ := I.ok.funs.mem hb
    exact I.base.free b o ho (I.ok.frf b hb) fun z => I.ok.exfs b z hb

/-- THE STEP: the untracked objects but the frame and the records at ch are kept (the callers' frames up to slots), the frame's map is kept, the new abstract heap is held -/
theorem Inv.step {g' : Array GenState} {t' : Nat} {d' : Drawn} {ch : List Addr} (I : Inv X pins σ H s)
    (hch : ∀ b ∈ ch, (b ∈ X.ex ∨ X.s_0.heap.objs.size ≤ b) ∧ b ≠ X.env.locals ∧ (∀ x c, X.env.cells.lookup x = some c → c ≠ b) ∧ ∀ p ∈ X.pn ++ pins, p.1 ≠ b)
    (keep : ∀ b o, b ≠ X.env.locals → b ∉ X.fs → b ∉ ch → s.heap.get? b = some o → H b = none → h'.get? b = some o)
    (slot : ∀ b o, b ≠ X.env.locals → b ∈ X.fs → b ∉ ch → s.heap.get? b = some o → H b = none → ∃ sl, h'.get? b = some { o with slots := sl }) (free : ∀ b o, b ∉ ch → s.heap.get? b = some o → H b = none → H' b = none)
    (there : ∀ b o, b ∉ ch → s.heap.get? b = some o → ∃ o', h'.get? b = some o')
    (tups : ∀ b xs, H b = some (.tup xs) → H' b = some (.tup xs)) (frzs : ∀ b o u, H b = some (.frz o u) → H' b = some (.frz o u)) (tbls : ∀ b ps, H b = some (.tbl ps) → ∃ more, H' b = some (.tbl (ps ++ more)))
    (ns : ∀ m, s.heap.Ns X.env.locals m → h'.Ns X.env.locals m) (hok : HOk X.prog X.w H' h') (hg : AllBare g') :
    Inv X pins σ H' { s with heap := h', gens := g', drawn := d', toks := t' } := by
  have neL : ∀ b o, X.s_0.heap.get? b = some o → b ≠ X.env.locals := fun b o e => Nat.ne_of_lt (Nat.lt_of_lt_of_le (Heap.lt_size e) I.ok.above)
  have neC : ∀ b o, X.s_0.heap.get? b = some o → b ∉ X.ex → b ∉ ch := fun b o e hx hb => by
    rcases (hch b hb).1 with z | z
    · exact hx z
    · exact absurd (Nat.lt_of_lt_of_le (Heap.lt_size e) z) (Nat.lt_irrefl _)
  have cellK : ∀ x c, X.env.cells.lookup x = some c → ∀ v, s.heap.IsCell c v → h'.IsCell c v := fun x c e v ⟨o, ho, hd⟩ => by
    have nch : c ∉ ch := fun z => (hch c z).2.2.1 x c e rfl
    by_cases hc : c ∈ X.fs
    · obtain ⟨sl, q⟩ := slot c o (I.cne x c e) hc nch ho (I.freeC x c e)
      exact ⟨_, q, hd⟩
    · exact ⟨o, keep c o (I.cne x c e) hc nch ho (I.freeC x c e), hd⟩
  refine ⟨I.ok, I.os, hg, ⟨fun b o e n hb hx => ?_, fun b o e n hb hx => ?_, fun b o e n hx => ?_, fun b o e hx => ?_, fun b xs e => tups b xs (I.base.tups b xs e), fun b o xs e => frzs b o xs (I.base.frzs b o xs e), fun b ps e => ?_⟩, ?_, fun x c e => ?_, ?_, fun x c e => ?_, fun p hp => ?_, hok, I.len⟩
  · exact keep b o (neL b o e) hb (neC b o e hx) (I.base.keep b o e n hb hx) (I.base.free b o e n hx)
  · obtain ⟨sl, e1⟩ := I.base.slot b o e n hb hx
    obtain ⟨sl', e2⟩ := slot b _ (neL b o e) hb (neC b o e hx) e1 (I.base.free b o e n hx)
    exact ⟨sl', e2⟩
  · obtain ⟨o', e1⟩ := I.base.there b o e hx
    exact free b o' (neC b o e hx) e1 (I.base.free b o e n hx)
  · obtain ⟨o', e1⟩ := I.base.there b o e hx
    exact there b o' (neC b o e hx) e1
  · obtain ⟨m1, e1⟩ := I.base.tbls b ps e
    obtain ⟨m2, e2⟩ := tbls b _ e1
    exact ⟨m1 ++ m2, by rw [e2, Array.append_assoc]⟩
  · obtain ⟨m, hn, hl⟩ := I.loc
    refine ⟨m, ns m hn, fun i x v e1 e2 e3 => ?_⟩
    obtain ⟨u, r, l⟩ := hl i x v e1 e2 e3
    refine ⟨u, r, ?_⟩
    rcases l with l | ⟨k, c, e, z⟩
    · exact .inl l
    · exact .inr ⟨k, c, e, cellK x c e _ z⟩
  · obtain ⟨v, z⟩ := I.cell x c e
    exact ⟨v, cellK x c e v z⟩
  · obtain ⟨m, ⟨o, _, _, ho, _⟩, _⟩ := I.loc
    exact free _ o (fun z => (hch _ z).2.1 rfl) ho I.free
  · obtain ⟨v, o, ho, hd⟩ := I.cell x c e
    exact free c o (fun z => (hch c z).2.2.1 x c e rfl) ho (I.freeC x c e)
  · obtain ⟨e, n, ne, nf, d⟩ := I.pin p hp
    have nch : p.1 ∉ ch := fun z => (hch p.1 z).2.2.2 p hp rfl
    exact ⟨keep p.1 p.2 ne nf nch e n, free p.1 p.2 nch e n, ne, nf, d⟩
/-- .. where the frame's own object is kept too -/
theorem Inv.un {t' : Nat} (I : Inv X pins σ H s) (u : Un X.fs [] H H' s.heap h') (hok : HOk X.prog X.w H' h') : Inv X pins σ H' { s with heap := h', toks := t' } := by
  obtain ⟨m, ⟨o, es, ep, ho, r⟩, _⟩ := id I.loc
  obtain ⟨sl, hL⟩ := u.any ho I.free (by simp)
  exact I.step (g' := s.gens) (d' := s.drawn) (ch := []) (fun _ z => nomatch z) (fun b o _ hb _ e n => u.keep b o e n hb (by simp)) (fun b o _ hb _ e n => u.slot b o e n hb (by simp)) (fun b o _ e n => u.free b o e n (by simp)) (fun b o _ e => u.there b o e (by simp)) u.tups u.frzs u.tbls (fun m' hm => by
    obtain ⟨o', es', ep', ho', r'⟩ := hm
    rw [ho] at ho'; cases ho'
    exact ⟨_, es', ep', hL, r'⟩) hok I.bare
/-- behind a call (or a comprehension's block): the slots of this frame may have changed too, the records at ch may have turned -/
theorem Inv.call {g' : Array GenState} {t' : Nat} {d' : Drawn} {ch : List Addr} (I : Inv X pins σ H s) (u : Un (frs X.stack) ch H H' s.heap h') (hok : HOk X.prog X.w H' h') (hg : AllBare g')
    (hch : ∀ b ∈ ch, (b ∈ X.ex ∨ X.s_0.heap.objs.size ≤ b) ∧ b ≠ X.env.locals ∧ (∀ x c, X.env.cells.lookup x = some c → c ≠ b) ∧ ∀ p ∈ X.pn ++ pins, p.1 ≠ b) :
    Inv X pins σ H' { s with heap := h', gens := g', drawn := d', toks := t' } := by
  obtain ⟨m, ⟨o, es, ep, ho, r⟩, _⟩ := id I.loc
  obtain ⟨sl, hL⟩ := u.any ho I.free fun z => (hch _ z).2.1 rfl
  exact I.step (ch := ch) hch (fun b o hL hb hc e n => u.keep b o e n (fun z => (List.mem_cons.mp (I.stkSub b z)).elim hL hb) hc) (fun b o _ _ hc e n => u.any e n hc) (fun b o hc e n => u.free b o e n hc) (fun b o hc e => u.there b o e hc) u.tups u.frzs u.tbls (fun m' hm => by
    obtain ⟨o', es', ep', ho', r'⟩ := hm
    rw [ho] at ho'; cases ho'
    exact ⟨_, es', ep', hL, r'⟩) hok hg
/-- an untracked record of ours (an iterator) has turned -/
theorem Inv.turned {t' : Nat} {it : Addr} (I : Inv X pins σ H s) (k : ∀ b o, b ≠ it → s.heap.get? b = some o → h'.get? b = some o) (hn : H it = none) (hL : it ≠ X.env.locals)
    (h1 : it ∈ X.ex ∨ X.s_0.heap.objs.size ≤ it) (h2 : ∀ x c, X.env.cells.lookup x = some c → c ≠ it) (h3 : ∀ p ∈ X.pn ++ pins, p.1 ≠ it) : Inv X pins σ H { s with heap := h', toks := t' } := by
  have nit : ∀ b u, H b = some u → b ≠ it := fun b u e z => by rw [z, hn] at e; cases e
  refine I.step (g' := s.gens) (d' := s.drawn) (ch := [it]) (fun b hb => ?_) (fun b o _ _ hc e _ => k b o (fun z => hc (by simp [z])) e) (fun b o _ _ hc e _ => ⟨o.slots, k b o (fun z => hc (by simp [z])) e⟩) (fun _ _ _ _ n => n)
    (fun b o hc e => ⟨o, k b o (fun z => hc (by simp [z])) e⟩) (fun _ _ e => e) (fun _ _ _ e => e) (fun b ps e => ⟨#[], by rw [e]; simp⟩) (fun m hm => ?_) (fun b u e => ?_) I.bare
  · have e : b = it := by simpa using hb
    subst e
    exact ⟨h1, hL, h2, h3⟩
  · obtain ⟨o, es, ep, ho, r⟩ := hm
    exact ⟨o, es, ep, k _ o (Ne.symm hL) ho, r⟩
  · refine (I.hok b u e).stay (fun c v hc q => k c v ?_ q) (fun _ q => q) fun _ _ q => q
    rcases hc with z | z
    · rw [z]; exact nit b u e
    · exact nit c _ z
theorem Inv.tok (I : Inv X pins σ H s) (t : Nat) : Inv X pins σ H { s with toks := t } := I.un (h' := s.heap) (t' := t) Un.refl I.hok
/-- all objects kept -/
theorem Inv.kept {t' : Nat} (I : Inv X pins σ H s) (k : ∀ b u, s.heap.get? b = some u → h'.get? b = some u) : Inv X pins σ H { s with heap := h', toks := t' } := I.un (Un.kept k) (I.hok.kept k)
/-- a new object laid and tracked -/
theorem Inv.laid {a : Addr} {o : HO} {t' : Nat} (I : Inv X pins σ H s) (k : ∀ b u, s.heap.get? b = some u → h'.get? b = some u) (hp : s.heap.objs.size ≤ a) (new : ObjOk X.prog X.w (upd H a o) h' a o) :
    Inv X pins σ (upd H a o) { s with heap := h', toks := t' } := I.un (Un.laid k hp (I.hok.fresh hp)) (I.hok.laid k hp new)
/-- an object written -/
theorem Inv.write {x e : Addr} {o : HO} {t' : Nat} (I : Inv X pins σ H s) (mu : Mut (H x)) (he : e = x ∨ H e = some (.own x)) (k : ∀ b u, b ≠ e → s.heap.get? b = some u → h'.get? b = some u) (heo : ∃ u, h'.get? e = some u)
    (new : ObjOk X.prog X.w (upd H x o) h' x o) : Inv X pins σ (upd H x o) { s with heap := h', toks := t' } := I.un (Un.write mu he k heo) (I.hok.write mu he k heo new)
/-- forgetting slots, pins -/
theorem Inv.weak {σ' : List (Option V)} (I : Inv X pins σ H s) (hl : σ'.length = σ.length) (w : ∀ (i : Nat) v, σ'[i]? = some (some v) → σ[i]? = some (some v)) : Inv X pins σ' H s :=
  ⟨I.ok, I.os, I.bare, I.base, let ⟨m, hn, hl'⟩ := I.loc; ⟨m, hn, fun i x v e1 e2 e3 => hl' i x v e1 (w i v e2) e3⟩, I.cell, I.free, I.freeC, I.pin, I.hok, hl.trans I.len⟩
theorem Inv.pins_of {pins' : List (Addr × Obj)} (I : Inv X pins σ H s) (h : ∀ p ∈ pins', s.heap.get? p.1 = some p.2 ∧ H p.1 = none ∧ p.1 ≠ X.env.locals ∧ p.1 ∉ X.fs ∧ ∀ v, p.2.data ≠ .cell v) : Inv X pins' σ H s :=
  ⟨I.ok, I.os, I.bare, I.base, I.loc, I.cell, I.free, I.freeC, fun p hp => (List.mem_append.mp hp).elim (fun z => I.pin p (List.mem_append_left _ z)) (h p), I.hok, I.len⟩

theorem nodup_ix {N : List Str} (hN : N.Nodup) {i j : Nat} {x : Str} (a : N[i]? = some x) (b : N[j]? = some x) : i = j := by
  obtain ⟨h1, e1⟩ := List.getElem?_eq_some_iff.mp a
  obtain ⟨h2, e2⟩ := List.getElem?_eq_some_iff.mp b
  exact (List.getElem_inj hN).mp (e1.trans e2.symm)

/-- a name is stored; what changed -/
theorem store_ok2 {M : Model} {A : Around} {E : Value → Shared → Prop} {i : Nat} {x : Str} {v : V} {u : Value} {Q : Unit → Shared → Prop} (I : Inv X pins σ H s) (hN : X.N.Nodup) (hi : X.N[i]? = some x) (hx : Loc X.env.scope x) (r : RelV v u)
    (h : ∀ s', Inv X pins (σ.set i (some v)) H s' → (∃ a, Heap.SameBut a s.heap s'.heap ∧ (a = X.env.locals ∨ X.env.cells.lookup x = some a)) → Q () s') (hf : X.fn x = true ∨ X.env.scope.names.lookup x = some .local := by first | exact .inl rfl | exact .inr rfl | assumption) : wpAny M A (storeName X.env x u) Q E s := by
  obtain ⟨m, hn, hl⟩ := id I.loc
  have hcls : (X.env.scope.kind == .class || (X.env.scope.kind == .module && X.env.locals != X.env.globals)) = false := by rw [I.ok.kind]; rfl
  have hiσ : i < σ.length := by rw [I.len]; exact (List.getElem?_eq_some_iff.mp hi).1
  have cne := I.cne
  have tracked : ∀ {a : Addr} {h' : Heap}, (∃ o, s.heap.get? a = some o ∧ H a = none) → Heap.SameBut a s.heap h' → HOk X.prog X.w H h' := fun {a h'} ha hs b ob e => by
    obtain ⟨_, _, hfree⟩ := ha
    refine (I.hok b ob e).stay (fun c w' hc q => (hs.2 c ?_).trans q) (fun _ q => q) fun _ _ q => q
    rintro rfl
    rcases hc with rfl | hc
    · rw [hfree] at e; cases e
    · rw [hfree] at hc; cases hc
  rcases hx with hk | hk
  · refine wpAny_storeName_local hk hn (fun h' hn' hs => ?_) hcls
    obtain ⟨oL, _, _, hoL, _⟩ := id hn
    refine h _ ⟨I.ok, I.os, I.bare, ⟨fun b o e n hb hx => ?_, fun b o e n hb hx => ?_, I.base.free, fun b o e hx => ?_, I.base.tups, I.base.frzs, I.base.tbls⟩, ⟨_, hn', fun j y v' e1 e2 e3 => ?_⟩, fun y c e => ?_, I.free, I.freeC, fun p hp => ?_, tracked ⟨oL, hoL, I.free⟩ hs, by simpa using I.len⟩ ⟨_, hs, .inl rfl⟩
    · exact (hs.2 b (Nat.ne_of_lt (Nat.lt_of_lt_of_le (Heap.lt_size e) I.ok.above))).trans (I.base.keep b o e n hb hx)
    · obtain ⟨sl, e1⟩ := I.base.slot b o e n hb hx
      exact ⟨sl, (hs.2 b (Nat.ne_of_lt (Nat.lt_of_lt_of_le (Heap.lt_size e) I.ok.above))).trans e1⟩
    · obtain ⟨o', e1⟩ := I.base.there b o e hx
      exact ⟨o', (hs.2 b (Nat.ne_of_lt (Nat.lt_of_lt_of_le (Heap.lt_size e) I.ok.above))).trans e1⟩
    · by_cases hj : j = i
      · subst hj
        rw [hi] at e1; cases e1
        rw [List.getElem?_set_self hiσ] at e2
        cases e2
        exact ⟨u, r, .inl ⟨hk, by simp⟩⟩
      · rw [List.getElem?_set_ne (Ne.symm hj)] at e2
        obtain ⟨u', r', q⟩ := hl j y v' e1 e2 e3
        refine ⟨u', r', ?_⟩
        rcases q with ⟨k, e⟩ | ⟨k, c, e, z⟩
        · refine .inl ⟨k, ?_⟩
          have : y ≠ x := fun e => hj (nodup_ix hN e1 (e ▸ hi))
          simp [this, e]
        · exact .inr ⟨k, c, e, z.sameBut hs (cne y c e)⟩
    · obtain ⟨w', z⟩ := I.cell y c e
      exact ⟨w', z.sameBut hs (cne y c e)⟩
    · obtain ⟨e, n, ne, nf, d⟩ := I.pin p hp
      exact ⟨(hs.2 p.1 ne).trans e, n, ne, nf, d⟩
  · have hfn : X.fn x = true := by
      rcases hf with z | z
      · exact z
      · rw [z] at hk; cases hk
    obtain ⟨c, hc⟩ := I.ok.has x (.inl hk)
    obtain ⟨w', z⟩ := I.cell x c hc
    refine wpAny_storeName_cell I.ok.kind hk hc z (fun h' hc' hs => ?_)
    obtain ⟨oc, hoc, hocd⟩ := id z
    refine h { s with heap := h' } ⟨I.ok, I.os, I.bare, ⟨fun b o e n hb hx => ?_, fun b o e n hb hx => ?_, I.base.free, fun b o e hx => ?_, I.base.tups, I.base.frzs, I.base.tbls⟩, ⟨m, hn.sameBut hs (Ne.symm (cne x c hc)), fun j y v' e1 e2 e3 => ?_⟩, fun y c' e => ?_, I.free, I.freeC, fun p hp => ?_, tracked ⟨oc, hoc, I.freeC x c hc⟩ hs, by simpa using I.len⟩ ⟨c, hs, .inr hc⟩
    · exact (hs.2 b (Nat.ne_of_lt (Nat.lt_of_lt_of_le (Heap.lt_size e) (I.ok.cab x c hfn hc)))).trans (I.base.keep b o e n hb hx)
    · obtain ⟨sl, e1⟩ := I.base.slot b o e n hb hx
      exact ⟨sl, (hs.2 b (Nat.ne_of_lt (Nat.lt_of_lt_of_le (Heap.lt_size e) (I.ok.cab x c hfn hc)))).trans e1⟩
    · obtain ⟨o', e1⟩ := I.base.there b o e hx
      exact ⟨o', (hs.2 b (Nat.ne_of_lt (Nat.lt_of_lt_of_le (Heap.lt_size e) (I.ok.cab x c hfn hc)))).trans e1⟩
    · by_cases hj : j = i
      · subst hj
        rw [hi] at e1; cases e1
        rw [List.getElem?_set_self hiσ] at e2
        cases e2
        exact ⟨u, r, .inr ⟨.inl hk, c, hc, hc'⟩⟩
      · rw [List.getElem?_set_ne (Ne.symm hj)] at e2
        obtain ⟨u', r', q⟩ := hl j y v' e1 e2 e3
        refine ⟨u', r', ?_⟩
        rcases q with q | ⟨k, c', e, z'⟩
        · exact .inl q
        · refine .inr ⟨k, c', e, z'.sameBut hs ?_⟩
          rintro rfl
          exact hj (nodup_ix hN e1 (I.ok.inj _ _ _ e hc ▸ hi))
    · by_cases hcc : c' = c
      · subst hcc; exact ⟨_, hc'⟩
      · obtain ⟨w2, z2⟩ := I.cell y c' e
        exact ⟨w2, z2.sameBut hs hcc⟩
    · obtain ⟨e, n, ne, nf, d⟩ := I.pin p hp
      refine ⟨(hs.2 p.1 ?_).trans e, n, ne, nf, d⟩
      intro q
      rw [q, hoc] at e
      have q' : oc = p.2 := Option.some.inj e
      exact d w' (by rw [← q']; exact hocd)
theorem store_ok {M : Model} {A : Around} {E : Value → Shared → Prop} {i : Nat} {x : Str} {v : V} {u : Value} {Q : Unit → Shared → Prop} (I : Inv X pins σ H s) (hN : X.N.Nodup) (hi : X.N[i]? = some x) (hx : Loc X.env.scope x) (r : RelV v u)
    (h : ∀ s', Inv X pins (σ.set i (some v)) H s' → Q () s') (hf : X.fn x = true ∨ X.env.scope.names.lookup x = some .local := by first | exact .inl rfl | exact .inr rfl | assumption) : wpAny M A (storeName X.env x u) Q E s :=
  store_ok2 I hN hi hx r (fun s' I' _ => h s' I') hf
/-- behind a call or a block, the state as it is -/
theorem Inv.call' {s' : Shared} {ch : List Addr} (I : Inv X pins σ H s) (ho : s'.os = s.os) (u : Un (frs X.stack) ch H H' s.heap s'.heap) (hok : HOk X.prog X.w H' s'.heap) (hg : AllBare s'.gens)
    (hch : ∀ b ∈ ch, (b ∈ X.ex ∨ X.s_0.heap.objs.size ≤ b) ∧ b ≠ X.env.locals ∧ (∀ x c, X.env.cells.lookup x = some c → c ≠ b) ∧ ∀ p ∈ X.pn ++ pins, p.1 ≠ b) : Inv X pins σ H' s' := by
  obtain ⟨h', g', d', t', o'⟩ := s'
  have e : o' = s.os := ho
  subst e
  exact I.call (g' := g') (t' := t') (d' := d') u hok hg hch
end

/-- an exception: its class, its own dict's address (where it has one), the abstract heap behind it -/
abbrev XK := Value → Option Addr → Hp → Prop
abbrev St := List (Option V)
abbrev VK := V → Hp → Prop
/-- an expression's reading; a test's; an argument list's -/
abbrev TE := St → Hp → VK → Prop
abbrev TT := St → Hp → (Bool → Hp → Prop) → Prop
abbrev TA := St → Hp → (List V → Hp → Prop) → Prop
/-- what is wanted behind a statement -/
structure Ends where
  nx : St → Hp → Prop
  rt : VK
  bk : St → Hp → Prop := fun _ _ => False
  ct : St → Hp → Prop := fun _ _ => False
abbrev TS := Ends → St → Hp → Prop

def EP (X : Cx) (pins : List (Addr × Obj)) (σ : St) (Q : VK) (u : Value) (s' : Shared) : Prop := ∃ v H', Inv X pins σ H' s' ∧ RelV v u ∧ Q v H'
def TP (X : Cx) (pins : List (Addr × Obj)) (σ : St) (Q : Bool → Hp → Prop) (b : Bool) (s' : Shared) : Prop := ∃ H', Inv X pins σ H' s' ∧ Q b H'
def AP (X : Cx) (pins : List (Addr × Obj)) (σ : St) (Q : List V → Hp → Prop) (us : List Value) (s' : Shared) : Prop := ∃ vs H', Inv X pins σ H' s' ∧ Vals vs us ∧ Q vs H'
def SP (X : Cx) (pins : List (Addr × Obj)) (D : Ends) (f : Flow) (s' : Shared) : Prop :=
  match f with
  | .next => ∃ σ' H', Inv X pins σ' H' s' ∧ D.nx σ' H'
  | .brk => ∃ σ' H', Inv X pins σ' H' s' ∧ D.bk σ' H'
  | .cont => ∃ σ' H', Inv X pins σ' H' s' ∧ D.ct σ' H'
  | .ret u => ∃ v σ' H', Inv X pins σ' H' s' ∧ RelV v u ∧ D.rt v H'

def PE (X : Cx) (e : Expr) (t : TE) : Prop :=
  ∀ (pins : List (Addr × Obj)) (s : Shared) (σ : St) (H : Hp) (Q : VK), Inv X pins σ H s → t σ H Q → wpAny (model X.prog X.w) X.A (eval e X.env) (EP X pins σ Q) X.xe s
def PT (X : Cx) (e : Expr) (t : TT) : Prop :=
  ∀ (pins : List (Addr × Obj)) (s : Shared) (σ : St) (H : Hp) (Q : Bool → Hp → Prop), Inv X pins σ H s → t σ H Q → wpAny (model X.prog X.w) X.A (isTrue e X.env (eval e X.env)) (TP X pins σ Q) X.xe s
/-- a test whatever its 'whole' is (and, or) -/
def PW (X : Cx) (e : Expr) (t : TT) : Prop :=
  ∀ (whole : Sem Value) (pins : List (Addr × Obj)) (s : Shared) (σ : St) (H : Hp) (Q : Bool → Hp → Prop), Inv X pins σ H s → t σ H Q → wpAny (model X.prog X.w) X.A (isTrue e X.env whole) (TP X pins σ Q) X.xe s
theorem PW.pt {X : Cx} {e : Expr} {t : TT} (h : PW X e t) : PT X e t := h _
/-- an argument list (no star), from the left -/
def PA (X : Cx) (es : List Expr) (t : TA) : Prop :=
  ∀ (pos : Pos) (pins : List (Addr × Obj)) (s : Shared) (σ : St) (H : Hp) (Q : List V → Hp → Prop), Inv X pins σ H s → t σ H Q → wpAny (model X.prog X.w) X.A (spliced (backTo pos (starEach es X.env))) (AP X pins σ Q) X.xe s
def PS (X : Cx) (st : Stmt) (t : TS) : Prop :=
  ∀ (pins : List (Addr × Obj)) (s : Shared) (σ : St) (H : Hp) (D : Ends), Inv X pins σ H s → t D σ H → wpAny (model X.prog X.w) X.A (exec st X.env) (SP X pins D) X.xe s
def PSs (X : Cx) (st : List Stmt) (t : TS) : Prop :=
  ∀ (pins : List (Addr × Obj)) (s : Shared) (σ : St) (H : Hp) (D : Ends), Inv X pins σ H s → t D σ H → wpAny (model X.prog X.w) X.A (execs st X.env) (SP X pins D) X.xe s
/-- weaken the end -/
theorem thn {α : Type} {t : Sem α} {Q Q' : α → Shared → Prop} {M : Model} {A : Around} {E : Value → Shared → Prop} {s : Shared} (h : wpAny M A t Q E s) (hQ : ∀ a s, Q a s → Q' a s) : wpAny M A t Q' E s := wpAny_mono h hQ fun _ _ x => x
end L2

namespace L2
open PySem PySem.Spec PyProof.Rows
section
variable {X : Cx}

/-- two expressions in a row -/
theorem bin {a b : Expr} {ta tb : TE} (ha : PE X a ta) (hb : PE X b tb) {pins : List (Addr × Obj)} {s : Shared} {σ : St} {H : Hp} {R : V → V → Hp → Prop} (I : Inv X pins σ H s) (h : ta σ H fun x H1 => tb σ H1 fun y H2 => R x y H2)
    {α : Type} {Q : α → Shared → Prop} {f : Value → Value → Sem α}
    (hf : ∀ v u s2 x y H2, Inv X pins σ H2 s2 → RelV x v → RelV y u → R x y H2 → wpAny (model X.prog X.w) X.A (f v u) Q X.xe s2) :
    wpAny (model X.prog X.w) X.A (eval a X.env) (fun v s₁ => wpAny (model X.prog X.w) X.A (eval b X.env) (fun u s₂ => wpAny (model X.prog X.w) X.A (f v u) Q X.xe s₂) X.xe s₁) X.xe s := by
  refine thn (ha pins s σ H _ I h) fun v s1 ⟨x, H1, I1, r1, q1⟩ => ?_
  refine thn (hb pins s1 σ H1 _ I1 q1) fun u s2 ⟨y, H2, I2, r2, q2⟩ => ?_
  exact hf v u s2 x y H2 I2 r1 r2 q2

def tVar (i : Nat) : TE := fun σ H Q => ∃ v, σ[i]? = some (some v) ∧ Q v H
def tC (v : V) : TE := fun _ H Q => Q v H
theorem pe_var {i : Nat} {x : Str} {pos : Pos} (hN : X.N[i]? = some x) (hv : Vis X.env.scope x) (hd : (x == ("__debug__" : Str)) = false := by decide) (hcd : (x == ("__classdict__" : Str)) = false := by decide) : PE X (.Name x pos) (tVar i) := by
  intro pins s σ H Q I h
  obtain ⟨v, e, h⟩ := h
  obtain ⟨m, hn, hl⟩ := I.loc
  obtain ⟨u, r, l⟩ := hl i x v hN e hv
  have fin : EP X pins σ Q u s := ⟨v, H, I, r, h⟩
  rcases l with ⟨hk, hm⟩ | ⟨hk, c, hc, hcell⟩
  · exact wpAny_Name (wpAny_loadName_local I.ok.kind hk hn hm fin) hd
  · rcases hk with hk | hk
    · exact wpAny_Name (wpAny_loadName_cell I.ok.kind hk hc hcell fin) hd
    · exact wpAny_Name (wpAny_loadName_free I.ok.kind hk hc hcell fin hcd) hd
theorem pe_int {i j pos} : PE X (.Constant (.int i) j pos) (tC (.int i)) := fun _ _ _ H _ I h => wpAny_Constant_int ⟨.int i, H, I.tok _, ⟨_, rfl⟩, h⟩
theorem pe_bl {b j pos} : PE X (.Constant (.bool b) j pos) (tC (.bl b)) := fun _ _ _ H _ I h => Constant_bool ⟨.bl b, H, I, rfl, h⟩
/-- a global name of the def -/
def Gl (X : Cx) (x : Str) : Prop := X.env.kindOf x = some .globalImplicit
theorem ld_glob {E : Value → Shared → Prop} {pins : List (Addr × Obj)} {s : Shared} {σ : St} {H : Hp} {x : Str} {u : Value} {pos : Pos} {Q : Value → Shared → Prop} (I : Inv X pins σ H s) (hg : Gl X x) (hm : X.mg x = some u) (h : Q u s)
    (hd : (x == ("__debug__" : Str)) = false := by decide) : wpAny (model X.prog X.w) X.A (eval (.Name x pos) X.env) Q E s :=
  Calls.Name_function_global I.ok.kind hg (Calls.loadGlobal_global (by rw [I.ok.glob]; exact I.mod.glob.keeps I.bk) hm h) hd
theorem ld_blt {E : Value → Shared → Prop} {pins : List (Addr × Obj)} {s : Shared} {σ : St} {H : Hp} {x : Str} {u : Value} {pos : Pos} {Q : Value → Shared → Prop} (I : Inv X pins σ H s) (hg : Gl X x) (hm : X.mg x = none) (hv : bootBuiltins x = some u) (h : Q u s)
    (hn : x ≠ "__name__" := by decide) (hd : (x == ("__debug__" : Str)) = false := by decide) : wpAny (model X.prog X.w) X.A (eval (.Name x pos) X.env) Q E s := by
  obtain ⟨mb, h1, h2⟩ := I.mod.blt
  exact Calls.Name_function_global I.ok.kind hg (Calls.loadGlobal_builtin (by rw [I.ok.glob]; exact I.mod.glob.keeps I.bk) hm (by rw [I.ok.blt]; exact h1.keeps I.bk) ((h2 x hn).trans hv) h) hd
/-- a module's constant, a class, a function, as a value -/
theorem pe_glob {x : Str} {v : V} {u : Value} {pos : Pos} (hg : Gl X x) (hm : X.mg x = some u) (r : RelV v u) (hd : (x == ("__debug__" : Str)) = false := by decide) : PE X (.Name x pos) (tC v) :=
  fun _ _ _ H _ I h => ld_glob I hg hm ⟨v, H, I, r, h⟩ hd
/-- two natInts -/
def t2I (ta tb : TE) (k : Int → Int → Hp → Prop) : St → Hp → Prop := fun σ H => ta σ H fun x H1 => tb σ H1 fun y H2 => ∃ i j, x = .int i ∧ y = .int j ∧ k i j H2
variable {a b : Expr} {ta tb : TE} {pos : Pos}
def PC (X : Cx) (op : CmpOp) (a b : Expr) (t : TE) : Prop :=
  ∀ (pins : List (Addr × Obj)) (s : Shared) (σ : St) (H : Hp) (Q : VK), Inv X pins σ H s → t σ H Q →
    wpAny (model X.prog X.w) X.A (eval a X.env) (fun v s₁ => wpAny (model X.prog X.w) X.A (eval b X.env) (fun u s₂ => wpAny (model X.prog X.w) X.A (compareOp op v u) (EP X pins σ Q) X.xe s₂) X.xe s₁) X.xe s
theorem nobehind (b : Expr) {op : CmpOp} (h : op ≠ .In) (h2 : op ≠ .NotIn) : behindInMarks op b = false := by
  have e1 : (op == CmpOp.In) = false := by cases op <;> first | rfl | exact absurd rfl h
  have e2 : (op == CmpOp.NotIn) = false := by cases op <;> first | rfl | exact absurd rfl h2
  cases b <;> simp [behindInMarks, e1, e2]
def tCmp (p : Int → Int → Bool) (ta tb : TE) : TE := fun σ H Q => t2I ta tb (fun i j H2 => Q (.bl (p i j)) H2) σ H
abbrev tLt : TE → TE → TE := tCmp fun i j => decide (i < j)
abbrev tGt : TE → TE → TE := tCmp fun i j => decide (j < i)
abbrev tGe : TE → TE → TE := tCmp fun i j => decide (j ≤ i)
abbrev tEqI : TE → TE → TE := tCmp fun i j => decide (i = j)
abbrev tNeI : TE → TE → TE := tCmp fun i j => !decide (i = j)
/-- a comparison of two natInts, by its rule -/
theorem pc_int {op : CmpOp} {p : Int → Int → Bool} (ha : PE X a ta) (hb : PE X b tb)
    (rule : ∀ (i j : Int) (t u : Tok) (Q : Value → Shared → Prop) (s : Shared), Q (.bool (p i j)) s → wpAny (model X.prog X.w) X.A (compareOp op (.int i t) (.int j u)) Q X.xe s) : PC X op a b (tCmp p ta tb) := by
  intro pins s σ H Q I h
  refine bin ha hb I h fun v u s2 x y H2 I2 rx ry q => ?_
  obtain ⟨i, j, rfl, rfl, q⟩ := q
  obtain ⟨t, rfl⟩ := rx
  obtain ⟨t', rfl⟩ := ry
  exact rule i j t t' _ s2 ⟨.bl _, H2, I2, rfl, q⟩
theorem pc_lt (ha : PE X a ta) (hb : PE X b tb) : PC X .Lt a b (tLt ta tb) := pc_int ha hb fun _ _ _ _ _ _ h => lt_int h
theorem pc_gt (ha : PE X a ta) (hb : PE X b tb) : PC X .Gt a b (tGt ta tb) := pc_int ha hb fun _ _ _ _ _ _ h => gt_int h
theorem pc_ge (ha : PE X a ta) (hb : PE X b tb) : PC X .GtE a b (tGe ta tb) := pc_int ha hb fun _ _ _ _ _ _ h => ge_int h
theorem pc_eqI (ha : PE X a ta) (hb : PE X b tb) : PC X .Eq a b (tEqI ta tb) := pc_int ha hb fun _ _ _ _ _ _ h => eq_int (by rw [Bool.beq_eq_decide_eq]; exact h)
theorem pc_neI (ha : PE X a ta) (hb : PE X b tb) : PC X .NotEq a b (tNeI ta tb) := pc_int ha hb fun _ _ _ _ _ _ h => ne_int (by rw [bne, Bool.beq_eq_decide_eq]; exact h)
/-- a comparison as a value, as a test -/
def tB (t : TE) : TT := fun σ H Q => t σ H fun x H1 => ∃ c, x = .bl c ∧ Q c H1
theorem pe_cmp {op : CmpOp} {t : TE} (h : PC X op a b t) (h1 : behindInMarks op b = false := by first | exact nobehind _ (by decide) (by decide) | rfl) : PE X (.Compare a [op] [b] pos) t := fun pins s σ H Q I hw => wpAny_Compare1 (h pins s σ H Q I hw) h1
theorem pt_cmp {op : CmpOp} {t : TE} (h : PC X op a b t) (h1 : behindInMarks op b = false := by first | exact nobehind _ (by decide) (by decide) | rfl) : PT X (.Compare a [op] [b] pos) (tB t) := by
  intro pins s σ H Q I hw
  refine wpAny_isTrue_Compare1 (thn (h pins s σ H _ I hw) fun v s1 h1 => thn h1 fun u s2 h2 => thn h2 fun c s3 ⟨x, H1, I1, r1, q1⟩ => ?_) h1
  obtain ⟨d, rfl, q⟩ := q1
  cases r1
  exact wpAny_truthy_bool ⟨H1, I1, q⟩
/-- an expression whose value is a bool, as a test -/
theorem pt_val {e : Expr} {t : TE} (h : PE X e t) (he : ∀ whole, isTrue e X.env whole = (do let v ← whole; standAt e.pos; holding [v] (truthy v)) := by intro _; rfl) : PT X e (tB t) := by
  intro pins s σ H Q I hw
  refine isTrue_plain (thn (h pins s σ H _ I hw) fun v s1 ⟨x, H1, I1, r1, q1⟩ => ?_) (he _)
  obtain ⟨d, rfl, q⟩ := q1
  cases r1
  exact wpAny_truthy_bool ⟨H1, I1, q⟩

variable {tA tB' : TT} {rest : List Expr}
def tAnd (t u : TT) : TT := fun σ H Q => t σ H fun c H1 => if c = true then u σ H1 Q else Q false H1
def tOr (t u : TT) : TT := fun σ H Q => t σ H fun c H1 => if c = true then Q true H1 else u σ H1 Q
def tNot (t : TT) : TT := fun σ H Q => t σ H fun c H1 => Q (!c) H1
theorem pw_and1 (ha : PT X a tA) : PW X (.BoolOp .And [a] pos) tA := by
  intro wh pins s σ H Q I h
  refine isTrue_and (thn (ha pins s σ H Q I h) fun c s1 e => ?_)
  cases c with
  | true => exact isTrue_and_nil e
  | false => exact e
theorem pw_or1 (ha : PT X a tA) : PW X (.BoolOp .Or [a] pos) tA := by
  intro wh pins s σ H Q I h
  refine isTrue_or (thn (ha pins s σ H Q I h) fun c s1 e => ?_)
  cases c with
  | false => exact isTrue_or_nil e
  | true => exact e
theorem pw_and (ha : PT X a tA) (hb : PW X (.BoolOp .And (b :: rest) pos) tB') : PW X (.BoolOp .And (a :: b :: rest) pos) (tAnd tA tB') := by
  intro wh pins s σ H Q I h
  refine isTrue_and (thn (ha pins s σ H _ I h) fun c s1 ⟨H1, I1, q1⟩ => ?_)
  cases c with
  | true => exact hb wh pins s1 σ H1 Q I1 q1
  | false => exact ⟨H1, I1, q1⟩
theorem pw_or (ha : PT X a tA) (hb : PW X (.BoolOp .Or (b :: rest) pos) tB') : PW X (.BoolOp .Or (a :: b :: rest) pos) (tOr tA tB') := by
  intro wh pins s σ H Q I h
  refine isTrue_or (thn (ha pins s σ H _ I h) fun c s1 ⟨H1, I1, q1⟩ => ?_)
  cases c with
  | true => exact ⟨H1, I1, q1⟩
  | false => exact hb wh pins s1 σ H1 Q I1 q1
theorem pt_not (ha : PT X a tA) : PT X (.UnaryOp .Not a pos) (tNot tA) := by
  intro pins s σ H Q I h
  exact isTrue_not (ha pins s σ H (fun c H1 => Q (!c) H1) I h)
def tOrV (ta tb : TE) : TE := fun σ H Q => ta σ H fun x H1 => ∃ c, x = .bl c ∧ if c = true then Q (.bl true) H1 else tb σ H1 Q
theorem pe_one {op} {t : TE} (h : PE X a t) : PE X (.BoolOp op [a] pos) t := fun pins s σ H Q I hw => BoolOp_one (h pins s σ H Q I hw)
theorem pe_or (ha : PE X a ta) (hb : PE X (.BoolOp .Or (b :: rest) pos) tb) : PE X (.BoolOp .Or (a :: b :: rest) pos) (tOrV ta tb) := by
  intro pins s σ H Q I h
  refine BoolOp_or (thn (ha pins s σ H _ I h) fun v s1 ⟨x, H1, I1, r1, q1⟩ => ?_)
  obtain ⟨c, rfl, q1⟩ := q1
  cases r1
  refine wpAny_truthy_bool ?_
  cases c with
  | false => exact hb pins s1 σ H1 Q I1 q1
  | true => exact ⟨.bl true, H1, I1, rfl, q1⟩
/-- a if t else b -/
def tIf (t : TT) (ta tb : TE) : TE := fun σ H Q => t σ H fun c H1 => if c = true then ta σ H1 Q else tb σ H1 Q
theorem pe_ifExp {c : Expr} (hc : PT X c tA) (ha : PE X a ta) (hb : PE X b tb) : PE X (.IfExp c a b pos) (tIf tA ta tb) := by
  intro pins s σ H Q I h
  refine wpAny_IfExp (thn (hc pins s σ H _ I h) fun d s1 ⟨H1, I1, q1⟩ => ?_)
  cases d with
  | true => exact ha pins s1 σ H1 Q I1 q1
  | false => exact hb pins s1 σ H1 Q I1 q1
end
end L2

namespace L2
open PySem PySem.Spec PyProof.Rows

def SqL (K : PySem.W.Frag) (H : Hp) (a : Addr) (xs : List V) : Prop :=
  Rd H a (.lst xs) ∨
    ∃ (o : Obj) (its : Array Value) (n : Nat), K.lookup a = some o ∧ o.cls = .type "list" ∧ o.dict = none ∧ o.data = .seq its n ∧ its.size ≤ sizeLine ∧ Vals xs its.toList
def SqT (K : PySem.W.Frag) (H : Hp) (a : Addr) (xs : List V) : Prop :=
  Rd H a (.tup xs) ∨
    ∃ (o : Obj) (its : Array Value) (n : Nat), K.lookup a = some o ∧ o.cls = .type "tuple" ∧ o.data = .seq its n ∧ its.size ≤ sizeLine ∧ Vals xs its.toList
def absV : Value → Option V
  | .none => some .non
  | .bool b => some (.bl b)
  | .int i _ => some (.int i)
  | .str x _ => some (.str x)
  | .bytes b _ => some (.byt b)
  | .float b _ => some (.flt b)
  | .ref a => some (.ref a)
  | .type n => some (.ty n)
  | _ => none
theorem RelV.abs {x : V} {u : Value} (r : RelV x u) : absV u = some x := by
  cases x with
  | non => cases r; rfl
  | bl _ => cases r; rfl
  | int _ => obtain ⟨t, rfl⟩ := r; rfl
  | str _ => obtain ⟨t, rfl⟩ := r; rfl
  | byt _ => obtain ⟨t, rfl⟩ := r; rfl
  | flt _ => obtain ⟨t, rfl⟩ := r; rfl
  | ref _ => cases r; rfl
  | ty _ => cases r; rfl
theorem RelV.inj {x y : V} {u : Value} (r : RelV x u) (q : RelV y u) : x = y := Option.some.inj (r.abs.symm.trans q.abs)
theorem Vals.inj : ∀ {xs ys : List V} {us : List Value}, Vals xs us → Vals ys us → xs = ys
  | _, _, _, .nil, .nil => rfl
  | _, _, _, .cons r t, .cons r' t' => by rw [r.inj r', Vals.inj t t']
section
variable {X : Cx} {pins : List (Addr × Obj)} {σ : St} {H : Hp} {s : Shared} {a : Addr} {xs ys : List V}
theorem SqL.of {K : PySem.W.Frag} (h : H a = some (.lst xs)) : SqL K H a xs := .inl (.inl h)
theorem SqT.of {K : PySem.W.Frag} (h : H a = some (.tup xs)) : SqT K H a xs := .inl (.inl h)
theorem Inv.list (I : Inv X pins σ H s) (h : SqL X.K H a xs) : ∃ its : List Value, Vals xs its ∧ PlainL s.heap a its.toArray ∧ xs.length ≤ sizeLine := by
  rcases h with h | ⟨o, its, n, hk, hc, hd, hs, hz, r⟩
  · obtain ⟨z, its, n, r, e⟩ := h.ok I.hok
    exact ⟨its, r, ⟨_, n, e, rfl, rfl, rfl⟩, z⟩
  · refine ⟨its.toList, r, ⟨o, n, I.kIn a o hk, hc, hd, by simpa using hs⟩, ?_⟩
    have e := r.length
    simp only [Array.length_toList] at e
    omega
theorem Inv.tuple (I : Inv X pins σ H s) (h : SqT X.K H a xs) : ∃ its : List Value, Vals xs its ∧ IsTup s.heap a its.toArray ∧ xs.length ≤ sizeLine := by
  rcases h with h | ⟨o, its, n, hk, hc, hs, hz, r⟩
  · obtain ⟨z, its, r, p⟩ := h.ok I.hok
    exact ⟨its, r, p, z⟩
  · refine ⟨its.toList, r, ⟨o, I.kIn a o hk, hc, n, by simpa using hs⟩, ?_⟩
    have e := r.length
    simp only [Array.length_toList] at e
    omega
theorem Inv.list_inj (I : Inv X pins σ H s) (h : SqL X.K H a xs) (h' : SqL X.K H a ys) : xs = ys := by
  obtain ⟨its, r, ⟨o, n, e, _, _, d⟩, _⟩ := I.list h
  obtain ⟨its', r', ⟨o', n', e', _, _, d'⟩, _⟩ := I.list h'
  rw [e] at e'; cases e'
  rw [d] at d'
  injection d' with d1 _
  have : its = its' := by simpa using congrArg Array.toList d1
  subst this
  exact r.inj r'
end

abbrev Cx.wish (X : Cx) (E : Value → Shared → Prop) : Cx := { X with xe := E }
/-- no exception leaves -/
abbrev Cx.nox (X : Cx) : Cx := X.wish fun _ _ => False
theorem Cx.Ok.wish {X : Cx} (ok : X.Ok) (E : Value → Shared → Prop) : (X.wish E).Ok :=
  ⟨ok.mod, ok.kind, ok.glob, ok.blt, ok.above, ok.inj, ok.has, ok.cab, ok.hd, ok.frames, ok.stk, ok.exf, ok.bs, ok.bsz, ok.noex, ok.exfs, ok.funs, ok.frf⟩
theorem Cx.Ok.unwish {X : Cx} {E : Value → Shared → Prop} (ok : (X.wish E).Ok) : X.Ok :=
  ⟨ok.mod, ok.kind, ok.glob, ok.blt, ok.above, ok.inj, ok.has, ok.cab, ok.hd, ok.frames, ok.stk, ok.exf, ok.bs, ok.bsz, ok.noex, ok.exfs, ok.funs, ok.frf⟩
section
variable {X : Cx} {pins : List (Addr × Obj)} {σ : St} {H : Hp} {s : Shared} {E : Value → Shared → Prop}
theorem Inv.wish (I : Inv X pins σ H s) (E : Value → Shared → Prop) : Inv (X.wish E) pins σ H s := ⟨I.ok.wish E, I.os, I.bare, I.base, I.loc, I.cell, I.free, I.freeC, I.pin, I.hok, I.len⟩
theorem Inv.unwish (I : Inv (X.wish E) pins σ H s) : Inv X pins σ H s := ⟨I.ok.unwish, I.os, I.bare, I.base, I.loc, I.cell, I.free, I.freeC, I.pin, I.hok, I.len⟩
theorem SP.unwish {D : Ends} {f : Flow} {s' : Shared} (h : SP (X.wish E) pins D f s') : SP X pins D f s' := by
  cases f with
  | next => obtain ⟨σ', H', I, q⟩ := h; exact ⟨σ', H', I.unwish, q⟩
  | brk => obtain ⟨σ', H', I, q⟩ := h; exact ⟨σ', H', I.unwish, q⟩
  | cont => obtain ⟨σ', H', I, q⟩ := h; exact ⟨σ', H', I.unwish, q⟩
  | ret u => obtain ⟨v, σ', H', I, r, q⟩ := h; exact ⟨v, σ', H', I.unwish, r, q⟩
theorem PSs.nox {st : List Stmt} {t : TS} (h : PSs X.nox st t) : PSs X st t := fun pins s σ H D I hw =>
  wpAny_mono (h pins s σ H D (I.wish _) hw) (fun _ _ q => q.unwish) fun _ _ z => False.elim z
end

section
variable {X : Cx} {st : Stmt} {rest : List Stmt} {t u : TS} {e : Expr} {te : TE} {pos : Pos}
def tNext : TS := fun D σ H => D.nx σ H
def tSeq (t u : TS) : TS := fun D σ H => t { D with nx := u D } σ H
theorem pss_nil : PSs X [] tNext := fun _ _ σ H _ I h => wpAny_execs_nil ⟨σ, H, I, h⟩
theorem pss_cons (h1 : PS X st t) (h2 : PSs X rest u) : PSs X (st :: rest) (tSeq t u) := by
  intro pins s σ H D I h
  refine wpAny_execs_cons (thn (h1 pins s σ H { D with nx := u D } I h) fun f s1 q => ?_)
  cases f with
  | next =>
    obtain ⟨σ', H', I', q⟩ := q
    exact h2 pins s1 σ' H' D I' q
  | ret v => exact q
  | brk => exact q
  | cont => exact q
theorem pss_one (h1 : PS X st t) : PSs X [st] t := by
  intro pins s σ H D I h
  refine wpAny_execs_cons (thn (h1 pins s σ H D I h) fun f s1 q => ?_)
  cases f with
  | next => exact wpAny_execs_nil q
  | ret v => exact q
  | brk => exact q
  | cont => exact q
def tRet (te : TE) : TS := fun D σ H => te σ H D.rt
theorem ps_ret (he : PE X e te) : PS X (.Return (some e) pos) (tRet te) := by
  intro pins s σ H D I h
  exact wpAny_Return_some (thn (he pins s σ H _ I h) fun v s1 ⟨x, H1, I1, r1, q1⟩ => ⟨x, σ, H1, I1, r1, q1⟩)
def tIfS (c : TT) (t u : TS) : TS := fun D σ H => c σ H fun b H1 => if b = true then t D σ H1 else u D σ H1
theorem ps_if {c : Expr} {a b : List Stmt} {tc : TT} (hc : PT X c tc) (ha : PSs X a t) (hb : PSs X b u) : PS X (.If c a b pos) (tIfS tc t u) := by
  intro pins s σ H D I h
  refine wpAny_If (thn (hc pins s σ H _ I h) fun d s1 ⟨H1, I1, q1⟩ => ?_)
  cases d with
  | true => exact ha pins s1 σ H1 D I1 q1
  | false => exact hb pins s1 σ H1 D I1 q1
end

abbrev TG := V → St → Hp → (St → Hp → Prop) → Prop
def PG (X : Cx) (target : Expr) (t : TG) : Prop :=
  ∀ (pins : List (Addr × Obj)) (s : Shared) (σ : St) (H : Hp) (v : V) (u : Value) (Q : St → Hp → Prop), Inv X pins σ H s → RelV v u → t v σ H Q →
    wpAny (model X.prog X.w) X.A (assign target X.env u) (fun _ s' => ∃ σ' H', Inv X pins σ' H' s' ∧ Q σ' H') X.xe s
section
variable {X : Cx} {pos : Pos}
def gName (i : Nat) : TG := fun v σ H Q => Q (σ.set i (some v)) H
theorem pg_name {i : Nat} {x : Str} (hN : X.N.Nodup) (hi : X.N[i]? = some x) (hx : Loc X.env.scope x) (hf : X.fn x = true ∨ X.env.scope.names.lookup x = some .local := by first | exact .inl rfl | exact .inr rfl | assumption) : PG X (.Name x pos) (gName i) := by
  intro pins s σ H v u Q I r h
  exact wpAny_assign_Name (store_ok I hN hi hx r (fun s' I' => ⟨_, H, I', h⟩) hf)
/-- target = value -/
def tAsg (te : TE) (g : TG) : TS := fun D σ H => te σ H fun x H1 => g x σ H1 D.nx
/-- name = value -/
theorem ps_set {i : Nat} {x : Str} {e : Expr} {te : TE} {pos' : Pos} (hN : X.N.Nodup) (hi : X.N[i]? = some x) (hx : Loc X.env.scope x) (he : PE X e te) (hs : swapsWith e (some (.Name x pos')) pos.line X.env = pure false := by rfl) (hf : X.fn x = true ∨ X.env.scope.names.lookup x = some .local := by first | exact .inl rfl | exact .inr rfl | assumption) :
    PS X (.Assign [.Name x pos'] e pos) (tAsg te (gName i)) := by
  intro pins s σ H D I h
  refine wpAny_Assign_Name (thn (he pins s σ H _ I h) fun v s1 ⟨y, H1, I1, r1, q1⟩ => ?_) hs
  exact store_ok I1 hN hi hx r1 (fun s2 I2 => ⟨_, H1, I2, q1⟩) hf
end

section
variable {X : Cx} {pos : Pos}
end

/-- at turn i: it yields x (the heap may grow), or it stops -/
structure It where
  go : Nat → Hp → Prop
  yld : Nat → Hp → V → Hp → Prop
  stop : Nat → Hp → Prop
/-- the iterator's own objects may turn: they are not the frame's, not pinned, younger than the entry (or a comprehension's own) -/
def FpOk (X : Cx) (pins : List (Addr × Obj)) (H : Hp) (b : Addr) : Prop :=
  H b = none ∧ b ≠ X.env.locals ∧ b ∉ X.fs ∧ (b ∈ X.ex ∨ X.s_0.heap.objs.size ≤ b) ∧ (∀ x c, X.env.cells.lookup x = some c → c ≠ b) ∧ ∀ p ∈ X.pn ++ pins, p.1 ≠ b
theorem Inv.fpOk {X : Cx} {pins : List (Addr × Obj)} {σ : St} {H H' : Hp} {s : Shared} {b : Addr} (I : Inv X pins σ H s) (hb : s.heap.objs.size ≤ b) (hn : H' b = none) : FpOk X pins H' b := by
  refine ⟨hn, Nat.ne_of_gt (Nat.lt_of_lt_of_le I.lt hb), I.nofs hb, .inr (Nat.le_trans I.sz hb), fun x c e z => ?_, fun p hp z => ?_⟩
  · obtain ⟨v, q⟩ := I.cell x c e
    exact absurd (Nat.lt_of_lt_of_le q.lt (by rw [z]; exact hb)) (Nat.lt_irrefl _)
  · exact absurd (Nat.lt_of_lt_of_le (Heap.lt_size (I.pin p hp).1) (by rw [z]; exact hb)) (Nat.lt_irrefl _)
structure Turn (P : Program) (w : World) (K : PySem.W.Frag) (tg : Expr) (J : It) (fp : List Addr) (it : Addr) (tn : Nat → Heap → Prop) : Prop where
  mem : it ∈ fp
  obj : ∀ i h, tn i h → ∀ b ∈ fp, ∃ o, h.get? b = some o ∧ ∀ v, o.data ≠ .cell v
  keep : ∀ i h h', tn i h → (∀ b ∈ fp, ∀ o, h.get? b = some o → h'.get? b = some o) → tn i h'
  item : ∀ (X : Cx), X.prog = P → X.w = w → X.K = K → X.calm = true → ∀ (i : Nat) (pins : List (Addr × Obj)) (s : Shared) (σ : St) (H : Hp) (E : Value → Shared → Prop), Inv X pins σ H s → (∀ b ∈ fp, FpOk X pins H b) → tn i s.heap → J.go i H →
    wpAny (model P w) X.A (pyNext (.ref it)) (fun r s1 => ∃ u, r = some u ∧
      wpAny (model P w) X.A (letOwnedTupleGo tg (.ref it) u) (fun _ s2 => ∃ x H', Inv X pins σ H' s2 ∧ RelV x u ∧ J.yld i H x H' ∧ tn (i + 1) s2.heap ∧ ∀ b ∈ fp, H' b = none) E s1) E s
  done : ∀ (X : Cx), X.prog = P → X.w = w → X.K = K → X.calm = true → ∀ (i : Nat) (pins : List (Addr × Obj)) (s : Shared) (σ : St) (H : Hp) (E : Value → Shared → Prop), Inv X pins σ H s → (∀ b ∈ fp, FpOk X pins H b) → tn i s.heap → J.stop i H →
    wpAny (model P w) X.A (pyNext (.ref it)) (fun r s1 => r = none ∧ Inv X pins σ H s1) E s
  self : ∀ (A : Around) (i : Nat) (s : Shared) (Q : Value → Shared → Prop) (E : Value → Shared → Prop), tn i s.heap → Q (.ref it) s → wpAny (model P w) A (pyIter (.ref it)) Q E s
abbrev TI := St → Hp → (It → Hp → Prop) → Prop
/-- an iterator has come -/
def PIE (X : Cx) (pins : List (Addr × Obj)) (σ : St) (tg : Expr) (R : It → Hp → Prop) (itv : Value) (s2 : Shared) : Prop :=
  ∃ (it : Addr) (fp : List Addr) (tn : Nat → Heap → Prop) (J : It) (H' : Hp), itv = .ref it ∧ Inv X pins σ H' s2 ∧ Turn X.prog X.w X.K tg J fp it tn ∧ tn 0 s2.heap ∧ (∀ b ∈ fp, FpOk X pins H' b) ∧ R J H'
def PI (X : Cx) (tg iter : Expr) (wi : TI) : Prop :=
  ∀ (pins : List (Addr × Obj)) (s : Shared) (σ : St) (H : Hp) (R : It → Hp → Prop), Inv X pins σ H s → wi σ H R →
    wpAny (model X.prog X.w) X.A (eval iter X.env) (fun v s1 => wpAny (model X.prog X.w) X.A (pyIter v) (PIE X pins σ tg R) X.xe s1) X.xe s

/-- the step ahead of the store is nothing for an iterator that keeps no tuple -/
theorem go_of {M : Model} {A : Around} {E : Value → Shared → Prop} {s : Shared} {tg : Expr} {it : Addr} {u : Value} {o : Obj} {n : String} {vs : Array Value} {Q : Unit → Shared → Prop} (ho : s.heap.get? it = some o) (hc : o.cls = .type n) (hd : o.data = .fields vs)
    (hn : ["enumerate", "zip", "dict_itemiterator", "dict_reverseitemiterator", "odict_iterator", "itertools.zip_longest", "itertools.pairwise"].contains n = false) (hQ : Q () s) : wpAny M A (letOwnedTupleGo tg (.ref it) u) Q E s := by
  unfold letOwnedTupleGo
  cases tg <;> first
    | exact wpAny_pure hQ
    | (cases u <;> first
        | exact wpAny_pure hQ
        | (refine wpAny_bind (wpAny_load ho ?_)
           rw [hc, hd]
           show wpAny M A (if (["enumerate", "zip", "dict_itemiterator", "dict_reverseitemiterator", "odict_iterator", "itertools.zip_longest", "itertools.pairwise"].contains n && vs[0]? == some (rawInt _)) = true then _ else _) Q E s
           rw [if_neg (by intro h; rw [hn, Bool.false_and] at h; cases h)]
           exact wpAny_pure hQ))

/-- the list at a, as it stands at each turn (a loop may append to it) -/
def Itl (K : PySem.W.Frag) (a : Addr) : It :=
  ⟨fun i H => ∃ xs x, SqL K H a xs ∧ xs[i]? = some x, fun i H x H' => H' = H ∧ ∀ xs, SqL K H a xs → xs[i]? = some x, fun i H => ∃ xs, SqL K H a xs ∧ xs.length ≤ i⟩
theorem turn_list {P : Program} {w : World} {K : PySem.W.Frag} {tg : Expr} (a it : Addr) : Turn P w K tg (Itl K a) [it] it (fun i h => h.IsListIter it a i) where
  mem := by simp
  obj := fun i h st b hb => by
    have e : b = it := by simpa using hb
    subst e
    obtain ⟨o, e, c, d⟩ := st
    exact ⟨o, e, fun v z => by rw [d] at z; cases z⟩
  keep := fun i h h' st k => st.at fun o e => k it (by simp) o e
  item := by
    intro X hP hw hK hc i pins s σ H E I hf st hg
    subst hP hw hK
    obtain ⟨xs, x, hq, hx⟩ := hg
    obtain ⟨its, rv, p, hz⟩ := I.list hq
    obtain ⟨u, hu, ru⟩ := rv.get hx
    obtain ⟨f0, f1, f2, f3, f4, f5⟩ := hf it (by simp)
    refine wpAny_pyNext_list_item st p.isList (x := u) (by simpa using hu) fun h' st' sb => ?_
    have I1 : Inv X pins σ H { s with heap := h' } := I.turned (t' := s.toks) (fun b o hb e => (sb.2 b hb).trans e) f0 f1 f3 f4 f5
    obtain ⟨o, e, c, d⟩ := id st'
    exact ⟨u, rfl, go_of (s := { s with heap := h' }) e c d (by decide) ⟨x, H, I1, ru, ⟨rfl, fun ys hy => by rw [I.list_inj hy hq]; exact hx⟩, st', fun b hb => (hf b hb).1⟩⟩
  done := by
    intro X hP hw hK hc i pins s σ H E I hf st hg
    subst hP hw hK
    obtain ⟨xs, hq, hx⟩ := hg
    obtain ⟨its, rv, p, hz⟩ := I.list hq
    obtain ⟨f0, f1, f2, f3, f4, f5⟩ := hf it (by simp)
    have hl := rv.length
    exact wpAny_pyNext_list_end (I.ok.hd hc) st p.isList (by simp; omega) fun h' eb => ⟨rfl, I.turned (t' := s.toks) (fun b o hb e => eb b o hb e) f0 f1 f3 f4 f5⟩
  self := fun _ _ _ _ _ st h => wpAny_pyIter_listiter st h
end L2

namespace L2
open PySem PySem.Spec PyProof.Rows
section
variable {X : Cx} {tg : Expr}
def iList (K : PySem.W.Frag) (tl : TE) : TI := fun σ H R => tl σ H fun x H1 => ∃ a, x = .ref a ∧ (∃ xs, SqL K H1 a xs) ∧ R (Itl K a) H1
theorem pi_list {l : Expr} {tl : TE} (hl : PE X l tl) : PI X tg l (iList X.K tl) := by
  intro pins s σ H R I h
  refine thn (hl pins s σ H _ I h) fun v s1 ⟨x, H1, I1, r1, q1⟩ => ?_
  obtain ⟨a, e, ⟨xs, hq⟩, q⟩ := q1
  subst e
  cases r1
  obtain ⟨its, rv, p, hz⟩ := I1.list hq
  refine wpAny_pyIter_list p.isList ?_
  refine ⟨s1.heap.objs.size, [s1.heap.objs.size], _, _, H1, rfl, I1.kept (t' := s1.toks) fun b o e => Heap.get?_push_of_some _ e, turn_list a _, ⟨_, Heap.get?_push_size _ rfl, rfl, rfl⟩, fun b hb => ?_, q⟩
  have e : b = s1.heap.objs.size := by simpa using hb
  subst e
  exact I1.fpOk (Nat.le_refl _) (I1.hok.fresh (Nat.le_refl _))
/-- W: the invariant by the turn and a measure; N: what the body is to reach -/
def tFor (wi : TI) (g : TG) (tb : TS) : TS := fun D σ H => wi σ H fun J H1 => ∃ W : Nat → Nat → St → Hp → Prop, (∃ m, W 0 m σ H1) ∧ ∀ i m σ H, W i m σ H →
  (J.stop i H ∧ D.nx σ H) ∨ (J.go i H ∧ ∃ N : St → Hp → Prop, (∀ σ' H', N σ' H' → ∃ m', m' < m ∧ W (i + 1) m' σ' H') ∧ ∀ x H', J.yld i H x H' → g x σ H' fun σ2 H2 => tb { D with nx := N, ct := N, bk := D.nx } σ2 H2)
/-- the records at fp as they stand -/
def pinsAt (fp : List Addr) (h : Heap) : List (Addr × Obj) := fp.filterMap fun b => (h.get? b).map fun o => (b, o)
theorem mem_pinsAt {fp : List Addr} {h : Heap} {b : Addr} {o : Obj} (hb : b ∈ fp) (e : h.get? b = some o) : (b, o) ∈ pinsAt fp h := List.mem_filterMap.mpr ⟨b, hb, by rw [e]; rfl⟩
theorem of_pinsAt {fp : List Addr} {h : Heap} {p : Addr × Obj} (hp : p ∈ pinsAt fp h) : p.1 ∈ fp ∧ h.get? p.1 = some p.2 := by
  obtain ⟨b, hb, e⟩ := List.mem_filterMap.mp hp
  cases q : h.get? b with
  | none => rw [q] at e; cases e
  | some o =>
    rw [q] at e
    have e' : (b, o) = p := Option.some.inj e
    subst e'
    exact ⟨hb, q⟩
theorem Inv.pinned {pins : List (Addr × Obj)} {σ : St} {H : Hp} {s : Shared} {fp : List Addr} (I : Inv X pins σ H s) (hf : ∀ b ∈ fp, FpOk X pins H b) (ho : ∀ b ∈ fp, ∃ o, s.heap.get? b = some o ∧ ∀ v, o.data ≠ .cell v) : Inv X (pins ++ pinsAt fp s.heap) σ H s :=
  I.pins_of fun p hp => (List.mem_append.mp hp).elim (fun z => I.pin p (List.mem_append_right _ z)) fun z => by
    obtain ⟨hb, e⟩ := of_pinsAt z
    obtain ⟨f0, f1, f2, _⟩ := hf p.1 hb
    obtain ⟨o, e', d⟩ := ho p.1 hb
    rw [e] at e'; cases e'
    exact ⟨e, f0, f1, f2, d⟩
theorem Inv.unpinned {pins pl : List (Addr × Obj)} {σ : St} {H : Hp} {s : Shared} (I : Inv X (pins ++ pl) σ H s) : Inv X pins σ H s := I.pins_of fun p hp => I.pin p (List.mem_append_right _ (List.mem_append_left _ hp))
theorem ps_for {iter : Expr} {body : List Stmt} {wi : TI} {g : TG} {tb : TS} {pos : Pos} (hp : PassesOwn (model X.prog X.w) X.A X.env X.xe) (hc : X.calm = true) (hi : PI X tg iter wi) (hg : PG X tg g) (hb : PSs X body tb)
    (hs : ∀ x, foldedSetIterable iter X.env x = pure x := by intro _; rfl) : PS X (.For tg iter body [] pos) (tFor wi g tb) := by
  intro pins s σ H D I h
  refine wpAny_For (thn (hi pins s σ H _ I h) fun v s1 h1 => thn h1 fun itv s2 h2 => ?_) hs
  obtain ⟨it, fp, tn, J, H2, e, I2, T, st2, f2, W, ⟨m0, w0⟩, turn⟩ := h2
  subst e
  -- what stays true of the iterator's objects through the loop
  have stat : ∀ {H' : Hp}, (∀ b ∈ fp, H' b = none) → ∀ b ∈ fp, FpOk X pins H' b := fun hn b hb => ⟨hn b hb, (f2 b hb).2⟩
  refine codeAny_forLoop_any (fun n s' => ∃ i σ' H', Inv X pins σ' H' s' ∧ tn i s'.heap ∧ (∀ b ∈ fp, H' b = none) ∧ W i n σ' H') ?_ m0 ⟨0, σ, H2, I2, st2, fun b hb => (f2 b hb).1, w0⟩
  rintro n s3 ⟨i, σ3, H3, I3, st3, fr3, w3⟩
  rcases turn i n σ3 H3 w3 with ⟨stop, qn⟩ | ⟨go, N, hN, step⟩
  · refine wpAny_passesOwn hp (thn (T.done X rfl rfl rfl hc i pins s3 σ3 H3 X.xe I3 (stat fr3) st3 stop) fun r s4 ⟨hr, I4⟩ => ?_)
    subst hr
    exact wpAny_execs_nil ⟨σ3, H3, I4, qn⟩
  · refine wpAny_passesOwn hp (thn (T.item X rfl rfl rfl hc i pins s3 σ3 H3 X.xe I3 (stat fr3) st3 go) fun r s4 ⟨u, hr, h4⟩ => ?_)
    subst hr
    refine wpAny_passesOwn hp (thn h4 fun _ s5 ⟨x, H5, I5, r5, y5, st5, fr5⟩ => ?_)
    have I5' := I5.pinned (stat fr5) (T.obj _ _ st5)
    refine wpAny_passesOwn hp (thn (hg _ s5 σ3 H5 x u _ I5' r5 (step x H5 y5)) fun _ s6 ⟨σ6, H6, I6, q6⟩ => ?_)
    refine wpAny_passesOwn hp (thn (hb _ s6 σ6 H6 _ I6 q6) fun f s7 q7 => ?_)
    have again : ∀ {σ7 : St} {H7 : Hp}, Inv X (pins ++ pinsAt fp s5.heap) σ7 H7 s7 → N σ7 H7 → ∃ m, m < n ∧ ∃ i σ' H', Inv X pins σ' H' s7 ∧ tn i s7.heap ∧ (∀ b ∈ fp, H' b = none) ∧ W i m σ' H' := fun {σ7 H7} I7 n7 => by
      obtain ⟨m', hm, w7⟩ := hN σ7 H7 n7
      refine ⟨m', hm, i + 1, σ7, H7, I7.unpinned, T.keep _ _ _ st5 fun b hb o e => (I7.pin (b, o) (List.mem_append_right _ (List.mem_append_right _ (mem_pinsAt hb e)))).1, fun b hb => ?_, w7⟩
      obtain ⟨o, e, d⟩ := T.obj _ _ st5 b hb
      exact (I7.pin (b, o) (List.mem_append_right _ (List.mem_append_right _ (mem_pinsAt hb e)))).2.1
    cases f with
    | next => obtain ⟨σ7, H7, I7, n7⟩ := q7; exact again I7 n7
    | cont => obtain ⟨σ7, H7, I7, n7⟩ := q7; exact again I7 n7
    | brk => obtain ⟨σ7, H7, I7, q7⟩ := q7; exact ⟨σ7, H7, I7.unpinned, q7⟩
    | ret v => obtain ⟨x7, σ7, H7, I7, r7, q7⟩ := q7; exact ⟨x7, σ7, H7, I7.unpinned, r7, q7⟩
end

/-- over a list that the body leaves as it is -/
theorem for_list {K : PySem.W.Frag} {a : Addr} {xs : List V} {g : TG} {tb : TS} {D : Ends} {σ : St} {H : Hp} (Pv : Nat → St → Hp → Prop) (h0 : Pv 0 σ H) (hl : ∀ i σ H, i ≤ xs.length → Pv i σ H → SqL K H a xs)
    (hs : ∀ i x σ H, xs[i]? = some x → Pv i σ H → g x σ H fun σ2 H2 => tb { D with nx := Pv (i + 1), ct := Pv (i + 1), bk := D.nx } σ2 H2) (hd : ∀ σ H, Pv xs.length σ H → D.nx σ H) :
    ∃ W : Nat → Nat → St → Hp → Prop, (∃ m, W 0 m σ H) ∧ ∀ i m σ H, W i m σ H →
      ((Itl K a).stop i H ∧ D.nx σ H) ∨ ((Itl K a).go i H ∧ ∃ N : St → Hp → Prop, (∀ σ' H', N σ' H' → ∃ m', m' < m ∧ W (i + 1) m' σ' H') ∧ ∀ x H', (Itl K a).yld i H x H' → g x σ H' fun σ2 H2 => tb { D with nx := N, ct := N, bk := D.nx } σ2 H2) := by
  refine ⟨fun i m σ H => m = xs.length - i ∧ i ≤ xs.length ∧ Pv i σ H, ⟨xs.length, by simp, Nat.zero_le _, h0⟩, ?_⟩
  rintro i m σ H ⟨rfl, hi, p⟩
  have q := hl i σ H hi p
  by_cases hlt : i < xs.length
  · refine .inr ⟨⟨xs, xs[i], q, by simp [hlt]⟩, Pv (i + 1), fun σ' H' p' => ⟨xs.length - (i + 1), by omega, rfl, hlt, p'⟩, fun x H' y => ?_⟩
    obtain ⟨e, y⟩ := y
    subst e
    exact hs i x σ _ (y xs q) p
  · have e : i = xs.length := by omega
    subst e
    exact .inl ⟨⟨xs, q, Nat.le_refl _⟩, hd σ H p⟩
end L2

namespace L2
open PySem PySem.Spec PyProof.Rows

abbrev R2 := V → V → Hp → VK → Prop
/-- a two-place operation on values: f is binaryOp op, inplaceOp op or compareOp op -/
def OpR (X : Cx) (f : Value → Value → Sem Value) (r : R2) : Prop :=
  ∀ (pins : List (Addr × Obj)) (s : Shared) (σ : St) (H : Hp) (x y : V) (v u : Value) (Q : VK), Inv X pins σ H s → RelV x v → RelV y u → r x y H Q →
    wpAny (model X.prog X.w) X.A (f v u) (EP X pins σ Q) X.xe s
/-- a one-place operation -/
def UnR (X : Cx) (f : Value → Sem Value) (r : V → Hp → VK → Prop) : Prop :=
  ∀ (pins : List (Addr × Obj)) (s : Shared) (σ : St) (H : Hp) (x : V) (v : Value) (Q : VK), Inv X pins σ H s → RelV x v → r x H Q →
    wpAny (model X.prog X.w) X.A (f v) (EP X pins σ Q) X.xe s
/-- a call of a value that is known (a builtin, a type) with values -/
def CallR (X : Cx) (f : Value) (r : List V → Hp → VK → Prop) : Prop :=
  ∀ (pins : List (Addr × Obj)) (s : Shared) (σ : St) (H : Hp) (xs : List V) (us : List Value) (Q : VK), Inv X pins σ H s → Vals xs us → r xs H Q →
    wpAny (model X.prog X.w) X.A (call f us) (EP X pins σ Q) X.xe s
def tOp (r : R2) (ta tb : TE) : TE := fun σ H Q => ta σ H fun x H1 => tb σ H1 fun y H2 => r x y H2 Q
def tUn (r : V → Hp → VK → Prop) (ta : TE) : TE := fun σ H Q => ta σ H fun x H1 => r x H1 Q
/-- natInts in, under C, and a value out -/
def rI (C : Int → Int → Prop) (g : Int → Int → V) : R2 := fun x y H Q => ∃ i j, x = .int i ∧ y = .int j ∧ C i j ∧ Q (g i j) H
def rI0 (g : Int → Int → V) : R2 := fun x y H Q => ∃ i j, x = .int i ∧ y = .int j ∧ Q (g i j) H
def rU (g : Int → V) : V → Hp → VK → Prop := fun x H Q => ∃ i, x = .int i ∧ Q (g i) H

section
variable {X : Cx} {a b c : Expr} {ta tb tc : TE} {pos : Pos}

theorem binT (ha : PE X a ta) (hb : PE X b tb) {pins : List (Addr × Obj)} {s : Shared} {σ : St} {H : Hp} {R : V → V → Hp → Prop} (I : Inv X pins σ H s)
    (h : ta σ H fun x H1 => tb σ H1 fun y H2 => R x y H2) {Q : Value → Shared → Prop} {f : Value → Value → Sem Value}
    (hf : ∀ v u s2 x y H2, Inv X pins σ H2 s2 → RelV x v → RelV y u → R x y H2 → wpAny (model X.prog X.w) X.A (f v u) Q X.xe s2) :
    wpAny (model X.prog X.w) X.A (eval a X.env) (fun v s₁ => wpAny (model X.prog X.w) X.A (eval b X.env) (fun u s₂ => wpAny (model X.prog X.w) X.A (f v u) Q X.xe s₂) X.xe s₁) X.xe s := by
  refine thn (ha pins s σ H _ I h) fun v s1 ⟨x, H1, I1, r1, q1⟩ => ?_
  refine thn (hb pins s1 σ H1 _ I1 q1) fun u s2 ⟨y, H2, I2, r2, q2⟩ => ?_
  exact hf v u s2 x y H2 I2 r1 r2 q2

theorem pe_op {op : Operator} {r : R2} (ho : OpR X (binaryOp op) r) (ha : PE X a ta) (hb : PE X b tb) : PE X (.BinOp a op b pos) (tOp r ta tb) := by
  intro pins s σ H Q I h
  exact wpAny_BinOp (binT ha hb I h fun v u s2 x y H2 I2 rx ry q => ho pins s2 σ H2 x y v u Q I2 rx ry q)
theorem pe_un {op : UnaryOp} {r : V → Hp → VK → Prop} (ho : UnR X (unaryOp op) r) (ha : PE X a ta) : PE X (.UnaryOp op a pos) (tUn r ta) := by
  intro pins s σ H Q I h
  exact UnaryOp_ (thn (ha pins s σ H _ I h) fun v s1 ⟨x, H1, I1, r1, q1⟩ => ho pins s1 σ H1 x v Q I1 r1 q1)
theorem opI {f : Value → Value → Sem Value} {C : Int → Int → Prop} {g : Int → Int → Int}
    (rule : ∀ (i j : Int) (t u : Tok) (s : Shared) (Q : Value → Shared → Prop) (E : Value → Shared → Prop), C i j → Q (.int (g i j) s.toks) { s with toks := s.toks + 1 } → wpAny (model X.prog X.w) X.A (f (.int i t) (.int j u)) Q E s) :
    OpR X f (rI C fun i j => .int (g i j)) := by
  intro pins s σ H x y v u Q I rx ry h
  obtain ⟨i, j, rfl, rfl, hc, q⟩ := h
  obtain ⟨t, rfl⟩ := rx
  obtain ⟨t', rfl⟩ := ry
  exact rule i j t t' s _ _ hc ⟨.int (g i j), H, I.tok _, ⟨_, rfl⟩, q⟩
theorem opI0 {f : Value → Value → Sem Value} {g : Int → Int → Int}
    (rule : ∀ (i j : Int) (t u : Tok) (s : Shared) (Q : Value → Shared → Prop) (E : Value → Shared → Prop), Q (.int (g i j) s.toks) { s with toks := s.toks + 1 } → wpAny (model X.prog X.w) X.A (f (.int i t) (.int j u)) Q E s) :
    OpR X f (rI0 fun i j => .int (g i j)) := by
  intro pins s σ H x y v u Q I rx ry h
  obtain ⟨i, j, rfl, rfl, q⟩ := h
  obtain ⟨t, rfl⟩ := rx
  obtain ⟨t', rfl⟩ := ry
  exact rule i j t t' s _ _ ⟨.int (g i j), H, I.tok _, ⟨_, rfl⟩, q⟩
theorem opB0 {f : Value → Value → Sem Value} {g : Int → Int → Bool}
    (rule : ∀ (i j : Int) (t u : Tok) (s : Shared) (Q : Value → Shared → Prop) (E : Value → Shared → Prop), Q (.bool (g i j)) s → wpAny (model X.prog X.w) X.A (f (.int i t) (.int j u)) Q E s) :
    OpR X f (rI0 fun i j => .bl (g i j)) := by
  intro pins s σ H x y v u Q I rx ry h
  obtain ⟨i, j, rfl, rfl, q⟩ := h
  obtain ⟨t, rfl⟩ := rx
  obtain ⟨t', rfl⟩ := ry
  exact rule i j t t' s _ _ ⟨.bl (g i j), H, I, rfl, q⟩

theorem two_pow_nn (k : Nat) : (0 : Int) ≤ 2 ^ k := by
  rw [two_pow_cast]
  exact Int.natCast_nonneg _

theorem op_add : OpR X (binaryOp .Add) (rI0 fun i j => .int (i + j)) := opI0 fun _ _ _ _ _ _ _ q => add_int q
theorem op_sub : OpR X (binaryOp .Sub) (rI0 fun i j => .int (i - j)) := opI0 fun _ _ _ _ _ _ _ q => sub_int q
/-- % by a positive divisor of any size -/
theorem op_mod : OpR X (binaryOp .Mod) (rI (fun _ j => 0 < j) fun i j => .int (i % j)) := opI fun i j _ _ _ _ _ hc q => by
  have h1 : (0 : Int) < j := hc
  exact mod_int' (by omega) (by rw [Int.fmod_eq_emod_of_nonneg i (by omega)]; exact q)
theorem op_shr : OpR X (binaryOp .RShift) (rI (fun _ j => 0 ≤ j) fun i j => .int (i / 2 ^ j.toNat)) := opI fun i j _ _ _ _ _ hc q =>
  rshift_int hc (by rw [Int.fdiv_eq_ediv_of_nonneg i (two_pow_nn _)]; exact q)
theorem op_and : OpR X (binaryOp .BitAnd) (rI0 fun i j => .int (Builtin.bitAnd i j)) := opI0 fun _ _ _ _ _ _ _ q => and_int q
theorem op_or : OpR X (binaryOp .BitOr) (rI0 fun i j => .int (Builtin.bitOr i j)) := opI0 fun _ _ _ _ _ _ _ q => or_int q
theorem unI {f : Value → Sem Value} {g : Int → Int}
    (rule : ∀ (i : Int) (t : Tok) (s : Shared) (Q : Value → Shared → Prop) (E : Value → Shared → Prop), Q (.int (g i) s.toks) { s with toks := s.toks + 1 } → wpAny (model X.prog X.w) X.A (f (.int i t)) Q E s) :
    UnR X f (rU fun i => .int (g i)) := by
  intro pins s σ H x v Q I rx h
  obtain ⟨i, rfl, q⟩ := h
  obtain ⟨t, rfl⟩ := rx
  exact rule i t s _ _ ⟨.int (g i), H, I.tok _, ⟨_, rfl⟩, q⟩
theorem un_neg : UnR X (unaryOp .USub) (rU fun i => .int (-i)) := unI fun _ _ _ _ _ q => neg_int q
end

/-- the scalars that == tells apart as data does -/
def scal : V → V → Bool
  | .non, .non => true | .non, .int _ => true | .int _, .non => true | .non, .bl _ => true | .bl _, .non => true | .non, .str _ => true | .str _, .non => true
  | .int _, .int _ => true | .bl _, .bl _ => true | .str _, .str _ => true | .byt _, .byt _ => true
  | .int _, .str _ => true | .str _, .int _ => true | .bl _, .str _ => true | .str _, .bl _ => true
  | _, _ => false
def rNe : R2 := fun x y H Q => scal x y = true ∧ Q (.bl (!decide (x = y))) H

theorem dec_int {i j : Int} : decide (V.int i = V.int j) = (i == j) := by
  rw [Bool.eq_iff_iff]
  simp
theorem dec_bl {i j : Bool} : decide (V.bl i = V.bl j) = (i == j) := by
  rw [Bool.eq_iff_iff]
  simp
theorem dec_str {i j : Str} : decide (V.str i = V.str j) = (i == j) := by
  rw [Bool.eq_iff_iff]
  simp
theorem dec_byt {i j : Array UInt8} : decide (V.byt i = V.byt j) = (i.toList == j.toList) := by
  rw [Bool.eq_iff_iff]
  cases i
  cases j
  simp

section
variable {X : Cx} {a b c : Expr} {ta tb tc : TE} {pos : Pos}
theorem fin_bl {pins : List (Addr × Obj)} {σ : St} {H : Hp} {s : Shared} {Q : VK} {k k' : Bool} (I : Inv X pins σ H s) (q : Q (.bl k) H) (e : k = k') : EP X pins σ Q (.bool k') s := by
  subst e
  exact ⟨.bl k, H, I, rfl, q⟩
theorem op_ne : OpR X (compareOp .NotEq) rNe := by
  intro pins s σ H x y v u Q I rx ry h
  obtain ⟨hs, q⟩ := h
  cases x with
  | non =>
    cases rx
    cases y with
    | non => cases ry; exact PySem.EqNone.ne_none_none (fin_bl I q (by simp))
    | bl j => cases ry; exact PySem.EqNone.ne_none_bool (fin_bl I q (by simp))
    | int j => obtain ⟨t', rfl⟩ := ry; exact PySem.EqNone.ne_none_int (fin_bl I q (by simp))
    | str j => obtain ⟨t', rfl⟩ := ry; exact PySem.EqNone.ne_none_str (fin_bl I q (by simp))
    | _ => exact absurd (show false = true from hs) Bool.false_ne_true
  | bl i =>
    cases rx
    cases y with
    | non => cases ry; exact PySem.EqNone.ne_bool_none (fin_bl I q (by simp))
    | bl j => cases ry; exact ne_bool (fin_bl I q (congrArg not dec_bl))
    | str j => obtain ⟨t', rfl⟩ := ry; exact PySem.EqMixed.ne_bool_str (fin_bl I q (by simp))
    | _ => exact absurd (show false = true from hs) Bool.false_ne_true
  | int i =>
    obtain ⟨t, rfl⟩ := rx
    cases y with
    | non => cases ry; exact PySem.EqNone.ne_int_none (fin_bl I q (by simp))
    | int j => obtain ⟨t', rfl⟩ := ry; exact ne_int (fin_bl I q (congrArg not dec_int))
    | str j => obtain ⟨t', rfl⟩ := ry; exact PySem.EqMixed.ne_int_str (fin_bl I q (by simp))
    | _ => exact absurd (show false = true from hs) Bool.false_ne_true
  | str i =>
    obtain ⟨t, rfl⟩ := rx
    cases y with
    | non => cases ry; exact PySem.EqNone.ne_str_none (fin_bl I q (by simp))
    | bl j => cases ry; exact PySem.EqMixed.ne_str_bool (fin_bl I q (by simp))
    | int j => obtain ⟨t', rfl⟩ := ry; exact PySem.EqMixed.ne_str_int (fin_bl I q (by simp))
    | str j => obtain ⟨t', rfl⟩ := ry; exact ne_str (fin_bl I q (congrArg not dec_str))
    | _ => exact absurd (show false = true from hs) Bool.false_ne_true
  | byt i =>
    obtain ⟨t, rfl⟩ := rx
    cases y with
    | byt j => obtain ⟨t', rfl⟩ := ry; exact PySem.W.ne_bytes (fin_bl I q (congrArg not dec_byt))
    | _ => exact absurd (show false = true from hs) Bool.false_ne_true
  | _ => cases y <;> exact absurd (show false = true from hs) Bool.false_ne_true

theorem op_lt : OpR X (compareOp .Lt) (rI0 fun i j => .bl (decide (i < j))) := opB0 fun _ _ _ _ _ _ _ q => lt_int q
theorem op_le : OpR X (compareOp .LtE) (rI0 fun i j => .bl (decide (i ≤ j))) := opB0 fun _ _ _ _ _ _ _ q => le_int q
theorem nomark (b : Expr) {op : CmpOp} (h : op ≠ .In := by decide) (h2 : op ≠ .NotIn := by decide) : behindInMarks op b = false := by
  have e1 : (op == CmpOp.In) = false := by cases op <;> first | rfl | exact absurd rfl h
  have e2 : (op == CmpOp.NotIn) = false := by cases op <;> first | rfl | exact absurd rfl h2
  cases b <;> simp [behindInMarks, e1, e2]
/-- a reading of a value as a test -/
def tTest (t : TE) : TT := fun σ H Q => t σ H fun x H' => ∃ k, x = .bl k ∧ Q k H'
theorem pt_cmpR {op : CmpOp} {r : R2} (ho : OpR X (compareOp op) r) (ha : PE X a ta) (hb : PE X b tb) (hm : behindInMarks op b = false) : PT X (.Compare a [op] [b] pos) (tTest (tOp r ta tb)) := by
  intro pins s σ H Q I h
  refine wpAny_isTrue_Compare1 (thn (ha pins s σ H _ I h) fun v s1 ⟨x, H1, I1, r1, q1⟩ => thn (hb pins s1 σ H1 _ I1 q1) fun u s2 ⟨y, H2, I2, r2, q2⟩ =>
    thn (ho pins s2 σ H2 x y v u _ I2 r1 r2 q2) fun c s3 ⟨z, H3, I3, r3, k, e, q3⟩ => ?_) hm
  subst e
  cases r3
  exact wpAny_truthy_bool ⟨H3, I3, q3⟩
/-- a op1 b op2 c -/
def tChain (r r' : R2) (ta tb tc : TE) : TE := fun σ H Q => ta σ H fun x H1 => tb σ H1 fun y H2 => r x y H2 fun z H3 => ∃ k, z = .bl k ∧
  (if k = true then tc σ H3 fun w' H4 => r' y w' H4 Q else Q (.bl false) H3)
theorem pe_chain {op op' : CmpOp} {r r' : R2} (ho : OpR X (compareOp op) r) (ho' : OpR X (compareOp op') r') (ha : PE X a ta) (hb : PE X b tb) (hc : PE X c tc)
    (hm : lastMarks [op, op'] [b, c] = false := by with_unfolding_all rfl) : PE X (.Compare a [op, op'] [b, c] pos) (tChain r r' ta tb tc) := by
  intro pins s σ H Q I h
  refine Compare_chain (thn (ha pins s σ H _ I h) fun v s1 ⟨x, H1, I1, r1, q1⟩ => chain_link (thn (hb pins s1 σ H1 _ I1 q1) fun u s2 ⟨y, H2, I2, r2, q2⟩ =>
    thn (ho pins s2 σ H2 x y v u _ I2 r1 r2 q2) fun d s3 ⟨z, H3, I3, r3, k, e, q3⟩ => ?_)) hm
  subst e
  cases r3
  refine wpAny_truthy_bool ?_
  cases k with
  | false => exact ite_ff ⟨.bl false, H3, I3, rfl, q3⟩
  | true => exact ite_tt (chain_last (thn (hc pins s3 σ H3 _ I3 q3) fun w' s4 ⟨z', H4, I4, r4, q4⟩ => ho' pins s4 σ H4 y z' u w' Q I4 r2 r4 q4))
theorem line63 : (sizeLine : Nat) < 2 ^ 63 := by rw [sizeLine_eq]; decide
theorem vals1 {x : V} {us : List Value} (r : Vals [x] us) : ∃ u, us = [u] ∧ RelV x u := by
  cases r with
  | cons r1 r2 => cases r2; exact ⟨_, rfl, r1⟩
theorem vals2 {x y : V} {us : List Value} (r : Vals [x, y] us) : ∃ u w', us = [u, w'] ∧ RelV x u ∧ RelV y w' := by
  cases r with
  | cons r1 r2 =>
    cases r2 with
    | cons r3 r4 => cases r4; exact ⟨_, _, rfl, r1, r3⟩
theorem call_abs : CallR X (.builtin "abs") (fun xs H Q => ∃ i, xs = [.int i] ∧ Q (.int (if i < 0 then -i else i)) H) := by
  intro pins s σ H xs us Q I r h
  obtain ⟨i, rfl, q⟩ := h
  obtain ⟨u, rfl, t, rfl⟩ := vals1 r
  exact call_abs_int fun u tk => ⟨.int (if i < 0 then -i else i), H, I.tok _, ⟨_, rfl⟩, q⟩
theorem call_max2 (hc : X.calm = true) : CallR X (.builtin "max") (fun xs H Q => ∃ i j, xs = [.int i, .int j] ∧ Q (.int (if j > i then j else i)) H) := by
  intro pins s σ H xs us Q I r h
  obtain ⟨i, j, rfl, q⟩ := h
  obtain ⟨u, w', rfl, ⟨t, rfl⟩, ⟨t', rfl⟩⟩ := vals2 r
  refine max_two_ints (I.ok.hd hc) fun h' tk k => ⟨_, H, I.kept k, ?_, q⟩
  by_cases hj : j > i
  · rw [if_pos hj, if_pos hj]; exact ⟨_, rfl⟩
  · rw [if_neg hj, if_neg hj]; exact ⟨_, rfl⟩
end
end L2

namespace L2
open PySem PySem.Spec PyProof.Rows

structure ObjM (h : Heap) (x dx C : Addr) (mA : Str → Option Value) : Prop where
  obj : h.get? x = some (PySem.W.instObj C dx)
  ns : h.Ns1 dx mA
  ne : dx ≠ x

theorem lookIn_ns {h : Heap} {dx : Addr} {mA : Str → Option Value} (n : h.Ns1 dx mA) : ∃ od, h.get? dx = some od ∧ ∀ name, PySem.W.lookIn name od = some (mA name) := by
  obtain ⟨o, es, ep, ho, hd, hk, _, hm⟩ := n
  refine ⟨o, ho, fun name => ?_⟩
  have e := hm name
  unfold nsFind findBy at e
  rw [← Array.find?_toList] at e
  unfold PySem.W.lookIn
  rw [hd]
  dsimp only
  split
  · rename_i y q
    rw [q] at e
    exact congrArg some e
  · rename_i q
    rw [q] at e
    have a : es.toList.any (·.refKey) = false := by
      rw [List.any_eq_false]
      intro y hy
      obtain ⟨z, t, hkey⟩ := hk y (Array.mem_toList_iff.mp hy)
      simp [DictEntry.refKey, hkey]
    have a' : ¬ es.toList.any (·.refKey) = true := by rw [a]; exact Bool.false_ne_true
    rw [if_neg a']
    exact congrArg some e

theorem ObjM.look {h : Heap} {x dx C : Addr} {mA : Str → Option Value} (I : ObjM h x dx C mA) : ∃ od, PySem.W.InstAt h x (PySem.W.instObj C dx) C (some od) ∧ ∀ name, PySem.W.lookIn name od = some (mA name) :=
  let ⟨od, ho, hl⟩ := lookIn_ns I.ns
  ⟨od, ⟨I.obj, rfl, rfl, ho⟩, hl⟩

section
variable {prog : Program} {w : World} {A : Around} {E : Value → Shared → Prop} {s : Shared} {K : PySem.W.Frag} {x dx C f : Addr} {mA : Str → Option Value} {name : Str} {v : Value}

theorem get_map {expr : Bool} {Q : Value → Shared → Prop} (X : K.In s.heap) (I : ObjM s.heap x dx C mA) (hg : PySem.W.plainGet K C name = true) (hh : PySem.W.hasDictIn K C = true)
    (ha : PySem.W.findIn K (.ref C) name = some none) (hv : mA name = some v) (hv' : PySem.W.handedIn v = true) (h : Q v { s with toks := s.toks + 1 }) :
    wpAny (model prog w) A (getAttr (.ref x) name expr) Q E s := by
  obtain ⟨od, J, hl⟩ := I.look
  exact PySem.W.get_value X J (PySem.W.plainGet_of hg).1 (PySem.W.findObj_own hh ha rfl (by rw [hl, hv])) hv' h

theorem set_map {ns : List Str} {Q : Unit → Shared → Prop} (X : K.In s.heap) (I : ObjM s.heap x dx C mA)
    (hs : PySem.W.findIn K (.ref C) "__setattr__" = some (some (.builtin "object.__setattr__"))) (hp : PySem.W.plainOver K C = true) (ht : PySem.W.takerIn K C name = some none) (hh : PySem.W.hasDictIn K C = true)
    (hw : PySem.Within mA ns) (hsz : ns.length ≤ sizeLine)
    (h : ∀ h', ObjM h' x dx C (fun y => if y = name then some v else mA y) → Heap.SameBut dx s.heap h' → Q () { s with heap := h', toks := s.toks + 2 }) :
    wpAny (model prog w) A (setAttr (.ref x) name v) Q E s := by
  obtain ⟨od, J, hl⟩ := I.look
  refine PySem.W.set_plain X J hs (PySem.W.osa_open (s := { s with toks := s.toks + 1 }) (r := none) X J hp ht fun b => ?_)
  obtain ⟨cd, hc, hd'⟩ := PySem.W.any_some hh
  have hx : s.heap.get? x = some ⟨.ref C, some dx, .plain, #[]⟩ := I.obj
  refine wpAny_bind (wpAny_pure (wpAny_bind (wpAny_bind (wpAny_loadPart hx (wpAny_bind (PySem.W.Looks.here (s := { s with toks := s.toks + 1 }) (PySem.W.looks_clsIn X hc) ?_))))))
  rw [hd']
  refine wpAny_pure (a := some dx) (wpAny_bind (wpAny_pure (wpAny_bind ?_)))
  refine wpAny_nsSet1 (s := { s with toks := s.toks + 1 }) I.ns fun h' hn2 hs2 => ?_
  obtain ⟨oD, esD, epD, hoD, hdD, hcD⟩ := hn2.count (PySem.Within.cons name v hw)
  refine wpAny_bind (wpAny_lookBehind hoD (by rw [hdD]; exact pastItsLine_dict (Nat.le_trans hcD (by rw [List.length_cons]; omega))) ?_)
  exact wpAny_pure (h _ ⟨(hs2.2 _ (Ne.symm I.ne)).trans I.obj, hn2, I.ne⟩ hs2)

/-- C(..): the dict at the heap's end, the instance behind it; then its __init__ -/
theorem make_map {R : Result → Shared → Prop} {vs : List Value} {kw : List (Str × Value)} (X : K.In s.heap) (hm : PySem.W.makesIn K C = true)
    (hi : PySem.W.findIn K (.ref C) "__init__" = some (some (.ref f))) (hf : PySem.W.typeIn K (.ref f) = some (.type "function"))
    (h : codeAny (model prog w) (A.under (.builtin "type.__call__" ⟨.ref C :: vs, kw⟩)) (.call (.ref f) ⟨.ref (s.heap.objs.size + 1) :: vs, kw⟩) (PySem.W.InitBack (s.heap.objs.size + 1) R)
      { s with heap := (s.heap.push PySem.W.emptyDict).push (PySem.W.instObj C s.heap.objs.size) }) :
    codeAny (model prog w) A (.call (.ref C) ⟨vs, kw⟩) R s := by
  obtain ⟨hh, g, d, t, os⟩ := s
  exact PySem.W.make_core (PySem.W.makes_of X hm) (PySem.W.looks_findIn X hi) (fun self => PySem.W.bind_fn X self hf) (.inl rfl) h
end

def putF (f : Str) (v : V) : List (Str × V) → List (Str × V)
  | [] => [(f, v)]
  | (g, x) :: r => if g = f then (g, v) :: r else (g, x) :: putF f v r
theorem lookup_putF (f g : Str) (v : V) : ∀ fs : List (Str × V), (putF f v fs).lookup g = if g = f then some v else fs.lookup g
  | [] => by
    show List.lookup g [(f, v)] = _
    by_cases h : g = f
    · have hb : (g == f) = true := beq_iff_eq.mpr h
      simp only [List.lookup, hb, if_pos h]
    · have hb : (g == f) = false := beq_eq_false_iff_ne.mpr h
      simp only [List.lookup, hb, if_neg h]
  | (k, x) :: r => by
    have ih := lookup_putF f g v r
    rw [show putF f v ((k, x) :: r) = (if k = f then (k, v) :: r else (k, x) :: putF f v r) from rfl]
    by_cases hk : k = f
    · rw [if_pos hk]
      by_cases h : g = k
      · have hb : (g == k) = true := beq_iff_eq.mpr h
        simp only [List.lookup, hb, if_pos (h.trans hk)]
      · have hb : (g == k) = false := beq_eq_false_iff_ne.mpr h
        simp only [List.lookup, hb, if_neg (fun e : g = f => h (e.trans hk.symm))]
    · rw [if_neg hk]
      by_cases h : g = k
      · have hb : (g == k) = true := beq_iff_eq.mpr h
        simp only [List.lookup, hb, if_neg (fun e : g = f => hk (h.symm.trans e))]
      · have hb : (g == k) = false := beq_eq_false_iff_ne.mpr h
        simp only [List.lookup, hb]
        exact ih
theorem keys_putF (f : Str) (v : V) : ∀ fs : List (Str × V), f ∈ (putF f v fs).map (·.1) ∧ ∀ g, g ∈ fs.map (·.1) → g ∈ (putF f v fs).map (·.1)
  | [] => ⟨by simp [putF], fun g h => by simp at h⟩
  | (k, x) :: r => by
    obtain ⟨i1, i2⟩ := keys_putF f v r
    rw [show putF f v ((k, x) :: r) = (if k = f then (k, v) :: r else (k, x) :: putF f v r) from rfl]
    by_cases hk : k = f
    · rw [if_pos hk]
      subst hk
      exact ⟨by simp, fun g h => by simpa using h⟩
    · rw [if_neg hk]
      refine ⟨?_, fun g h => ?_⟩
      · rw [List.map_cons]
        exact List.mem_cons_of_mem _ i1
      · rw [List.map_cons] at h ⊢
        rcases List.mem_cons.mp h with e | e
        · exact List.mem_cons.mpr (.inl e)
        · exact List.mem_cons_of_mem _ (i2 g e)
theorem length_putF (f : Str) (v : V) : ∀ fs : List (Str × V), (putF f v fs).length ≤ fs.length + 1
  | [] => by simp [putF]
  | (k, x) :: r => by
    have ih := length_putF f v r
    rw [show putF f v ((k, x) :: r) = (if k = f then (k, v) :: r else (k, x) :: putF f v r) from rfl]
    by_cases hk : k = f
    · rw [if_pos hk, List.length_cons, List.length_cons]; omega
    · rw [if_neg hk, List.length_cons, List.length_cons]; omega

theorem RelO.some_of {v : V} {o : Option Value} (r : RelO (some v) o) : ∃ u, o = some u ∧ RelV v u := by
  cases o with
  | none => exact (show False from r).elim
  | some u => exact ⟨u, rfl, r⟩
theorem handed_of {v : V} {u : Value} (r : RelV v u) : PySem.W.handedIn u = true := by
  cases v with
  | non => cases (show u = Value.none from r); rfl
  | bl b => cases (show u = Value.bool b from r); rfl
  | int i => obtain ⟨t, e⟩ := (show ∃ t, u = Value.int i t from r); cases e; rfl
  | str x => obtain ⟨t, e⟩ := (show ∃ t, u = Value.str x t from r); cases e; rfl
  | byt b => obtain ⟨t, e⟩ := (show ∃ t, u = Value.bytes b t from r); cases e; rfl
  | flt b => obtain ⟨t, e⟩ := (show ∃ t, u = Value.float b t from r); cases e; rfl
  | ref a => cases (show u = Value.ref a from r); rfl
  | ty n => cases (show u = Value.type n from r); rfl

section
variable {P : Program} {w : World} {H H' : Hp} {h h' : Heap} {a C dx : Addr} {fs fs' : List (Str × V)}
theorem ins_get (hok : HOk P w H h) (e : H a = some (.ins C dx fs)) : ∃ mA, ObjM h a dx C mA ∧ (∀ f, RelO (fs.lookup f) (mA f)) ∧ PySem.Within mA (fs.map (·.1)) ∧ fs.length ≤ 1000 ∧ H dx = some (.own a) := by
  obtain ⟨d, z, ne, ob, mA, n, r, q⟩ := (show ObjOk P w H h a (.ins C dx fs) from hok a _ e)
  exact ⟨mA, ⟨ob, n, ne⟩, r, q, z, d⟩
end

structure Cls (K : PySem.W.Frag) (C : Addr) : Prop where
  pg : PySem.W.plainGet K C Str.empty = true
  hd : PySem.W.hasDictIn K C = true
  po : PySem.W.plainOver K C = true
  sa : PySem.W.findIn K (.ref C) "__setattr__" = some (some (.builtin "object.__setattr__"))
theorem Cls.get {K : PySem.W.Frag} {C : Addr} (c : Cls K C) (f : Str) : PySem.W.plainGet K C f = true := c.pg
/-- no class of it has the name -/
def NoAttr (K : PySem.W.Frag) (C : Addr) (f : Str) : Prop := PySem.W.findIn K (.ref C) f = some none
theorem NoAttr.taker {K : PySem.W.Frag} {C : Addr} {f : Str} (n : NoAttr K C f) : PySem.W.takerIn K C f = some none := by
  unfold PySem.W.takerIn
  rw [show PySem.W.findIn K (.ref C) f = some none from n]
  rfl
section
variable {X : Cx} {pins : List (Addr × Obj)} {σ : St} {H : Hp} {s : Shared} {a C dx : Addr} {fs : List (Str × V)} {f : Str} {v : V} {A : Around} {E : Value → Shared → Prop}

theorem getattr_ok {b : Bool} {Q : Value → Shared → Prop} (I : Inv X pins σ H s) (e : H a = some (.ins C dx fs)) (c : Cls X.K C) (n : NoAttr X.K C f) (l : fs.lookup f = some v)
    (h : ∀ u s', Inv X pins σ H s' → RelV v u → Q u s') : wpAny (model X.prog X.w) A (getAttr (.ref a) f b) Q E s := by
  obtain ⟨mA, O, r, _, _, _⟩ := ins_get I.hok e
  obtain ⟨u, hu, ru⟩ := RelO.some_of (v := v) (o := mA f) (by rw [← l]; exact r f)
  exact get_map I.kIn O (c.get f) c.hd n hu (handed_of ru) (h u _ (I.tok _) ru)

theorem setattr_ok {y : V} {u : Value} {Q : Unit → Shared → Prop} (I : Inv X pins σ H s) (e : H a = some (.ins C dx fs)) (c : Cls X.K C) (n : NoAttr X.K C f) (hl : fs.length < 1000) (ry : RelV y u)
    (h : ∀ s', Inv X pins σ (upd H a (.ins C dx (putF f y fs))) s' → Q () s') : wpAny (model X.prog X.w) A (setAttr (.ref a) f u) Q E s := by
  obtain ⟨mA, O, r, wi, _, ho⟩ := ins_get I.hok e
  have hz : (fs.map (·.1)).length ≤ sizeLine := by rw [List.length_map, sizeLine_eq]; omega
  refine set_map I.kIn O c.sa c.po n.taker c.hd wi hz fun h' O' sb => h _ ?_
  have hd : ∃ o, h'.get? dx = some o := let ⟨o, _, _, e', _⟩ := O'.ns; ⟨o, e'⟩
  refine I.write (x := a) (e := dx) (by rw [e]; exact True.intro) (.inr ho) (fun b q hb z => (sb.2 b hb).trans z) hd ?_
  refine ⟨by rw [upd_ne O.ne]; exact ho, ?_, O.ne, O'.obj, _, O'.ns, fun g => ?_, fun g hg => ?_⟩
  · have := length_putF f y fs; omega
  · show RelO ((putF f y fs).lookup g) (if g = f then some u else mA g)
    rw [lookup_putF]
    by_cases q : g = f
    · rw [if_pos q, if_pos q]; exact ry
    · rw [if_neg q, if_neg q]; exact r g
  · by_cases q : g = f
    · rw [q]; exact (keys_putF f y fs).1
    · refine (keys_putF f y fs).2 g (wi g fun z => hg ?_)
      show (if g = f then some u else mA g) = none
      rw [if_neg q]; exact z

/-- a new instance, tracked, without attributes -/
theorem Inv.made (I : Inv X pins σ H s) : Inv X pins σ (upd (upd H s.heap.objs.size (.own (s.heap.objs.size + 1))) (s.heap.objs.size + 1) (.ins C s.heap.objs.size []))
    { s with heap := (s.heap.push PySem.W.emptyDict).push (PySem.W.instObj C s.heap.objs.size) } := by
  have e1 : (s.heap.push PySem.W.emptyDict).get? s.heap.objs.size = some PySem.W.emptyDict := Heap.get?_push_size s.heap rfl
  have e2 : ((s.heap.push PySem.W.emptyDict).push (PySem.W.instObj C s.heap.objs.size)).get? (s.heap.objs.size + 1) = some (PySem.W.instObj C s.heap.objs.size) := by
    have := Heap.get?_push_size (s.heap.push PySem.W.emptyDict) (o := PySem.W.instObj C s.heap.objs.size) rfl
    rwa [Heap.size_push] at this
  have e3 : (s.heap.push PySem.W.emptyDict).Ns s.heap.objs.size (fun _ => none) := ⟨PySem.W.emptyDict, #[], _, e1, rfl, (fun e he => absurd he (by simp)), fun _ => rfl⟩
  have I1 := I.laid (a := s.heap.objs.size) (o := .own (s.heap.objs.size + 1)) (h' := s.heap.push PySem.W.emptyDict) (t' := s.toks) (fun b u q => Heap.get?_push_of_some _ q) (Nat.le_refl _) ⟨_, e1⟩
  refine I1.laid (a := s.heap.objs.size + 1) (o := .ins C s.heap.objs.size []) (t' := s.toks) (fun b u q => Heap.get?_push_of_some _ q) (Nat.le_of_eq (Heap.size_push _ _)) ?_
  have ne : s.heap.objs.size ≠ s.heap.objs.size + 1 := Nat.ne_of_lt (Nat.lt_succ_self _)
  refine ⟨by rw [upd_ne ne, upd_same], Nat.zero_le _, ne, e2, fun _ => none, (Heap.Ns1.of_empty e3).at fun o q => Heap.get?_push_of_some _ q, fun _ => True.intro, fun y hy => absurd rfl hy⟩

/-- e.f where nothing but the object is asked: through attributeBase (super) and the last hold -/
theorem attr_of {prog : Program} {w : World} {env : Env} {e : Expr} {f : Str} {pos : Pos} {s : Shared} {Q : Value → Shared → Prop} (hb : attributeBase e f env (eval e env) = eval e env)
    (h : wpAny (model prog w) A (eval e env) (fun o s₁ => wpAny (model prog w) A (getAttr o f true) Q E s₁) E s) : wpAny (model prog w) A (eval (.Attribute e f pos) env) Q E s :=
  Attribute_any_ h (by rw [arm_eval_Attribute, hb])
end

/-- e.f, an attribute of the instance -/
def tFld (K : PySem.W.Frag) (ta : TE) (f : Str) : TE := fun σ H Q => ta σ H fun x H1 => ∃ a C dx fs v, x = .ref a ∧ H1 a = some (.ins C dx fs) ∧ Cls K C ∧ NoAttr K C f ∧ fs.lookup f = some v ∧ Q v H1
/-- e.f = value -/
def sFld (K : PySem.W.Frag) (ta tv : TE) (f : Str) : TS := fun D σ H => tv σ H fun y H1 => ta σ H1 fun x H2 => ∃ a C dx fs, x = .ref a ∧ H2 a = some (.ins C dx fs) ∧ Cls K C ∧ NoAttr K C f ∧ fs.length < 1000 ∧
  D.nx σ (upd H2 a (.ins C dx (putF f y fs)))
section
variable {X : Cx} {o e value : Expr} {f : Str} {pos pos' tpos : Pos} {ta tv : TE}
theorem pe_fld (he : PE X e ta) (hb : attributeBase e f X.env (eval e X.env) = eval e X.env) : PE X (.Attribute e f pos) (tFld X.K ta f) := by
  intro pins s σ H Q I h
  refine attr_of hb (thn (he pins s σ H _ I h) fun u s1 ⟨x, H1, I1, rx, a, C, dx, fs, v, ex, ea, c, n, l, q⟩ => ?_)
  subst ex
  obtain rfl : u = Value.ref a := rx
  exact getattr_ok I1 ea c n l fun u' s2 I2 ru => ⟨v, H1, I2, ru, q⟩
theorem ps_fld (ha : PE X o ta) (hv : PE X value tv) (hs : swapsWith value (some (.Attribute o f pos')) pos.line X.env = pure false) : PS X (.Assign [.Attribute o f pos'] value pos) (sFld X.K ta tv f) := by
  intro pins s σ H D I h
  refine plainObj_wpAny_Assign_Attribute (thn (hv pins s σ H _ I h) fun u s1 ⟨y, H1, I1, ry, q⟩ => thn (ha pins s1 σ H1 _ I1 q) fun ov s2 ⟨x, H2, I2, rx, a, C, dx, fs, ex, ea, c, n, l, q2⟩ => ?_) hs
  subst ex
  obtain rfl : ov = Value.ref a := rx
  exact setattr_ok I2 ea c n l ry fun s3 I3 => ⟨σ, _, I3, q2⟩
end

section
variable {X : Cx} {pins : List (Addr × Obj)} {σ : St} {H : Hp} {s : Shared} {A : Around} {E : Value → Shared → Prop} {Q : Value → Shared → Prop} {c : Value} {b : Bool}
end
end L2

namespace L2
open PySem PySem.Spec PyProof.Rows

structure Room (k : Nat) (A : Around) : Prop where
  hd : A.handled = none
  dp : A.depth + 3 * k + 5 < recursionLimit
  un : A.units + 16 * k + 200 < cLine
theorem Room.mono {j k : Nat} {A : Around} (r : Room k A) (h : j ≤ k) : Room j A := ⟨r.hd, by have := r.dp; omega, by have := r.un; omega⟩
theorem Room.deeper {k : Nat} {A : Around} (r : Room (k + 1) A) (env : Env) : Room k (A.deeper env) :=
  ⟨r.hd, by have := r.dp; show A.depth + 1 + 3 * k + 5 < _; omega, by have := r.un; show A.units + 3 + 16 * k + 200 < _; omega⟩
theorem make_depth {A : Around} {C : Addr} {us : List Value} {kw : List (Str × Value)} : (A.under (.builtin "type.__call__" ⟨.ref C :: us, kw⟩)).depth = A.depth + 1 := by
  first | rfl | simp [Around.under, Code.weight, Code.isCreation, Code.isGuard, Code.isCaller, Code.frames, Code.isFrame, guardIds]
theorem make_units {A : Around} {C : Addr} {us : List Value} {kw : List (Str × Value)} : (A.under (.builtin "type.__call__" ⟨.ref C :: us, kw⟩)).units = A.units + 1 := by
  first | rfl | simp [Around.under, Code.cUnits, Code.frames, Code.isFrame]
theorem Room.make {k : Nat} {A : Around} (r : Room (k + 1) A) (C : Addr) (us : List Value) (kw : List (Str × Value)) : Room k (A.under (.builtin "type.__call__" ⟨.ref C :: us, kw⟩)) :=
  ⟨r.hd, by have := r.dp; rw [make_depth]; omega, by have := r.un; rw [make_units]; omega⟩
theorem Room.depth {k : Nat} {A : Around} (r : Room k A) : A.depth < recursionLimit := by have := r.dp; omega
def tNil : TA := fun _ H Q => Q [] H
def tCons (ta : TE) (tr : TA) : TA := fun σ H Q => ta σ H fun x H1 => tr σ H1 fun xs H2 => Q (x :: xs) H2
section
variable {X : Cx} {e : Expr} {es : List Expr} {te : TE} {t : TA} {pos : Pos}
theorem pa_nil : PA X [] tNil := fun _ _ _ _ H Q I h => Calls.spliced_nil ⟨[], H, I, .nil, h⟩
theorem pa_cons (ha : PE X e te) (hr : PA X es t) (hs : starEach (e :: es) X.env = (false, eval e X.env) :: starEach es X.env := by rfl) : PA X (e :: es) (tCons te t) := by
  intro pos pins s σ H Q I h
  rw [hs]
  show wpAny _ _ (spliced ((false, eval e X.env) :: backTo pos (starEach es X.env))) _ _ s
  refine Calls.spliced_cons (thn (ha pins s σ H _ I h) fun u s1 ⟨x, H1, I1, r1, q1⟩ => ?_)
  exact thn (hr pos pins s1 σ H1 _ I1 q1) fun us s2 ⟨xs, H2, I2, r2, q2⟩ => ⟨x :: xs, H2, I2, .cons r1 r2, q2⟩

/-- a tuple, a list of written items -/
def tTup (t : TA) : TE := fun σ H Q => t σ H fun xs H1 => xs.length ≤ sizeLine ∧ ∀ p, H1 p = none → Q (.ref p) (upd H1 p (.tup xs))
def tLst (t : TA) : TE := fun σ H Q => t σ H fun xs H1 => xs.length ≤ sizeLine ∧ ∀ p, H1 p = none → Q (.ref p) (upd H1 p (.lst xs))
theorem pe_tup {x1} (h : PA X es t) : PE X (.Tuple es x1 pos) (tTup t) := by
  intro pins s σ H Q I hq
  refine wpAny_Tuple_spliced (thn (h pos pins s σ H _ I hq) fun us s1 ⟨xs, H1, I1, r, z, q⟩ => ⟨by rw [← r.length]; exact z, ?_⟩)
  have hf : H1 s1.heap.objs.size = none := I1.hok.fresh (Nat.le_refl _)
  refine ⟨.ref s1.heap.objs.size, upd H1 s1.heap.objs.size (.tup xs), I1.laid (t' := s1.toks) (fun b u e => Heap.get?_push_of_some _ e) (Nat.le_refl _) ?_, rfl, q _ hf⟩
  exact ⟨z, us, r, ⟨_, Heap.get?_push_size _ rfl, rfl, _, rfl⟩⟩
theorem pe_lst (h : PA X es t) : PE X (.List es pos) (tLst t) := by
  intro pins s σ H Q I hq
  refine wpAny_List_spliced (thn (h pos pins s σ H _ I hq) fun us s1 ⟨xs, H1, I1, r, z, q⟩ => ⟨by rw [← r.length]; exact z, ?_⟩)
  have hf : H1 s1.heap.objs.size = none := I1.hok.fresh (Nat.le_refl _)
  refine ⟨.ref s1.heap.objs.size, upd H1 s1.heap.objs.size (.lst xs), I1.laid (t' := s1.toks) (fun b u e => Heap.get?_push_of_some _ e) (Nat.le_refl _) ?_, rfl, q _ hf⟩
  exact ⟨z, us, 0, r, Heap.get?_push_size _ rfl⟩
end

/-- a def's promise: the bound arguments in the parameters' order, the heap, the wanted end, the wanted exception -/
abbrev Sp := List V → Hp → VK → XK → Prop
/-- how an exception lies behind a call (file 08 gives it): the callers' frames, abstract heap and state ahead of the call, the wish, the exception, the state -/
abbrev CXT := List Env → Hp → Shared → XK → Value → Shared → Prop

/-- the state at a call -/
structure Env0 (P : Program) (w : World) (K : PySem.W.Frag) (mg : Str → Option Value) (base : Heap) (A : Around) (outer : List Env) (s : Shared) (H : Hp) : Prop where
  frames : A.frames = some outer
  mod : Mod K mg base
  bs : ∀ b o, base.get? b = some o → s.heap.get? b = some o ∧ H b = none
  bsz : base.objs.size ≤ s.heap.objs.size
  funs : s.heap.FunFrames base outer
  frf : ∀ b ∈ frs outer, H b = none
  hok : HOk P w H s.heap
  bare : AllBare s.gens
/-- a call's end -/
def CE (outer : List Env) (P : Program) (w : World) (H : Hp) (s : Shared) (Q : VK) (u : Value) (s' : Shared) : Prop :=
  ∃ v H', s'.os = s.os ∧ AllBare s'.gens ∧ Un (frs outer) [] H H' s.heap s'.heap ∧ HOk P w H' s'.heap ∧ RelV v u ∧ Q v H'
def CR (CX : CXT) (outer : List Env) (P : Program) (w : World) (H : Hp) (s : Shared) (Q : VK) (E : XK) (r : Result) (s' : Shared) : Prop :=
  match r with
  | .ok (.ret u) => CE outer P w H s Q u s'
  | .ok _ => False
  | .error e => CX outer H s E e s'
structure FnOk (P : Program) (w : World) (K : PySem.W.Frag) (mg : Str → Option Value) (base : Heap) (CX : CXT) (k : Nat) (f : Addr) (fd : FuncData) (ps : List Str) (sp : Sp) : Prop where
  len : ∀ vs H Q E, sp vs H Q E → vs.length = ps.length
  run : ∀ (A : Around) (outer : List Env) (s : Shared) (H : Hp) (args : Args) (us : List Value) (vs : List V) (Q : VK) (E : XK), Room k A → Env0 P w K mg base A outer s H → BindsTo s fd args (ps.zip us) → Vals vs us → sp vs H Q E →
    codeAny (model P w) A (.call (.ref f) args) (CR CX outer P w H s Q E) s
theorem Env0.make {P : Program} {w : World} {K : PySem.W.Frag} {mg : Str → Option Value} {base : Heap} {A : Around} {outer : List Env} {s : Shared} {H : Hp} (e : Env0 P w K mg base A outer s H) (C : Addr) (us : List Value) (kw : List (Str × Value)) :
    Env0 P w K mg base (A.under (.builtin "type.__call__" ⟨.ref C :: us, kw⟩)) outer s H := ⟨by first | exact e.frames | (simpa [Around.under, Code.envs, Code.isFrame, pushEnvs] using e.frames), e.mod, e.bs, e.bsz, e.funs, e.frf, e.hok, e.bare⟩
section
variable {X : Cx} {pins : List (Addr × Obj)} {σ : St} {H : Hp} {s s' : Shared}
/-- from a body: what a callee wants -/
theorem Inv.env0 (I : Inv X pins σ H s) : Env0 X.prog X.w X.K X.mg X.base X.A X.stack s H :=
  ⟨I.ok.frames, I.ok.mod, I.bs, Nat.le_trans I.ok.bsz I.sz, I.stack, I.stkFree, I.hok, I.bare⟩
/-- behind a call -/
theorem Inv.after {Q : VK} {u : Value} (I : Inv X pins σ H s) (h : CE X.stack X.prog X.w H s Q u s') : EP X pins σ Q u s' := by
  obtain ⟨v, H', os, bare, un, hok, r, q⟩ := h
  obtain ⟨hh, g, d, t, os'⟩ := s'
  obtain rfl : os' = s.os := os
  exact ⟨v, H', I.call (h' := hh) (g' := g) (d' := d) (t' := t) (ch := []) un hok bare (fun b z => absurd z (by simp)), r, q⟩
end

/-- f(..): the written arguments, then the defaults dvs; E: what is wanted of an exception -/
def tCall (sp : Sp) (dvs : List V) (E : XK) (t : TA) : TE := fun σ H Q => t σ H fun vs H1 => sp (vs ++ dvs) H1 Q E
/-- C(..): a new instance and its dict, then __init__ -/
def tMake (C : Addr) (sp : Sp) (dvs : List V) (E : XK) (t : TA) : TE := fun σ H Q => t σ H fun vs H1 => ∀ x dx, H1 x = none → H1 dx = none → dx ≠ x →
  sp (.ref x :: (vs ++ dvs)) (upd (upd H1 dx (.own x)) x (.ins C dx [])) (fun v H2 => v = .non ∧ Q (.ref x) H2) E

/-- how the parameters are bound: us the positional arguments, kw the keywords' values by name, ds the defaults that fill up -/
def Binds (K : PySem.W.Frag) (fd : FuncData) (ps : List Str) (ds : List Value) : Prop :=
  ∀ (s : Shared) (us : List Value), K.In s.heap → (us ++ ds).length = ps.length → BindsTo s fd ⟨us, []⟩ (ps.zip (us ++ ds))
/-- every parameter is given -/
theorem Binds.all {K : PySem.W.Frag} {fd : FuncData} {ps : List Str} (h : ∀ us : List Value, us.length = ps.length → bindArgs fd ⟨us, []⟩ = pure (ps.zip us)) : Binds K fd ps [] := fun s us _ hl => by
  rw [List.append_nil] at hl ⊢
  exact .of_eq (h us hl)

/-- an exception of a callee reaches what this body wants of exceptions -/
def Passes (CX : CXT) (X : Cx) (E : XK) : Prop := ∀ (pins : List (Addr × Obj)) (σ : St) (H : Hp) (s : Shared) (e : Value) (s' : Shared), Inv X pins σ H s → CX X.stack H s E e s' → X.xe e s'

section
variable {X : Cx} {CX : CXT} {k : Nat} {f C : Addr} {fd : FuncData} {ps : List Str} {sp : Sp} {dvs : List V} {ds : List Value} {E : XK} {x m : Str} {p pos apos : Pos} {e o : Expr} {es : List Expr} {ta : TE} {t : TA}

/-- the callee runs -/
theorem run_fn {pins : List (Addr × Obj)} {σ : St} {H : Hp} {s : Shared} {Q : VK} {us : List Value} {vs : List V} (F : FnOk X.prog X.w X.K X.mg X.base CX k f fd ps sp) (hr : Room k X.A) (hb : Binds X.K fd ps ds) (hd : Vals dvs ds) (hx : Passes CX X E)
    (I : Inv X pins σ H s) (r : Vals vs us) (h : sp (vs ++ dvs) H Q E) : wpAny (model X.prog X.w) X.A (call (.ref f) us) (EP X pins σ Q) X.xe s := by
  have r2 : Vals (vs ++ dvs) (us ++ ds) := r.append hd
  have hl : (us ++ ds).length = ps.length := by rw [← r2.length]; exact F.len _ _ _ _ h
  refine wpAny_call (codeAny_mono (F.run X.A X.stack s H ⟨us, []⟩ (us ++ ds) (vs ++ dvs) Q E hr I.env0 (hb s us I.kIn hl) r2 h) fun r s' hq => ?_)
  cases r with
  | error e => exact hx pins σ H s e s' I hq
  | ok fl =>
    cases fl with
    | ret u => exact I.after hq
    | next => exact False.elim hq
    | brk => exact False.elim hq
    | cont => exact False.elim hq

theorem pe_call (F : FnOk X.prog X.w X.K X.mg X.base CX k f fd ps sp) (hr : Room k X.A) (hg : Gl X x) (hm : X.mg x = some (.ref f)) (hk : PySem.W.keepIn X.K (.ref f) = true) (hb : Binds X.K fd ps ds) (hd : Vals dvs ds) (hx : Passes CX X E)
    (ha : PA X (e :: es) t) (hdb : (x == ("__debug__" : Str)) = false := by decide) (he : starEach (e :: es) X.env = (false, eval e X.env) :: starEach es X.env := by rfl) (hpl : (backTo pos (starEach es X.env)).any (·.1) = false := by rfl) :
    PE X (.Call (.Name x p) (e :: es) [] pos) (tCall sp dvs E t) := by
  intro pins s σ H Q I h
  refine wpAny_Call_Name_kw (ld_glob I hg hm ?_ hdb)
  refine PySem.W.callWith_K (h₀ := X.base) I.ok.mod.kin hk (thn (ha pos pins s σ H _ I h) fun us s1 ⟨vs, H1, I1, r, q⟩ => ⟨I1.kIn, ?_⟩) he hpl
  exact run_fn F hr hb hd hx I1 r q
/-- what a class must have to be made -/
structure Mk (K : PySem.W.Frag) (C f : Addr) : Prop where
  makes : PySem.W.makesIn K C = true
  init : PySem.W.findIn K (.ref C) "__init__" = some (some (.ref f))
  fn : PySem.W.isFn K (.ref f) = true
  kp : PySem.W.keepIn K (.ref C) = true

theorem run_make {pins : List (Addr × Obj)} {σ : St} {H : Hp} {s : Shared} {Q : VK} {us : List Value} {vs : List V} (M : Mk X.K C f) (F : FnOk X.prog X.w X.K X.mg X.base CX k f fd ps sp) (hr : Room (k + 1) X.A) (hb : Binds X.K fd ps ds) (hd : Vals dvs ds)
    (hx : Passes CX X E) (I : Inv X pins σ H s) (r : Vals vs us)
    (h : ∀ x dx, H x = none → H dx = none → dx ≠ x → sp (.ref x :: (vs ++ dvs)) (upd (upd H dx (.own x)) x (.ins C dx [])) (fun v H2 => v = .non ∧ Q (.ref x) H2) E) :
    wpAny (model X.prog X.w) X.A (call (.ref C) us) (EP X pins σ Q) X.xe s := by
  have hq := h (s.heap.objs.size + 1) s.heap.objs.size (I.hok.fresh (Nat.le_succ _)) (I.hok.fresh (Nat.le_refl _)) (Nat.ne_of_lt (Nat.lt_succ_self _))
  have I2 := Inv.made (C := C) I
  have r2 : Vals (V.ref (s.heap.objs.size + 1) :: (vs ++ dvs)) (Value.ref (s.heap.objs.size + 1) :: (us ++ ds)) := .cons rfl (r.append hd)
  have hl : (Value.ref (s.heap.objs.size + 1) :: us ++ ds).length = ps.length := by
    have e := r2.length
    rw [F.len _ _ _ _ hq] at e
    exact e.symm
  refine wpAny_call (make_map (f := f) I.kIn M.makes M.init (beq_iff_eq.mp M.fn) (codeAny_mono (F.run _ X.stack _ _ ⟨Value.ref (s.heap.objs.size + 1) :: us, []⟩ (Value.ref (s.heap.objs.size + 1) :: (us ++ ds)) _ _ E (hr.make C us [])
    (I2.env0.make C us []) (hb _ (Value.ref (s.heap.objs.size + 1) :: us) I2.kIn hl) r2 hq) fun r s' hq' => ?_))
  cases r with
  | error e => exact hx pins σ _ _ e s' I2 hq'
  | ok fl =>
    cases fl with
    | ret u =>
      obtain ⟨v, H', I3, rv, ev, q3⟩ := I2.after hq'
      subst ev
      exact ⟨rv, ⟨V.ref (s.heap.objs.size + 1), H', I3, rfl, q3⟩⟩
    | next => exact False.elim hq'
    | brk => exact False.elim hq'
    | cont => exact False.elim hq'
theorem pe_make (M : Mk X.K C f) (F : FnOk X.prog X.w X.K X.mg X.base CX k f fd ps sp) (hr : Room (k + 1) X.A) (hg : Gl X x) (hm : X.mg x = some (.ref C)) (hb : Binds X.K fd ps ds) (hd : Vals dvs ds) (hx : Passes CX X E)
    (ha : PA X (e :: es) t) (hdb : (x == ("__debug__" : Str)) = false := by decide) (he : starEach (e :: es) X.env = (false, eval e X.env) :: starEach es X.env := by rfl) (hpl : (backTo pos (starEach es X.env)).any (·.1) = false := by rfl) :
    PE X (.Call (.Name x p) (e :: es) [] pos) (tMake C sp dvs E t) := by
  intro pins s σ H Q I h
  refine wpAny_Call_Name_kw (ld_glob I hg hm ?_ hdb)
  refine PySem.W.callWith_K (h₀ := X.base) I.ok.mod.kin M.kp (thn (ha pos pins s σ H _ I h) fun us s1 ⟨vs, H1, I1, r, q⟩ => ⟨I1.kIn, ?_⟩) he hpl
  exact run_make M F hr hb hd hx I1 r q
end

section
variable {X : Cx} {CX : CXT} {k : Nat} {f C : Addr} {fd : FuncData} {ps ks : List Str} {sp : Sp} {E : XK} {x m : Str} {p pos apos kpos : Pos} {e o : Expr} {es : List Expr} {kws : List Keyword} {te ta : TE} {t tk : TA} {nm : Option Str}
variable {g : List Value → List Value → List Value} {gV : List V → List V → List V}
end

/-- names: the parameters first -/
structure FnScope (N P : List Str) (sc : Scope) : Prop where
  kind : sc.kind = .function
  co : sc.isCoroutine = false
  gen : sc.isGenerator = false
  nd : N.Nodup
  pre : N.take P.length = P
  par : ∀ x ∈ P, sc.names.lookup x = some .local ∨ sc.names.lookup x = some .cell
  nofree : ∀ y ∈ sc.names, y.2 ≠ .free

theorem bindL_out {kindOf : Str → Option NameKind} {x : Str} : ∀ {binds : List (Str × Value)} {m : Str → Option Value}, (∀ v, (x, v) ∉ binds) → bindL kindOf binds m x = m x
  | [], _, _ => rfl
  | (n, v) :: r, m, h => by
    unfold bindL
    rw [bindL_out fun w hw => h w (List.mem_cons_of_mem _ hw)]
    split
    · have : x ≠ n := by rintro rfl; exact h v List.mem_cons_self
      simp [this]
    · rfl
theorem bindC_out {kindOf : Str → Option NameKind} {x : Str} : ∀ {binds : List (Str × Value)} {m : Str → Option Value}, (∀ v, (x, v) ∉ binds) → bindC kindOf binds m x = m x
  | [], _, _ => rfl
  | (n, v) :: r, m, h => by
    unfold bindC
    rw [bindC_out fun w hw => h w (List.mem_cons_of_mem _ hw)]
    split
    · rfl
    · have : x ≠ n := by rintro rfl; exact h v List.mem_cons_self
      simp [this]
theorem bindL_get {kindOf : Str → Option NameKind} {x : Str} {v : Value} : ∀ {P : List Str} {vs : List Value} {i : Nat} {m : Str → Option Value}, P.Nodup → P[i]? = some x → vs[i]? = some v → kindOf x = some .local →
    bindL kindOf (P.zip vs) m x = some v
  | [], _, _, _, _, h, _, _ => by simp at h
  | _ :: _, [], _, _, _, _, h, _ => by simp at h
  | p :: P, w :: vs, 0, m, nd, h1, h2, hk => by
    simp at h1 h2; subst h1; subst h2
    show bindL kindOf ((p, w) :: P.zip vs) m p = _
    unfold bindL
    rw [bindL_out fun v hv => (List.nodup_cons.mp nd).1 (List.of_mem_zip hv).1, if_pos hk]
    simp
  | p :: P, w :: vs, i + 1, m, nd, h1, h2, hk => by
    show bindL kindOf ((p, w) :: P.zip vs) m x = _
    unfold bindL
    exact bindL_get (i := i) (List.nodup_cons.mp nd).2 (by simpa using h1) (by simpa using h2) hk
theorem bindC_get {kindOf : Str → Option NameKind} {x : Str} {v : Value} : ∀ {P : List Str} {vs : List Value} {i : Nat} {m : Str → Option Value}, P.Nodup → P[i]? = some x → vs[i]? = some v → kindOf x ≠ some .local →
    bindC kindOf (P.zip vs) m x = some v
  | [], _, _, _, _, h, _, _ => by simp at h
  | _ :: _, [], _, _, _, _, h, _ => by simp at h
  | p :: P, w :: vs, 0, m, nd, h1, h2, hk => by
    simp at h1 h2; subst h1; subst h2
    show bindC kindOf ((p, w) :: P.zip vs) m p = _
    unfold bindC
    rw [bindC_out fun v hv => (List.nodup_cons.mp nd).1 (List.of_mem_zip hv).1, if_neg hk]
    simp
  | p :: P, w :: vs, i + 1, m, nd, h1, h2, hk => by
    show bindC kindOf ((p, w) :: P.zip vs) m x = _
    unfold bindC
    exact bindC_get (i := i) (List.nodup_cons.mp nd).2 (by simpa using h1) (by simpa using h2) hk

/-- the names' values at the entry -/
def start (N : List Str) (vs : List V) : St := vs.map some ++ List.replicate (N.length - vs.length) none

/-- the context of a def's body, at its entry; an exception leaves the frame, then lies as CX says -/
def cxOf (CX : CXT) (P : Program) (w : World) (K : PySem.W.Frag) (mg : Str → Option Value) (base : Heap) (N : List Str) (qual : Str) (scope : Scope) (f : Addr) (cd : Value) (A : Around) (outer : List Env) (s : Shared) (H : Hp) (E : XK) : Cx where
  prog := P
  w := w
  K := K
  mg := mg
  base := base
  A := A.deeper (envOfC qual scope s.heap.objs.size f cd)
  N := N
  s_0 := s
  H_0 := H
  env := envOfC qual scope s.heap.objs.size f cd
  outer := outer
  stack := envOfC qual scope s.heap.objs.size f cd :: outer
  ex := []
  calm := true
  fn := fun _ => true
  pn := []
  xe := fun e s' => wpAny (model P w) (A.deeper (envOfC qual scope s.heap.objs.size f cd)) (leaving (envOfC qual scope s.heap.objs.size f cd) e) (fun _ s'' => CX outer H s E e s'') (fun e' s'' => CX outer H s E e' s'') s'

theorem cell_has {sc : Scope} {n : Nat} {x : Str} (h : sc.names.lookup x = some .cell) : ∃ c, (cellsFrom n sc.names []).lookup x = some c := by
  have q := PySem.W.cellsFrom_some sc.names n [] (.inl h)
  exact Option.isSome_iff_exists.mp q

theorem inv_start {CX : CXT} {P : Program} {w : World} {K : PySem.W.Frag} {mg : Str → Option Value} {base : Heap} {N ps : List Str} {qual : Str} {scope : Scope} {f : Addr} {cd : Value} {A : Around} {outer : List Env} {s s1 : Shared} {H : Hp} {E : XK} {us : List Value} {vs : List V}
    (S : FnScope N ps scope) (hd : A.handled = none) (e0 : Env0 P w K mg base A outer s H) (hl : vs.length = ps.length) (r : Vals vs us)
    (x : InCallC s s.heap.objs.size (bindL (envOfC qual scope s.heap.objs.size f cd).kindOf (ps.zip us) fun _ => none) (cellsFrom (s.heap.objs.size + 1) scope.names []) (bindC (envOfC qual scope s.heap.objs.size f cd).kindOf (ps.zip us) fun _ => none) s1) :
    Inv (cxOf CX P w K mg base N qual scope f cd A outer s H E) [] (start N vs) H s1 := by
  have hpl : ps.length ≤ N.length := by have := congrArg List.length S.pre; rw [List.length_take] at this; omega
  obtain ⟨h1, tk, rfl, hk⟩ := x.done
  have noA : ∀ b : Addr, b ∉ (cxOf CX P w K mg base N qual scope f cd A outer s H E).ex := fun b z => absurd (show b ∈ ([] : List Addr) from z) (by simp)
  refine ⟨⟨e0.mod, S.kind, rfl, rfl, Nat.le_refl _, fun y z c h1 h2 => ?_, fun y hy => ?_, fun y c _ h => ?_, fun _ => hd, Around.frames_deeper e0.frames, .inr ⟨rfl, rfl⟩, fun b z => absurd z (noA b), e0.bs, e0.bsz, fun b _ _ => noA b, fun b z => absurd z (noA b), e0.funs, e0.frf⟩,
    rfl, e0.bare, Un.kept hk, ⟨_, x.toInCall.ns, fun i y v h1 h2 h3 => ?_⟩, fun y c h => ⟨_, x.cell y c h⟩, e0.hok.fresh (Nat.le_refl _), fun y c h => ?_, fun p hp => absurd (show p ∈ ([] : List (Addr × Obj)) from hp) (by simp), e0.hok.kept hk, ?_⟩
  · exact name_of_addr x.apart (PySem.mem_of_lookup h1) (PySem.mem_of_lookup h2)
  · have hy : scope.names.lookup y = some .cell ∨ scope.names.lookup y = some .free := hy
    rcases hy with hy | hy
    · exact cell_has hy
    · exact absurd rfl (S.nofree _ (PySem.mem_of_lookup hy))
  · exact Nat.le_of_lt (x.above y c (PySem.mem_of_lookup h))
  · have hi : i < vs.length := by
      unfold start at h2
      by_cases hi : i < vs.length
      · exact hi
      · rw [List.getElem?_append_right (by simpa using hi)] at h2
        rw [List.getElem?_replicate] at h2
        split at h2 <;> cases h2
    have ha : vs[i]? = some v := by
      unfold start at h2
      rw [List.getElem?_append_left (by simpa using hi), List.getElem?_map] at h2
      cases e : vs[i]? with
      | none => rw [e] at h2; cases h2
      | some a => rw [e] at h2; cases h2; rfl
    obtain ⟨u, hu, rv⟩ := r.get ha
    have hp : ps[i]? = some y := by
      rw [← S.pre, List.getElem?_take_of_lt (by omega)]; exact h1
    have ndP : ps.Nodup := by rw [← S.pre]; exact S.nd.sublist (List.take_sublist _ _)
    refine ⟨u, rv, ?_⟩
    rcases S.par y (List.mem_of_getElem? hp) with k | k
    · exact .inl ⟨k, bindL_get ndP hp hu k⟩
    · obtain ⟨c, e⟩ := cell_has (n := s.heap.objs.size + 1) k
      refine .inr ⟨.inl k, c, e, ?_⟩
      have q := x.cell y c e
      rw [bindC_get ndP hp hu (by show scope.names.lookup y ≠ _; rw [k]; decide)] at q
      exact q
  · exact e0.hok.fresh (Nat.le_of_lt (x.above y c (PySem.mem_of_lookup h)))
  · unfold start
    show _ = N.length
    rw [List.length_append, List.length_map, List.length_replicate]
    omega

/-- THE RULE: a def (or a method) of the text, by its body. The body's reading t is chosen for each entry; it is run at the parameters' values -/
theorem fn_of {CX : CXT} {P : Program} {w : World} {K : PySem.W.Frag} {mg : Str → Option Value} {base : Heap} {k : Nat} {f : Addr} {name qual : Str} {params : Arguments} {body : List Stmt} {scope : Scope} {dV kV doc pm cdv ct oc : Value} {an od : Option Addr}
    {osl : Array (Option Value)} {N ps : List Str} {sp : Sp} (lk : K.lookup f = some ⟨oc, od, .func (PySem.W.fnOf name qual params body scope dV kV doc pm an cdv ct), osl⟩) (hcd : PySem.W.codeIn K cdv qual = true) (S : FnScope N ps scope)
    (len : ∀ vs H Q E, sp vs H Q E → vs.length = ps.length)
    (hbody : ∀ (A : Around) (outer : List Env) (s : Shared) (H : Hp) (vs : List V) (Q : VK) (E : XK), Room k (A.deeper (envOfC qual scope s.heap.objs.size f cdv)) → sp vs H Q E →
      ∃ t, PSs (cxOf CX P w K mg base N qual scope f cdv A outer s H E) body t ∧ t { nx := fun _ H' => Q .non H', rt := Q } (start N vs) H) :
    FnOk P w K mg base CX (k + 1) f (PySem.W.fnOf name qual params body scope dV kV doc pm an cdv ct) ps sp := by
  refine ⟨len, fun A outer s H args us vs Q E hr e0 hb r hsp => ?_⟩
  have hl := len _ _ _ _ hsp
  have KX : K.In s.heap := e0.mod.kin.keeps fun b o e => (e0.bs b o e).1
  have lim : s.heap.NoLimit := e0.mod.nolimit.keeps fun b o e => (e0.bs b o e).1
  have hkind : ∀ y ∈ ps.zip us, scope.names.lookup y.1 = some .local ∨ (scope.names.lookup y.1 = some .cell ∧ ((cellsFrom (s.heap.objs.size + 1) scope.names []).lookup y.1).isSome = true) := fun ⟨n, v⟩ hy => by
    rcases S.par n (List.of_mem_zip hy).1 with q | q
    · exact .inl q
    · exact .inr ⟨q, PySem.W.cellsFrom_some _ _ _ (.inl q)⟩
  refine codeAny_call_function hr.depth (KX _ _ lk) rfl S.co S.gen rfl (PySem.W.codeRec_of KX hcd) (hb _ _ _ _ ?_)
  refine wpAny_newFunctionEnv_cells S.kind hkind fun env he s1 x => ?_
  subst he
  refine ⟨lim.keeps x.toInCall.keep, codeAny_func ?_⟩
  obtain ⟨t, ht, hq⟩ := hbody A outer s H vs Q E (hr.deeper _) hsp
  have I : Inv (cxOf CX P w K mg base N qual scope f cdv A outer s H E) [] (start N vs) H s1 := inv_start S hr.hd e0 hl r x
  refine wpAny_mono (ht [] s1 (start N vs) H _ I hq) (fun fl s' hs => ?_) fun e s' hs => hs
  have fin : ∀ {σ' : St} {H' : Hp} {v : V} {u : Value}, Inv (cxOf CX P w K mg base N qual scope f cdv A outer s H E) [] σ' H' s' → RelV v u → Q v H' → CE outer P w H s Q u s' :=
    fun {σ' H' v u} J rv q => ⟨v, H', J.os, J.bare, J.base, J.hok, rv, q⟩
  cases fl with
  | ret u =>
    obtain ⟨v, σ', H', J, rv, q⟩ := hs
    exact fin J rv q
  | next =>
    obtain ⟨σ', H', J, q⟩ := hs
    exact fin (v := V.non) (u := Value.none) J rfl q
  | brk =>
    obtain ⟨_, _, _, q⟩ := hs
    exact False.elim q
  | cont =>
    obtain ⟨_, _, _, q⟩ := hs
    exact False.elim q
end L2

namespace L2
open PySem PySem.Spec PyProof.Rows
section
variable {X : Cx} {x : Str} {p pos : Pos} {e : Expr} {es : List Expr} {t : TA} {id T : String} {r : List V → Hp → VK → Prop}

def tCB (r : List V → Hp → VK → Prop) (t : TA) : TE := fun σ H Q => t σ H fun vs H1 => r vs H1 Q
/-- f(e, ..), f a built-in function -/
theorem pe_callB (hc : CallR X (.builtin id) r) (hg : Gl X x) (hm : X.mg x = none) (hv : bootBuiltins x = some (.builtin id)) (ha : PA X (e :: es) t) (hn : x ≠ "__name__" := by decide) (hdb : (x == ("__debug__" : Str)) = false := by decide)
    (he : starEach (e :: es) X.env = (false, eval e X.env) :: starEach es X.env := by rfl) (hpl : (backTo pos (starEach es X.env)).any (·.1) = false := by rfl) : PE X (.Call (.Name x p) (e :: es) [] pos) (tCB r t) := by
  intro pins s σ H Q I h
  refine wpAny_Call_Name_kw (ld_blt I hg hm hv ?_ hn hdb)
  exact PyProof.Rows.callWith_builtin1 (thn (ha pos pins s σ H _ I h) fun us s1 ⟨vs, H1, I1, r1, q1⟩ => hc pins s1 σ H1 vs us Q I1 r1 q1) he hpl
/-- T(e, ..), T a built-in type -/
theorem pe_callTy (hc : CallR X (.type T) r) (hg : Gl X x) (hm : X.mg x = none) (hv : bootBuiltins x = some (.type T)) (ha : PA X (e :: es) t) (hn : x ≠ "__name__" := by decide) (hdb : (x == ("__debug__" : Str)) = false := by decide)
    (he : starEach (e :: es) X.env = (false, eval e X.env) :: starEach es X.env := by rfl) (hpl : (backTo pos (starEach es X.env)).any (·.1) = false := by rfl) : PE X (.Call (.Name x p) (e :: es) [] pos) (tCB r t) := by
  intro pins s σ H Q I h
  refine wpAny_Call_Name_kw (ld_blt I hg hm hv ?_ hn hdb)
  exact PyProof.Rows.callWith_type1 (thn (ha pos pins s σ H _ I h) fun us s1 ⟨vs, H1, I1, r1, q1⟩ => hc pins s1 σ H1 vs us Q I1 r1 q1) he hpl
end
end L2

namespace HT
open PySem PyProof.Rows

section
open PySem.SeqAt
open PySem.AutoSeq1 (wpAny_loadPart')
open PySem.MeetsSeq PySem.MeetsSeq2 PySem.MeetsSeq3

end

section
variable {prog : Program} {w : World} {A : Around} {E : Value → Shared → Prop} {s : Shared}

end
end HT

namespace L2
open PySem PySem.Spec PyProof.Rows

section
variable {X : Cx} {e : Expr} {te : TE} {lo hi : Option Expr} {tl th : TO} {pos p2 : Pos}

end
end L2

namespace L2
open PySem PySem.Spec PyProof.Rows

/-- the place that an index of any sign means -/
def ixN (n : Nat) (i : Int) : Option Nat := if 0 ≤ i then (if i < n then some i.toNat else none) else if -(n : Int) ≤ i then some (i + n).toNat else none
def atI {α : Type} (xs : List α) (i : Int) : Option α := (ixN xs.length i).bind fun j => xs[j]?
theorem ixN_seq {n : Nat} {i : Int} {j : Nat} (h : ixN n i = some j) : seqIndex? i n = some j ∧ j < n ∧ -(n : Int) ≤ i ∧ i < n := by
  unfold ixN at h
  by_cases h0 : 0 ≤ i
  · rw [if_pos h0] at h
    by_cases h1 : i < n
    · rw [if_pos h1] at h
      have e : i.toNat = j := Option.some.inj h
      exact ⟨by rw [seqIndex_of h0 h1, e], by omega, by omega, h1⟩
    · rw [if_neg h1] at h; cases h
  · rw [if_neg h0] at h
    by_cases h1 : -(n : Int) ≤ i
    · rw [if_pos h1] at h
      have e : (i + n).toNat = j := Option.some.inj h
      exact ⟨by rw [seqIndex_neg (by omega) h1, e], by omega, h1, by omega⟩
    · rw [if_neg h1] at h; cases h
theorem atI_get {α : Type} {xs : List α} {i : Int} {v : α} (h : atI xs i = some v) : ∃ j, seqIndex? i xs.length = some j ∧ xs[j]? = some v ∧ j < xs.length ∧ -(xs.length : Int) ≤ i ∧ i < xs.length := by
  unfold atI at h
  cases e : ixN xs.length i with
  | none => rw [e] at h; cases h
  | some j =>
    rw [e] at h
    obtain ⟨h1, h2, h3, h4⟩ := ixN_seq e
    exact ⟨j, h1, h, h2, h3, h4⟩
theorem atI_nat {α : Type} {xs : List α} {j : Nat} {v : α} (h : xs[j]? = some v) : atI xs (j : Int) = some v := by
  have hj : j < xs.length := (List.getElem?_eq_some_iff.mp h).1
  have e : ixN xs.length (j : Int) = some j := by
    unfold ixN
    rw [if_pos (by omega), if_pos (by omega)]; simp
  unfold atI; rw [e]; exact h
/-- what stands as an index of a plain subscript -/
def PlainIx (b : Expr) : Prop := ∀ o i, subscripted b false o i = operate [o, i] (getItem o i)
/-- a subscript by values -/
def IxR (X : Cx) (r : R2) : Prop :=
  ∀ (value slice : Expr) (pins : List (Addr × Obj)) (s : Shared) (σ : St) (H : Hp) (x y : V) (v u : Value) (Q : VK), Inv X pins σ H s → RelV x v → RelV y u → r x y H Q →
    subscripted slice false v u = operate [v, u] (getItem v u) → wpAny (model X.prog X.w) X.A (subscriptTail value slice v u) (EP X pins σ Q) X.xe s
/-- a call of a builtin's method by values: the receiver, the arguments -/
def MtR (X : Cx) (id : String) (r : V → List V → Hp → VK → Prop) : Prop :=
  ∀ (pins : List (Addr × Obj)) (s : Shared) (σ : St) (H : Hp) (x : V) (xs : List V) (v : Value) (us : List Value) (Q : VK), Inv X pins σ H s → RelV x v → Vals xs us → r x xs H Q →
    wpAny (model X.prog X.w) X.A (call (.builtin id) (v :: us)) (EP X pins σ Q) X.xe s
section
variable {X : Cx} {a b : Expr} {ta tb : TE} {pos : Pos}
/-- a[b] -/
theorem pe_ix {r : R2} (hr : IxR X r) (ha : PE X a ta) (hb : PE X b tb) (hs : PlainIx b) : PE X (.Subscript a b pos) (tOp r ta tb) := by
  intro pins s σ H Q I h
  exact Subscript_ (binT ha hb I h fun v u s2 x y H2 I2 rx ry q => hr a b pins s2 σ H2 x y v u Q I2 rx ry q (hs _ _))

def rIxL (K : PySem.W.Frag) : R2 := fun x y H Q => ∃ p xs i v, x = .ref p ∧ y = .int i ∧ SqL K H p xs ∧ atI xs i = some v ∧ Q v H
def rIxT (K : PySem.W.Frag) : R2 := fun x y H Q => ∃ p xs i v, x = .ref p ∧ y = .int i ∧ SqT K H p xs ∧ atI xs i = some v ∧ Q v H
theorem ix_list : IxR X (rIxL X.K) := by
  intro value slice pins s σ H x y v u Q I rx ry h hs
  obtain ⟨p, xs, i, z, rfl, rfl, hq, he, q⟩ := h
  cases rx
  obtain ⟨t, rfl⟩ := ry
  obtain ⟨its, r, pl, hz⟩ := I.list hq
  obtain ⟨j, h1, h2, h3, h4, h5⟩ := atI_get he
  obtain ⟨w, ew, rw'⟩ := r.get h2
  have hl := r.length
  have hn := line63
  have fin : EP X pins σ Q w s := ⟨z, H, I, rw', q⟩
  by_cases h0 : 0 ≤ i
  · have hj : i.toNat = j := by
      rw [seqIndex_of h0 h5] at h1
      exact Option.some.inj h1
    exact item_listR pl.isList h0 (by omega) (by rw [hj]; simpa using ew) fin hs
  · have hj : (i + (its.toArray.size : Int)).toNat = j := by
      rw [seqIndex_neg (by omega) h4] at h1
      rw [List.size_toArray, ← hl]
      exact Option.some.inj h1
    exact subscriptTail_builtinR (x := w) pl.isList.typeIs slot_list_getitem.lookup
      (wpAny_getItem_list_neg (Q := fun r s' => r = w ∧ EP X pins σ Q r s') pl.isList (by omega) (by rw [List.size_toArray] <;> omega) (by omega) (by rw [hj]; simpa using ew) ⟨rfl, fin⟩) hs
theorem ix_tup : IxR X (rIxT X.K) := by
  intro value slice pins s σ H x y v u Q I rx ry h hs
  obtain ⟨p, xs, i, z, rfl, rfl, hq, he, q⟩ := h
  cases rx
  obtain ⟨t, rfl⟩ := ry
  obtain ⟨its, r, pl, hz⟩ := I.tuple hq
  obtain ⟨j, h1, h2, h3, h4, h5⟩ := atI_get he
  obtain ⟨w, ew, rw'⟩ := r.get h2
  have hl := r.length
  have hn := line63
  have fin : EP X pins σ Q w s := ⟨z, H, I, rw', q⟩
  exact subscriptTail_builtinR (x := w) pl.typeIs slot_tuple_getitem.lookup
    (getItem_tuple (j := j) (Q := fun r s' => r = w ∧ EP X pins σ Q r s') pl (by omega) (by omega) (by rw [List.size_toArray, ← hl]; exact h1) (by simpa using ew) ⟨rfl, fin⟩) hs
theorem call_len_seq : CallR X (.builtin "len") (fun xs H Q => ∃ p ys, xs = [.ref p] ∧ (SqL X.K H p ys ∨ SqT X.K H p ys) ∧ Q (.int ys.length) H) := by
  intro pins s σ H xs us Q I r h
  obtain ⟨p, ys, rfl, hq, q⟩ := h
  obtain ⟨u, rfl, rx⟩ := vals1 r
  cases rx
  have hn := line63
  rcases hq with hq | hq
  · obtain ⟨its, r', pl, hz⟩ := I.list hq
    have hlen := r'.length
    exact Calls.call_len_list pl.isList (by simp only [List.size_toArray] <;> omega) ⟨.int ys.length, H, I.tok _, ⟨s.toks + 1, by rw [List.size_toArray, hlen]⟩, q⟩
  · obtain ⟨its, r', pl, hz⟩ := I.tuple hq
    have hlen := r'.length
    exact len_tuple pl (by simp only [List.size_toArray] <;> omega) ⟨.int ys.length, H, I.tok _, ⟨s.toks + 1, by rw [List.size_toArray, hlen]⟩, q⟩
theorem call_list_of : CallR X (.type "list") (fun xs H Q => ∃ p ys, xs = [.ref p] ∧ (SqL X.K H p ys ∨ SqT X.K H p ys) ∧ ∀ l, H l = none → Q (.ref l) (upd H l (.lst ys))) := by
  intro pins s σ H xs us Q I r h
  obtain ⟨p, ys, rfl, hq, q⟩ := h
  obtain ⟨u, rfl, rx⟩ := vals1 r
  cases rx
  have fin : ∀ (its : List Value), Vals ys its → ys.length ≤ sizeLine → ∀ (h' : Heap) (c' : Nat), (∀ b o', s.heap.get? b = some o' → h'.get? b = some o') →
      h'.get? s.heap.objs.size = some { cls := .type "list", dict := none, data := .seq its.toArray c', slots := #[] } → EP X pins σ Q (.ref s.heap.objs.size) { s with heap := h' } := fun its r' hz h' c' kp e =>
    ⟨.ref s.heap.objs.size, _, I.laid (t' := s.toks) kp (Nat.le_refl _) (show ObjOk X.prog X.w _ h' _ (.lst ys) from ⟨hz, its, c', r', e⟩), rfl, q _ (I.hok.fresh (Nat.le_refl _))⟩
  rcases hq with hq | hq
  · obtain ⟨its, r', pl, hz⟩ := I.list hq
    have hlen := r'.length
    obtain ⟨o, ho, hc, n, hd⟩ := pl.isList
    exact call_list_seq p (.inl rfl) ho hc hd (fun h' c' kp e => fin its r' hz h' c' kp e) (by simp only [List.size_toArray] <;> omega)
  · obtain ⟨its, r', pl, hz⟩ := I.tuple hq
    have hlen := r'.length
    obtain ⟨o, ho, hc, n, hd⟩ := pl
    exact call_list_seq p (.inr rfl) ho hc hd (fun h' c' kp e => fin its r' hz h' c' kp e) (by simp only [List.size_toArray] <;> omega)
/-- the value is of that builtin type -/
def tyV (K : PySem.W.Frag) (T : String) (x : V) (H : Hp) : Prop := match x with
  | .str _ => T = "str"
  | .int _ => T = "int"
  | .ref p => (T = "list" ∧ ∃ xs, SqL K H p xs) ∨ (T = "tuple" ∧ ∃ o, K.lookup p = some o ∧ o.cls = .type "tuple" ∧ o.dict = none) ∨
      (T = "dict" ∧ ((∃ kvs, H p = some (.dK kvs)) ∨ ∃ kvs, H p = some (.dT kvs))) ∨ (T = "set" ∧ ∃ S n, H p = some (.set S n))
  | _ => False
theorem tyV_is {pins : List (Addr × Obj)} {σ : St} {H : Hp} {s : Shared} {T : String} {x : V} {v : Value} (I : Inv X pins σ H s) (r : RelV x v) (ty : tyV X.K T x H) :
    s.TypeIs v T ∧ ∀ a, v = .ref a → ∃ ob, s.heap.get? a = some ob ∧ ob.dict = none := by
  cases x with
  | str z =>
    obtain ⟨t, rfl⟩ := r
    cases (show T = "str" from ty)
    exact ⟨typeIs_str s z t, fun _ e => nomatch e⟩
  | int i =>
    obtain ⟨t, rfl⟩ := r
    cases (show T = "int" from ty)
    exact ⟨typeIs_int s i t, fun _ e => nomatch e⟩
  | ref p =>
    cases r
    rcases ty with ⟨rfl, xs, hq⟩ | ⟨rfl, o, hk, hc, hd⟩ | ⟨rfl, hk⟩ | ⟨rfl, S, n, hk⟩
    · obtain ⟨its, _, pl, _⟩ := I.list hq
      refine ⟨pl.isList.typeIs, fun a e => ?_⟩
      cases e
      obtain ⟨o, n, e, c, hd, _⟩ := pl
      exact ⟨o, e, hd⟩
    · refine ⟨⟨o, I.kIn p o hk, hc⟩, fun a e => ?_⟩
      cases e
      exact ⟨o, I.kIn _ o hk, hd⟩
    · have z : ∃ o, s.heap.get? p = some o ∧ o.ExactDict := by
        rcases hk with ⟨kvs, hk⟩ | ⟨kvs, hk⟩
        · obtain ⟨_, _, _, _, o, _, _, e, ex, _⟩ := I.hok p _ hk
          exact ⟨o, e, ex⟩
        · obtain ⟨_, _, _, _, o, _, _, e, ex, _⟩ := I.hok p _ hk
          exact ⟨o, e, ex⟩
      obtain ⟨o, e, ex⟩ := z
      refine ⟨⟨o, e, ex.1⟩, fun a e2 => ?_⟩
      cases e2
      exact ⟨o, e, ex.2.1⟩
    · obtain ⟨o, _, _, _, e, ex, _⟩ := I.hok p _ hk
      refine ⟨⟨o, e, ex.1⟩, fun a e2 => ?_⟩
      cases e2
      exact ⟨o, e, ex.2.1⟩
  | _ => exact False.elim ty
def tBM0 (K : PySem.W.Frag) (T : String) (r : V → List V → Hp → VK → Prop) (to : TE) : TE := fun σ H Q => to σ H fun x H1 => tyV K T x H1 ∧ r x [] H1 Q
variable {o e : Expr} {es : List Expr} {to : TE} {t : TA} {name : Str} {apos cpos : Pos} {T id : String} {r : V → List V → Hp → VK → Prop}
theorem pe_bm0 (pa : PlainAttrs T) (slot : Slot T name id) (hty : typeOf (.builtin id) = pure (.type "method_descriptor")) (hm : MtR X id r) (ho : PE X o to)
    (hbase : attributeBase o name X.env (eval o X.env) = eval o X.env := by rfl) (hline : (apos.endLine == cpos.line) = true := by rfl) : PE X (.Call (.Attribute o name apos) [] [] cpos) (tBM0 X.K T r to) := by
  intro pins s σ H Q I h
  refine wpAny_Call_method0_late hbase hline (thn (ho pins s σ H _ I h) fun v s1 ⟨x, H1, I1, r1, ty, q1⟩ => ?_)
  obtain ⟨h1, h2⟩ := tyV_is I1 r1 ty
  exact ⟨T, id, pa, slot, hty, h1, h2, Calls.callWith_builtin rfl (PySem.evalArgs_none (hm pins s1 σ H1 x [] v [] Q I1 r1 .nil q1))⟩
end
end L2

namespace L2
open PySem PySem.Spec PyProof.Rows

section
variable {X : Cx} {pins : List (Addr × Obj)} {σ : St} {H : Hp} {s : Shared} {l b : Addr} {xs ys zs : List V}

theorem Inv.lnew {its : List Value} {t' : Nat} (I : Inv X pins σ H s) (hv : Vals ys its) (hz : ys.length ≤ sizeLine) :
    Inv X pins σ (upd H s.heap.objs.size (.lst ys)) { s with heap := s.heap.push { cls := .type "list", data := .seq its.toArray }, toks := t' } :=
  I.laid (fun _ _ q => Heap.get?_push_of_some _ q) (Nat.le_refl _) ⟨hz, its, 0, hv, Heap.get?_push_size _ rfl⟩
theorem Inv.fresh (I : Inv X pins σ H s) : H s.heap.objs.size = none := I.hok.fresh (Nat.le_refl _)
theorem Inv.lstM (I : Inv X pins σ H s) (hH : H l = some (.lst xs)) : xs.length ≤ sizeLine ∧ ∃ (its : List Value) (n : Nat), Vals xs its ∧ xs.length = its.length ∧ s.heap.get? l = some { cls := .type "list", data := .seq its.toArray n } := by
  obtain ⟨z, its, n, r, e⟩ := I.hok l _ hH
  exact ⟨z, its, n, r, r.length, e⟩

end

section
variable {X : Cx}

def rCat : R2 := fun x y H Q => ∃ l b xs zs, x = .ref l ∧ y = .ref b ∧ H l = some (.lst xs) ∧ H b = some (.lst zs) ∧ xs.length + zs.length ≤ sizeLine ∧ ∀ p, H p = none → Q (.ref p) (upd H p (.lst (xs ++ zs)))
theorem op_cat : OpR X (binaryOp .Add) rCat := by
  intro pins s σ H x y v u Q I rx ry h
  obtain ⟨l, b, xs, zs, rfl, rfl, hH, hB, hz, q⟩ := h
  cases rx
  cases ry
  obtain ⟨z, its, n, r, hl, e⟩ := I.lstM hH
  obtain ⟨z2, its2, n2, r2, hl2, e2⟩ := I.lstM hB
  refine PySem.P.add_list e e2 ?_ (by rw [List.size_toArray, List.size_toArray]; omega)
  have ea : its.toArray ++ its2.toArray = (its ++ its2).toArray := by simp
  rw [ea]
  exact ⟨.ref _, _, I.lnew (t' := s.toks) (r.append r2) (by rw [List.length_append]; omega), rfl, q _ I.fresh⟩
end

section
variable {prog : Program} {w : World} {A : Around} {E : Value → Shared → Prop} {s : Shared}
end

section
variable {X : Cx}
end
end L2

namespace L2
open PySem PySem.Spec PyProof.Rows

theorem Vals.ints : ∀ {ns : List Int} {us : List Value}, Vals (ns.map V.int) us → IntsAre us ns
  | [], us, h => by
    rw [List.map_nil] at h
    cases h
    exact IntsAre.nil
  | n :: ns, us, h => by
    rw [List.map_cons] at h
    cases h with
    | cons r t =>
      obtain ⟨k, rfl⟩ := r
      exact IntsAre.cons n k (Vals.ints t)
theorem Vals.bls : ∀ {bs : List Bool} {us : List Value}, Vals (bs.map V.bl) us → us = bs.map Value.bool
  | [], us, h => by
    rw [List.map_nil] at h
    cases h
    rfl
  | b :: bs, us, h => by
    rw [List.map_cons] at h
    cases h with
    | cons r t =>
      cases r
      rw [Vals.bls t, List.map_cons]
theorem Vals.ref1 {a : Addr} {us : List Value} (r : Vals [V.ref a] us) : us = [Value.ref a] := by
  cases r with
  | cons r t =>
    cases t
    cases r
    rfl
section
variable {prog : Program} {w : World} {A : Around} {E : Value → Shared → Prop} {s : Shared} {l : Addr} {its : List Value} {ns : List Int} {Q : Value → Shared → Prop}
end

section
variable {X : Cx}
end

section
variable {X : Cx}
end

section
variable {X : Cx}
end

theorem iter_any {prog : Program} {w : World} {A : Around} {E : Value → Shared → Prop} {s : Shared} {l : Addr} {items : Array Value} {Q : Value → Shared → Prop} (hl : s.heap.IsList l items)
    (h : ∀ s₂ : Shared, s₂ = { s with heap := s.heap.push { cls := .type "list_iterator", data := .fields #[.ref l, .int 0 0] } } →
      (s₂.heap.IsListIter s.heap.objs.size l 0 ∧ s₂.heap.IsList l items) → l ≠ s.heap.objs.size → Q (.ref s.heap.objs.size) s₂) : wpAny (model prog w) A (pyIter (.ref l)) Q E s := by
  have hlt : l < s.heap.objs.size := by obtain ⟨_, e, _⟩ := hl; exact Heap.lt_size e
  exact wpAny_pyIter_list hl (h _ rfl ⟨⟨_, Heap.get?_push_size _ rfl, rfl, rfl⟩, hl.push _⟩ (Nat.ne_of_lt hlt))
theorem truth_bools {prog : Program} {w : World} {A : Around} {bs : List Bool} {its : List Value} (e : its = bs.map Value.bool) :
    TruthOf prog w A (fun i v => its.toArray[i]? = some v) (fun i => bs.getD i false) := fun i v s Q E hv hq => by
  have hv' : its[i]? = some v := by simpa using hv
  rw [e, List.getElem?_map] at hv'
  obtain ⟨b, hb, rfl⟩ := Option.map_eq_some_iff.mp hv'
  have hg : bs.getD i false = b := by rw [List.getD_eq_getElem?_getD, hb] <;> rfl
  have hq' : Q (bs.getD i false) s := hq
  rw [hg] at hq'
  exact wpAny_truthy_bool hq'
theorem any_range : ∀ bs : List Bool, (List.range bs.length).any (fun i => bs.getD i false) = bs.any id
  | [] => rfl
  | b :: bs => by
    rw [List.length_cons, List.range_succ_eq_map, List.any_cons, List.any_map, List.any_cons, ← any_range bs]
    all_goals rfl
theorem all_range : ∀ bs : List Bool, (List.range bs.length).all (fun i => bs.getD i false) = bs.all id
  | [] => rfl
  | b :: bs => by
    rw [List.length_cons, List.range_succ_eq_map, List.all_cons, List.all_map, List.all_cons, ← all_range bs]
    all_goals rfl
section
variable {X : Cx}
def rAny (K : PySem.W.Frag) : List V → Hp → VK → Prop := fun vs H Q => ∃ (a : Addr) (bs : List Bool), vs = [V.ref a] ∧ SqL K H a (bs.map V.bl) ∧ Q (.bl (bs.any id)) H
def rAll (K : PySem.W.Frag) : List V → Hp → VK → Prop := fun vs H Q => ∃ (a : Addr) (bs : List Bool), vs = [V.ref a] ∧ SqL K H a (bs.map V.bl) ∧ Q (.bl (bs.all id)) H
theorem cr_any (hc : X.calm = true) : CallR X (.builtin "any") (rAny X.K) := by
  intro pins s σ H vs us Q I r h
  obtain ⟨a, bs, rfl, hs, q⟩ := h
  obtain ⟨its, rv, hl, _⟩ := I.list hs
  rw [Vals.ref1 r]
  have hb := rv.bls
  refine call_any_walk (iter_any hl.isList fun s₂ e2 st hne => ?_)
  subst e2
  refine ⟨_, _, _, _, _, _, _, rfl, Walks.list (A := X.A.in1) (I.ok.hd hc) _ a hne its.toArray, st, truth_bools hb, fun h' tk hk => ?_⟩
  refine ⟨.bl _, H, I.kept fun b o eo => hk b o (fun hmem => ?_) (Heap.get?_push_of_some _ eo), ?_, q⟩
  · rcases List.mem_cons.mp hmem with e1 | hmem
    · exact absurd (e1 ▸ Heap.lt_size eo) (Nat.lt_irrefl _)
    · cases hmem
  · show Value.bool _ = Value.bool _
    rw [← any_range, hb, List.size_toArray, List.length_map]
theorem cr_all (hc : X.calm = true) : CallR X (.builtin "all") (rAll X.K) := by
  intro pins s σ H vs us Q I r h
  obtain ⟨a, bs, rfl, hs, q⟩ := h
  obtain ⟨its, rv, hl, _⟩ := I.list hs
  rw [Vals.ref1 r]
  have hb := rv.bls
  refine call_all_walk (iter_any hl.isList fun s₂ e2 st hne => ?_)
  subst e2
  refine ⟨_, _, _, _, _, _, _, rfl, Walks.list (A := X.A.in1) (I.ok.hd hc) _ a hne its.toArray, st, truth_bools hb, fun h' tk hk => ?_⟩
  refine ⟨.bl _, H, I.kept fun b o eo => hk b o (fun hmem => ?_) (Heap.get?_push_of_some _ eo), ?_, q⟩
  · rcases List.mem_cons.mp hmem with e1 | hmem
    · exact absurd (e1 ▸ Heap.lt_size eo) (Nat.lt_irrefl _)
    · cases hmem
  · show Value.bool _ = Value.bool _
    rw [← all_range, hb, List.size_toArray, List.length_map]
end

section
variable {X : Cx} {pins : List (Addr × Obj)} {σ : St} {H : Hp} {s : Shared}
end
section
variable {X : Cx}
end
end L2

namespace L2
open PySem PySem.Spec PyProof.Rows
abbrev CellAt (h : Heap) (c : Addr) (v : Option Value) : Prop := h.IsCell c v
def relS (scope sc : Scope) : Scope :=
  { scope with names := scope.names.map fun (n, k) => if (k == .free && sc.kind == .function && sc.names.lookup n == some .cell) then (n, .cell) else (n, k) }

def cloFrom (cells : List (Str × Addr)) : List (Str × NameKind) → List (Str × Addr) → List (Str × Addr)
  | [], acc => acc
  | (n, k) :: r, acc => if k == .free then cloFrom cells r ((n, (cells.lookup n).getD 0) :: acc) else cloFrom cells r acc

theorem closure_loop (env : Env) (f : Str × NameKind → List (Str × Addr) → Sem (ForInStep (List (Str × Addr))))
    (hf : ∀ n k c, f (n, k) c = if k == .free then (do let a ← cellOf env n; pure (.yield ((n, a) :: c))) else pure (.yield c)) :
    ∀ (names : List (Str × NameKind)) (acc : List (Str × Addr)), (∀ y ∈ names, y.2 = .free → ∃ c, env.cells.lookup y.1 = some c) → forIn names acc f = pure (cloFrom env.cells names acc)
  | [], acc, _ => by rw [List.forIn_nil]; rfl
  | (n, k) :: r, acc, h => by
    rw [List.forIn_cons, hf]
    have ih := fun acc => closure_loop env f hf r acc fun y hy => h y (List.mem_cons_of_mem _ hy)
    unfold cloFrom
    by_cases hk : (k == NameKind.free) = true
    · rw [if_pos hk, if_pos hk]
      obtain ⟨c, hc⟩ := h (n, k) List.mem_cons_self (by simpa using hk)
      have e : cellOf env n = pure c := by unfold cellOf; rw [hc]
      rw [e]
      have e2 : (env.cells.lookup n).getD 0 = c := by rw [hc]; rfl
      rw [e2]
      exact ih _
    · rw [if_neg hk, if_neg hk]
      exact ih _
theorem closure_ok {scope : Scope} {env : Env} (h : ∀ y ∈ scope.names, y.2 = .free → ∃ c, env.cells.lookup y.1 = some c) : closureFor scope env = pure (cloFrom env.cells scope.names []) := by
  simp only [closureFor]
  rw [closure_loop env _ (fun n k c => rfl) scope.names [] h]
  rfl

theorem mem_lookup {α : Type} : ∀ {l : List (Str × α)} {n : Str} {c : α}, (n, c) ∈ l → ∃ c', l.lookup n = some c'
  | (k, v) :: r, n, c, h => by
    rw [List.lookup_cons]
    cases hb : n == k with
    | true => exact ⟨_, rfl⟩
    | false =>
      rcases List.mem_cons.mp h with e | h
      · cases e; simp at hb
      · exact mem_lookup h

theorem cloFrom_mem {cells : List (Str × Addr)} : ∀ {names : List (Str × NameKind)} {acc : List (Str × Addr)} {n : Str} {c : Addr}, (n, c) ∈ cloFrom cells names acc → (n, c) ∈ acc ∨ ((n, .free) ∈ names ∧ c = (cells.lookup n).getD 0)
  | [], _, _, _, h => .inl h
  | (m, k) :: r, acc, n, c, h => by
    unfold cloFrom at h
    split at h
    · rename_i hk
      have hk : k = .free := by simpa using hk
      rcases cloFrom_mem h with h | ⟨h1, h2⟩
      · rcases List.mem_cons.mp h with e | h
        · cases e; exact .inr ⟨hk ▸ List.mem_cons_self, rfl⟩
        · exact .inl h
      · exact .inr ⟨List.mem_cons_of_mem _ h1, h2⟩
    · rcases cloFrom_mem h with h | ⟨h1, h2⟩
      · exact .inl h
      · exact .inr ⟨List.mem_cons_of_mem _ h1, h2⟩
theorem cloFrom_acc {cells : List (Str × Addr)} : ∀ {names : List (Str × NameKind)} {acc : List (Str × Addr)} {p : Str × Addr}, p ∈ acc → p ∈ cloFrom cells names acc
  | [], _, _, h => h
  | (m, k) :: r, acc, p, h => by
    unfold cloFrom
    split
    · exact cloFrom_acc (List.mem_cons_of_mem _ h)
    · exact cloFrom_acc h
theorem cloFrom_has {cells : List (Str × Addr)} : ∀ {names : List (Str × NameKind)} {acc : List (Str × Addr)} {n : Str}, (n, .free) ∈ names → (n, (cells.lookup n).getD 0) ∈ cloFrom cells names acc
  | (m, k) :: r, acc, n, h => by
    unfold cloFrom
    rcases List.mem_cons.mp h with e | h
    · cases e
      exact cloFrom_acc List.mem_cons_self
    · split
      · exact cloFrom_has h
      · exact cloFrom_has h

theorem cells_mem : ∀ {names : List (Str × NameKind)} {h : Heap} {acc : List (Str × Addr)} {x : Str} {c : Addr}, (x, c) ∈ cellsFrom h.objs.size names acc →
    (x, c) ∈ acc ∨ ((x, .cell) ∈ names ∧ h.objs.size ≤ c ∧ CellAt (pushCells h names) c none)
  | [], _, _, _, _, h => .inl h
  | (n, k) :: r, h, acc, x, c, hm => by
    unfold cellsFrom at hm
    unfold pushCells
    split at hm
    · rename_i hk
      rw [if_pos hk]
      have hk : k = .cell := by simpa using hk
      rw [← Heap.size_push h { cls := .type "cell", data := .cell none }] at hm
      rcases cells_mem hm with hm | ⟨h1, h2, h3⟩
      · rcases List.mem_cons.mp hm with e | hm
        · cases e
          exact .inr ⟨hk ▸ List.mem_cons_self, Nat.le_refl _, _, pushCells_keeps r _ _ _ (Heap.get?_push_size _ rfl), rfl⟩
        · exact .inl hm
      · rw [Heap.size_push] at h2
        exact .inr ⟨List.mem_cons_of_mem _ h1, Nat.le_of_succ_le h2, h3⟩
    · rename_i hk
      rw [if_neg hk]
      rcases cells_mem hm with hm | ⟨h1, h2, h3⟩
      · exact .inl hm
      · exact .inr ⟨List.mem_cons_of_mem _ h1, h2, h3⟩
theorem cells_acc : ∀ {names : List (Str × NameKind)} {n : Nat} {acc : List (Str × Addr)} {p : Str × Addr}, p ∈ acc → p ∈ cellsFrom n names acc
  | [], _, _, _, h => h
  | (m, k) :: r, n, acc, p, h => by
    unfold cellsFrom
    split
    · exact cells_acc (List.mem_cons_of_mem _ h)
    · exact cells_acc h
theorem cells_has : ∀ {names : List (Str × NameKind)} {n : Nat} {acc : List (Str × Addr)} {x : Str}, (x, .cell) ∈ names → ∃ c, (x, c) ∈ cellsFrom n names acc
  | (m, k) :: r, n, acc, x, h => by
    unfold cellsFrom
    rcases List.mem_cons.mp h with e | h
    · cases e
      exact ⟨n, cells_acc List.mem_cons_self⟩
    · split
      · exact cells_has h
      · exact cells_has h
theorem cells_inj : ∀ {names : List (Str × NameKind)} {h : Heap} {acc : List (Str × Addr)} {x y : Str} {c : Addr}, (∀ p ∈ acc, p.2 < h.objs.size) → (∀ x y c, (x, c) ∈ acc → (y, c) ∈ acc → x = y) →
    (x, c) ∈ cellsFrom h.objs.size names acc → (y, c) ∈ cellsFrom h.objs.size names acc → x = y
  | [], _, _, _, _, _, _, hi, h1, h2 => hi _ _ _ h1 h2
  | (n, k) :: r, h, acc, x, y, c, hl, hi, h1, h2 => by
    unfold cellsFrom at h1 h2
    split at h1
    · rename_i hk
      rw [if_pos hk] at h2
      rw [← Heap.size_push h { cls := .type "cell", data := .cell none }] at h1 h2
      refine cells_inj (h := h.push _) (fun p hp => ?_) (fun x y c a b => ?_) h1 h2
      · rw [Heap.size_push]
        rcases List.mem_cons.mp hp with rfl | hp
        · exact Nat.lt_succ_self _
        · exact Nat.lt_succ_of_lt (hl p hp)
      · rcases List.mem_cons.mp a with e | a <;> rcases List.mem_cons.mp b with e' | b
        · cases e; cases e'; rfl
        · cases e; exact absurd (hl _ b) (Nat.lt_irrefl _)
        · cases e'; exact absurd (hl _ a) (Nat.lt_irrefl _)
        · exact hi _ _ _ a b
    · rename_i hk
      rw [if_neg hk] at h2
      exact cells_inj hl hi h1 h2

theorem newEnv_comp {M : Model} {A : Around} {E : Value → Shared → Prop} {s : Shared} {scope : Scope} {globals : Addr} {closure : List (Str × Addr)} {qual : Str} {func : Option Addr} {code : Value} {around : Env} {builtins : Addr} {Q : Env → Shared → Prop}
    (h : Q (newEnv scope s.heap.objs.size globals (cellsFrom (s.heap.objs.size + 1) scope.names closure) qual func code (some around) builtins)
      { s with heap := pushCells (s.heap.push { cls := .type "dict", data := .dict #[] }) scope.names }) :
    wpAny M A (newFunctionEnv scope globals closure [] qual func code (some around) builtins) Q E s := by
  simp only [newFunctionEnv, Option.isSome_some, if_true]
  refine wpAny_bind (wpAny_alloc ?_)
  refine wpAny_bind (wpAny_layCells _ (fun n k c => rfl) scope.names closure _ _ ?_)
  rw [show ({ s with heap := s.heap.push { cls := .type "dict", data := .dict #[] } } : Shared).heap.objs.size = s.heap.objs.size + 1 from Heap.size_push ..]
  rw [List.forIn_nil]
  exact wpAny_bind (wpAny_pure (wpAny_pure h))

/-- every name of the written scope, in the scope that runs -/
theorem lookup_relS {sc : Scope} : ∀ {names : List (Str × NameKind)} {x : Str} {k : NameKind},
    (names.map fun (n, k) => if (k == NameKind.free && sc.kind == .function && sc.names.lookup n == some .cell) then (n, NameKind.cell) else (n, k)).lookup x = some k →
    ∃ k', names.lookup x = some k' ∧ (k = k' ∨ (k' = .free ∧ k = .cell))
  | [], _, _, h => by simp at h
  | (n, k₀) :: r, x, k, h => by
    have ih := @lookup_relS sc r x k
    have h' : List.lookup x ((if (k₀ == NameKind.free && sc.kind == .function && sc.names.lookup n == some .cell) = true then (n, NameKind.cell) else (n, k₀)) :: (r.map _)) = some k := h
    cases hx : x == n with
    | true =>
      simp only [List.lookup_cons, hx]
      by_cases hc : (k₀ == NameKind.free && sc.kind == .function && sc.names.lookup n == some .cell) = true
      · rw [if_pos hc] at h'
        simp only [List.lookup_cons, hx] at h'
        cases h'
        simp only [Bool.and_eq_true, beq_iff_eq] at hc
        exact ⟨k₀, rfl, .inr ⟨hc.1.1, rfl⟩⟩
      · rw [if_neg hc] at h'
        simp only [List.lookup_cons, hx] at h'
        cases h'
        exact ⟨_, rfl, .inl rfl⟩
    | false =>
      simp only [List.lookup_cons, hx]
      by_cases hc : (k₀ == NameKind.free && sc.kind == .function && sc.names.lookup n == some .cell) = true
      · rw [if_pos hc] at h'
        simp only [List.lookup_cons, hx] at h'
        exact ih h'
      · rw [if_neg hc] at h'
        simp only [List.lookup_cons, hx] at h'
        exact ih h'
/-- the names of a comprehension's block: its own (with their places in N), or captured -/
structure BlkOk (N : List Str) (sc scope : Scope) (own : List (Str × Nat)) : Prop where
  kind : scope.kind = .function
  uniq : ∀ y ∈ scope.names, scope.names.lookup y.1 = some y.2
  ix : ∀ p ∈ own, N[p.2]? = some p.1
  free : ∀ y ∈ scope.names, y.2 = .free → sc.names.lookup y.1 = some .cell ∨ sc.names.lookup y.1 = some .free
  own : ∀ y ∈ scope.names, y.2 = .local ∨ y.2 = .cell → y.1 ∈ own.map (·.1) ∨ y.1 ∉ N
/-- the slots of the block's own names forgotten -/
def wipe (σ : St) : List Nat → St
  | [] => σ
  | v :: vs => (wipe σ vs).set v none
theorem wipe_length (σ : St) : ∀ vs : List Nat, (wipe σ vs).length = σ.length
  | [] => rfl
  | v :: vs => by unfold wipe; rw [List.length_set, wipe_length σ vs]
theorem wipe_some {σ : St} {i : Nat} {x : V} : ∀ {vs : List Nat}, (wipe σ vs)[i]? = some (some x) → σ[i]? = some (some x) ∧ i ∉ vs
  | [], h => ⟨h, by simp⟩
  | v :: vs, h => by
    unfold wipe at h
    by_cases hi : v = i
    · subst hi
      by_cases hv : v < (wipe σ vs).length
      · rw [List.getElem?_set_self hv] at h; cases h
      · rw [List.getElem?_eq_none (by simpa using hv)] at h; cases h
    · rw [List.getElem?_set_ne hi] at h
      obtain ⟨h1, h2⟩ := wipe_some h
      exact ⟨h1, by simp only [List.mem_cons, not_or]; exact ⟨fun e => hi e.symm, h2⟩⟩

/-- the context of a block that starts at s, its iterator's objects at fp -/
abbrev Cx.blk (X : Cx) (s : Shared) (H : Hp) (scope : Scope) (cenv : Env) (fp : List Addr) : Cx := { X with s_0 := s, H_0 := H, env := cenv, outer := X.stack, ex := fp, fn := fun x => scope.names.lookup x == some .cell, pn := [], xe := fun _ _ => False }
section
variable {X : Cx} {pins : List (Addr × Obj)} {σ : St} {H : Hp} {s : Shared}
theorem block_start {scope : Scope} {own : List (Str × Nat)} {fp : List Addr} (I : Inv X pins σ H s) (ok : BlkOk X.N X.env.scope scope own) (hN : X.N.Nodup) (hfp : ∀ b ∈ fp, FpOk X pins H b ∧ b < s.heap.objs.size) :
    Inv (X.blk s H scope (compEnvC scope (cellsFrom (s.heap.objs.size + 1) scope.names (cloFrom X.env.cells scope.names [])) s.heap.objs.size X.env) fp) [] (wipe σ (own.map (·.2))) H { s with heap := pushCells (s.heap.push { cls := .type "dict", data := .dict #[] }) scope.names } := by
  have hfree : ∀ y ∈ scope.names, y.2 = .free → ∃ c, X.env.cells.lookup y.1 = some c := fun y hy e => by
    rcases ok.free y hy e with k | k
    · exact I.ok.has _ (.inl k)
    · exact I.ok.has _ (.inr k)
  generalize hcenv : compEnvC scope (cellsFrom (s.heap.objs.size + 1) scope.names (cloFrom X.env.cells scope.names [])) s.heap.objs.size X.env = cenv
  have kp : ∀ b o, s.heap.get? b = some o → (pushCells (s.heap.push { cls := .type "dict", data := .dict #[] }) scope.names).get? b = some o := fun b o e => pushCells_keeps _ _ _ _ (Heap.get?_push_of_some _ e)
  have hL : cenv.locals = s.heap.objs.size := by rw [← hcenv]; rfl
  have hcl : cenv.cells = cellsFrom (s.heap.objs.size + 1) scope.names (cloFrom X.env.cells scope.names []) := by rw [← hcenv]; rfl
  have hsc : cenv.scope = relS scope X.env.scope := by rw [← hcenv]; rfl
  rw [← Heap.size_push s.heap { cls := .type "dict", data := .dict #[] }] at hcl
  have cm : ∀ {y c}, (y, c) ∈ cloFrom X.env.cells scope.names [] → X.env.cells.lookup y = some c ∧ c < s.heap.objs.size := fun {y c} hm => by
    rcases cloFrom_mem hm with hm | ⟨h1, rfl⟩
    · cases hm
    · obtain ⟨c, hc⟩ := hfree _ h1 rfl
      rw [hc]
      obtain ⟨w, z⟩ := I.cell _ _ hc
      exact ⟨rfl, z.lt⟩
  have mem : ∀ {y c}, cenv.cells.lookup y = some c → (X.env.cells.lookup y = some c ∧ c < s.heap.objs.size) ∨ (s.heap.objs.size + 1 ≤ c ∧ CellAt (pushCells (s.heap.push { cls := .type "dict", data := .dict #[] }) scope.names) c none) := fun {y c} e => by
    rw [hcl] at e
    rcases cells_mem (PySem.mem_of_lookup e) with hm | ⟨_, h2, h3⟩
    · exact .inl (cm hm)
    · rw [Heap.size_push] at h2; exact .inr ⟨h2, h3⟩
  have look : ∀ {y}, scope.names.lookup y = some .free → ∃ c, cenv.cells.lookup y = some c ∧ X.env.cells.lookup y = some c := fun {y} hl => by
    have hy : (y, NameKind.free) ∈ scope.names := PySem.mem_of_lookup hl
    obtain ⟨c', e'⟩ := mem_lookup (cells_acc (names := scope.names) (n := (s.heap.push { cls := .type "dict", data := .dict #[] }).objs.size) (cloFrom_has (cells := X.env.cells) (acc := []) hy))
    rw [← hcl] at e'
    refine ⟨c', e', ?_⟩
    rw [hcl] at e'
    rcases cells_mem (PySem.mem_of_lookup e') with hm | ⟨h1, _, _⟩
    · exact (cm hm).1
    · have := ok.uniq _ h1
      rw [hl] at this; cases this
  have okB : (X.blk s H scope cenv fp).Ok := by
    refine ⟨I.ok.mod, by show cenv.scope.kind = _; rw [hsc]; exact ok.kind, by show cenv.globals = _; rw [← hcenv]; exact I.ok.glob, by show cenv.builtins = _; rw [← hcenv]; exact I.ok.blt, by show s.heap.objs.size ≤ cenv.locals; rw [hL]; exact Nat.le_refl _,
      fun y z c e1 e2 => ?_, fun y hy => ?_, fun y c z e => ?_, I.ok.hd, I.ok.frames, .inl rfl, fun b hb => ⟨?_, fun y c e z => ?_⟩, I.bs, Nat.le_trans I.ok.bsz I.sz, fun b o e hb => ?_, fun b hb z => ?_, I.stack, I.stkFree⟩
    · have e1 : cenv.cells.lookup y = some c := e1
      have e2 : cenv.cells.lookup z = some c := e2
      rw [hcl] at e1 e2
      refine cells_inj (fun p hp => ?_) (fun y z c a b => I.ok.inj y z c (cm a).1 (cm b).1) (PySem.mem_of_lookup e1) (PySem.mem_of_lookup e2)
      rw [Heap.size_push]
      exact Nat.lt_succ_of_lt (cm (y := p.1) (c := p.2) hp).2
    · show ∃ c, cenv.cells.lookup y = some c
      have key : ∀ k, cenv.kindOf y = some k → (k = .cell ∨ k = .free) → ∃ c, cenv.cells.lookup y = some c := fun k hk hk' => by
        unfold Env.kindOf at hk
        rw [hsc] at hk
        obtain ⟨k', e, r⟩ := lookup_relS hk
        have : k' = .cell ∨ k' = .free := by
          rcases r with rfl | ⟨rfl, _⟩
          · exact hk'
          · exact .inr rfl
        rcases this with rfl | rfl
        · obtain ⟨c, hm⟩ := cells_has (n := (s.heap.push { cls := .type "dict", data := .dict #[] }).objs.size) (acc := cloFrom X.env.cells scope.names []) (PySem.mem_of_lookup e)
          obtain ⟨c', e'⟩ := mem_lookup hm
          exact ⟨c', by rw [hcl]; exact e'⟩
        · obtain ⟨c, h1, _⟩ := look e
          exact ⟨c, h1⟩
      rcases hy with hy | hy
      · exact key _ hy (.inl rfl)
      · exact key _ hy (.inr rfl)
    · have z : (scope.names.lookup y == some NameKind.cell) = true := z
      have z : scope.names.lookup y = some .cell := by simpa using z
      have e : cenv.cells.lookup y = some c := e
      rw [hcl] at e
      rcases cells_mem (PySem.mem_of_lookup e) with hm | ⟨_, h2, _⟩
      · rcases cloFrom_mem hm with hm | ⟨h1, _⟩
        · cases hm
        · have q := ok.uniq _ h1
          rw [z] at q; cases q
      · rw [Heap.size_push] at h2
        exact Nat.le_of_succ_le h2
    · show b ≠ cenv.locals
      rw [hL]; exact Nat.ne_of_lt (hfp b hb).2
    · have e : cenv.cells.lookup y = some c := e
      rcases mem e with ⟨h1, _⟩ | ⟨h1, _⟩
      · exact (hfp b hb).1.2.2.2.2.1 y c h1 z
      · have h2 : s.heap.objs.size + 1 ≤ b := by rw [← z]; exact h1
        exact absurd (Nat.lt_of_lt_of_le (hfp b hb).2 (Nat.le_of_succ_le h2)) (Nat.lt_irrefl _)
    · rcases (hfp b hb).1.2.2.2.1 with z | z
      · exact I.ok.noex b o e z
      · exact absurd (Nat.lt_of_lt_of_le (Heap.lt_size e) (Nat.le_trans I.ok.bsz z)) (Nat.lt_irrefl _)
    · rcases List.mem_cons.mp (I.stkSub b z) with z | z
      · exact (hfp b hb).1.2.1 z
      · exact (hfp b hb).1.2.2.1 z
  refine ⟨okB, rfl, I.bare, Un.kept kp, ⟨fun _ => none, ?_, fun i y av e1 e2 e3 => ?_⟩, fun y c e => ?_, ?_, fun y c e => ?_, fun p hp => ?_, I.hok.kept kp, by rw [wipe_length]; exact I.len⟩
  · show Heap.Ns _ cenv.locals _
    rw [hL]
    exact Heap.Ns.keeps (Heap.Ns.new ..) fun b o e => pushCells_keeps _ _ _ _ e
  · obtain ⟨e2, hne⟩ := wipe_some e2
    have hfr : scope.names.lookup y = some .free ∧ (cenv.kindOf y = some .cell ∨ cenv.kindOf y = some .free) := by
      have key : ∀ k, cenv.scope.names.lookup y = some k → k = .local ∨ k = .cell ∨ k = .free → scope.names.lookup y = some .free ∧ (cenv.kindOf y = some .cell ∨ cenv.kindOf y = some .free) := fun k hk hk' => by
        have hk0 := hk
        rw [hsc] at hk
        obtain ⟨k', e, r⟩ := lookup_relS hk
        have no : ¬ (k' = .local ∨ k' = .cell) := fun hh => by
          rcases ok.own _ (PySem.mem_of_lookup e) hh with e' | e'
          · obtain ⟨p, hp, hpy⟩ := List.mem_map.mp e'
            have e3 := ok.ix p hp
            have : p.1 = y := hpy
            rw [this] at e3
            exact hne (List.mem_map.mpr ⟨p, hp, nodup_ix hN e3 e1⟩)
          · exact e' (List.mem_of_getElem? e1)
        rcases r with rfl | ⟨rfl, rfl⟩
        · rcases hk' with rfl | rfl | rfl
          · exact absurd (.inl rfl) no
          · exact absurd (.inr rfl) no
          · exact ⟨e, .inr hk0⟩
        · exact ⟨e, .inl hk0⟩
      have e3 : Vis cenv.scope y := e3
      rcases e3 with e3 | e3 | e3
      · exact key _ e3 (.inl rfl)
      · exact key _ e3 (.inr (.inl rfl))
      · exact key _ e3 (.inr (.inr rfl))
    obtain ⟨m, hn, hl⟩ := I.loc
    have hvis : Vis X.env.scope y := (ok.free _ (PySem.mem_of_lookup hfr.1) rfl).elim (fun k => .inr (.inl k)) (fun k => .inr (.inr k))
    obtain ⟨w, r, q⟩ := hl i y av e1 e2 hvis
    refine ⟨w, r, .inr ⟨hfr.2, ?_⟩⟩
    obtain ⟨c, h1, h2⟩ := look hfr.1
    rcases q with ⟨k, _⟩ | ⟨_, c', e', z⟩
    · have k : X.env.scope.names.lookup y = some .local := k
      rcases ok.free _ (PySem.mem_of_lookup hfr.1) rfl with k' | k' <;> rw [show X.env.scope.names.lookup y = _ from k'] at k <;> cases k
    · rw [h2] at e'; cases e'
      exact ⟨c, h1, z.keeps kp⟩
  · have e : cenv.cells.lookup y = some c := e
    rcases mem e with ⟨h1, _⟩ | ⟨_, z⟩
    · obtain ⟨w, z⟩ := I.cell y c h1
      exact ⟨w, z.keeps kp⟩
    · exact ⟨_, z⟩
  · show H cenv.locals = none
    rw [hL]; exact I.hok.fresh (Nat.le_refl _)
  · have e : cenv.cells.lookup y = some c := e
    rcases mem e with ⟨h1, _⟩ | ⟨h1, _⟩
    · exact I.freeC y c h1
    · exact I.hok.fresh (Nat.le_of_succ_le h1)
  · exact absurd (show p ∈ ([] : List (Addr × Obj)) ++ [] from hp) (by simp)

/-- an item appended to a tracked list -/
theorem app_ok {E : Value → Shared → Prop} {D : Addr} {xs : List V} {y : V} {v : Value} {Q : Value → Shared → Prop} (I : Inv X pins σ H s) (hD : H D = some (.lst xs)) (hz : xs.length < sizeLine) (r : RelV y v)
    (h : ∀ s', Inv X pins σ (upd H D (.lst (xs ++ [y]))) s' → Q .none s') : wpAny (model X.prog X.w) X.A (call (.builtin "list.append") [.ref D, v]) Q E s := by
  obtain ⟨hz', its, n, ri, e⟩ := I.hok D _ hD
  have hl := ri.length
  refine append_at (hsz := by rw [List.size_toArray]; omega) e fun h' sb ho' => ?_
  refine h { s with heap := h' } (I.write (t' := s.toks) (by rw [hD]; trivial) (.inl rfl) (fun b u hb q => (sb.2 b hb).trans q) ⟨_, ho'⟩ ⟨by rw [List.length_append]; exact hz, its ++ [v], n + 1, ri.append (.cons r .nil), ?_⟩)
  rw [ho']
  simp

/-- a clause's tests -/
def PTs (X : Cx) (ifs : List Expr) (t : TT) : Prop :=
  ∀ (pins : List (Addr × Obj)) (s : Shared) (σ : St) (H : Hp) (Q : Bool → Hp → Prop), Inv X pins σ H s → t σ H Q →
    wpAny (model X.prog X.w) X.A (forIn ifs true fun c r => if r = true then do let ok ← isTrue c X.env (eval c X.env); pure (ForInStep.yield ok) else pure (ForInStep.yield r)) (TP X pins σ Q) X.xe s
def tYes : TT := fun _ H Q => Q true H
theorem pts_nil : PTs X [] tYes := fun _ _ _ H _ I h => wpAny_tests_nil ⟨H, I, h⟩
end

theorem thnF {α : Type} {t : Sem α} {Q Q' : α → Shared → Prop} {M : Model} {A : Around} {E : Value → Shared → Prop} {s : Shared} (h : wpAny M A t Q (fun _ _ => False) s) (hQ : ∀ a s, Q a s → Q' a s) : wpAny M A t Q' E s := wpAny_mono h hQ fun _ _ z => False.elim z

/-- the loop of a list comprehension's block, the target of any form (codeAny_compLoop_tests asks a target that no tuple goes to; statement and proof follow it, PyProof/CompMap.lean:41-61, with the step letOwnedTupleGo kept) -/
theorem compLoop_any {prog : Program} {w : World} {A : Around} {R : Result → Shared → Prop} {s : Shared} {elt target iter : Expr} {ifs : List Expr} {scope : Scope} {pos : Pos} {it acc : Value} {env : Env} (I : Nat → Shared → Prop)
    (turn : ∀ n s, I n s → wpAny (model prog w) A (pyNext it) (fun r s₁ => match r with
      | none => R (.ok .next) s₁
      | some v => wpAny (model prog w) A (letOwnedTupleGo target it v) (fun _ s₁' => wpAny (model prog w) A (assign target env v) (fun _ s₂ =>
          wpAny (model prog w) A (forIn ifs true fun c r => if r = true then do let ok ← isTrue c env (eval c env); pure (ForInStep.yield ok) else pure (ForInStep.yield r)) (fun ok s₃ =>
            if ok = true then wpAny (model prog w) A (eval elt env) (fun x s₄ =>
              wpAny (model prog w) A (call (.builtin "list.append") [acc, x]) (fun _ s₅ => ∃ m, m < n ∧ I m s₅) (notedBy (model prog w) A env fun e s' => R (.error e) s') s₄) (notedBy (model prog w) A env fun e s' => R (.error e) s') s₃
            else ∃ m, m < n ∧ I m s₃) (notedBy (model prog w) A env fun e s' => R (.error e) s') s₂) (notedBy (model prog w) A env fun e s' => R (.error e) s') s₁') (notedBy (model prog w) A env fun e s' => R (.error e) s') s₁) (notedBy (model prog w) A env fun e s' => R (.error e) s') s)
    (n : Nat) (h : I n s) :
    codeAny (model prog w) A (.compLoop (.ListComp elt [⟨target, iter, ifs, 0⟩] scope pos) 0 it acc env) R s := by
  refine codeAny_loop rfl I (fun n s hI => ?_) n h
  show wpAny _ A ((compTurn (.ListComp elt [⟨target, iter, ifs, 0⟩] scope pos) 0 it acc env).onRaise (fun x => do noteFrame x env; theTreesLotGoes x)) _ _ s
  refine wpAny_noted ?_
  rw [compTurn_list]
  refine wpAny_bind (wpAny_standAt (wpAny_bind (wpAny_mono (turn n s hI) (fun r s₁ h₁ => ?_) fun _ _ h' => h')))
  cases r with
  | none => exact wpAny_pure h₁
  | some v =>
    refine wpAny_bind (wpAny_mono h₁ (fun _ s₁' h₁' => ?_) fun _ _ h' => h')
    refine wpAny_bind (wpAny_mono h₁' (fun _ s₂ h₂ => wpAny_bind (wpAny_mono h₂ (fun ok s₃ h₃ => ?_) fun _ _ h' => h')) fun _ _ h' => h')
    cases ok with
    | false => exact wpAny_pure ⟨rfl, h₃⟩
    | true =>
      exact wpAny_bind (wpAny_bind (wpAny_mono h₃ (fun x s₄ h₄ => wpAny_bind (wpAny_mono h₄ (fun _ s₅ h₅ => wpAny_pure (wpAny_pure ⟨rfl, h₅⟩)) fun _ _ h' => h')) fun _ _ h' => h'))

section
variable {X : Cx}
/-- [elt for target in iter if ..]: D the new list; W by the turn and a measure, Nx what a turn is to reach -/
def tLc (wi : TI) (g : TG) (tt : TT) (te : TE) (vs : List Nat) : TE := fun σ H Q => wi σ H fun J H1 => ∀ D, H1 D = none → ∃ W : Nat → Nat → Hp → Prop, (∃ m, W 0 m (upd H1 D (.lst []))) ∧ ∀ i m H, W i m H →
  (J.stop i H ∧ Q (.ref D) H) ∨ (J.go i H ∧ ∃ Nx : Hp → Prop, (∀ H', Nx H' → ∃ m', m' < m ∧ W (i + 1) m' H') ∧ ∀ x H', J.yld i H x H' → g x (wipe σ vs) H' fun σ2 H2 => wipe σ2 vs = wipe σ vs ∧ tt σ2 H2 fun b H3 =>
    if b = true then te σ2 H3 fun y H4 => ∃ acc, H4 D = some (.lst acc) ∧ acc.length < sizeLine ∧ Nx (upd H4 D (.lst (acc ++ [y]))) else Nx H3)
theorem lc_core {pins : List (Addr × Obj)} {s : Shared} {σ : St} {H : Hp} {Q : VK} {elt tg iter : Expr} {ifs : List Expr} {scope : Scope} {own : List (Str × Nat)} {pos pos' : Pos} {wi : TI} {g : TG} {tt : TT} {te : TE} {use : Option (Value → Sem Unit)} {Qf : Value → Shared → Prop}
    (hc : X.calm = true) (hN : X.N.Nodup) (I : Inv X pins σ H s) (hi : PI X tg iter wi) (ok : BlkOk X.N X.env.scope scope own)
    (hg : ∀ (s : Shared) (H : Hp) (C : Addr) (cl : List (Str × Addr)) (fp : List Addr), PG (X.blk s H scope (compEnvC scope cl C X.env) fp) tg g) (ht : ∀ (s : Shared) (H : Hp) (C : Addr) (cl : List (Str × Addr)) (fp : List Addr), PTs (X.blk s H scope (compEnvC scope cl C X.env) fp) ifs tt)
    (he : ∀ (s : Shared) (H : Hp) (C : Addr) (cl : List (Str × Addr)) (fp : List Addr), PE (X.blk s H scope (compEnvC scope cl C X.env) fp) elt te) (hs : ∀ x, foldedSetIterable iter X.env x = pure x)
    (h : tLc wi g tt te (own.map (·.2)) σ H Q)
    (hRR : ∀ D C s' m H', Inv X pins σ H' s' → Q (.ref D) H' → s'.heap.Ns C m → FpOk X pins H' C → compPost (model X.prog X.w) X.A X.xe use Qf (.ref D) C (.ok .next) s') :
    wpAny (model X.prog X.w) X.A (comprehension (.ListComp elt [⟨tg, iter, ifs, 0⟩] scope pos) scope X.env pos' (newList []) false (eval iter X.env) use) Qf X.xe s := by
  have hfree : ∀ y ∈ scope.names, y.2 = .free → ∃ c, X.env.cells.lookup y.1 = some c := fun y hy e => by
    rcases ok.free y hy e with k | k
    · exact I.ok.has _ (.inl k)
    · exact I.ok.has _ (.inr k)
  refine wpAny_comprehension_free (use := use) rfl hs (closure_ok hfree) ok.kind (fun y hy e => by rw [ok.uniq y hy, e])
    (thn (hi pins s σ H _ I h) fun xv s1 hx => thn hx fun itv s2 h2 => ?_)
  obtain ⟨it, fp, tn, J, H2, e, I2, T, st2, f2, q⟩ := h2
  subst e
  refine wpAny_newObj_type (newEnv_comp ?_) (by show 0 ≤ sizeLine; decide)
  generalize hD : s2.heap.objs.size = D
  have hDn : H2 D = none := I2.hok.fresh (Nat.le_of_eq hD)
  obtain ⟨W, ⟨m0, w0⟩, turn⟩ := q D hDn
  -- the new list
  generalize hs3 : ({ s2 with heap := s2.heap.push { cls := .type "list", data := .seq ([] : List Value).toArray } } : Shared) = s3
  have I3 : Inv X pins σ (upd H2 D (.lst [])) s3 := by
    rw [← hs3]
    refine I2.laid (t' := s2.toks) (fun b o e => Heap.get?_push_of_some _ e) (Nat.le_of_eq hD) ⟨Nat.zero_le _, [], 0, .nil, ?_⟩
    rw [← hD]
    exact Heap.get?_push_size _ rfl
  have h3 : s3.heap = s2.heap.push { cls := .type "list", data := .seq ([] : List Value).toArray } := by rw [← hs3]
  have sz : ∀ b ∈ fp, b < s2.heap.objs.size := fun b hb => by
    obtain ⟨o, e, _⟩ := T.obj _ _ st2 b hb
    exact Heap.lt_size e
  have f3 : ∀ b ∈ fp, FpOk X pins (upd H2 D (.lst [])) b ∧ b < s3.heap.objs.size := fun b hb => by
    have hlt := sz b hb
    refine ⟨⟨?_, (f2 b hb).2⟩, by rw [h3, Heap.size_push]; exact Nat.lt_succ_of_lt hlt⟩
    rw [upd_ne (by rw [← hD]; exact Nat.ne_of_lt hlt)]
    exact (f2 b hb).1
  have st3 : tn 0 s3.heap := T.keep _ _ _ st2 fun b _ o e => by rw [h3]; exact Heap.get?_push_of_some _ e
  have I4 := block_start I3 ok hN f3
  have pg := hg s3 (upd H2 D (.lst [])) s3.heap.objs.size (cellsFrom (s3.heap.objs.size + 1) scope.names (cloFrom X.env.cells scope.names [])) fp
  have pt := ht s3 (upd H2 D (.lst [])) s3.heap.objs.size (cellsFrom (s3.heap.objs.size + 1) scope.names (cloFrom X.env.cells scope.names [])) fp
  have pe := he s3 (upd H2 D (.lst [])) s3.heap.objs.size (cellsFrom (s3.heap.objs.size + 1) scope.names (cloFrom X.env.cells scope.names [])) fp
  show codeAny _ _ (.compStart (.ListComp elt [⟨tg, iter, ifs, 0⟩] scope pos) 0 (.ref it) (.ref D) (compEnvC scope (cellsFrom (s3.heap.objs.size + 1) scope.names (cloFrom X.env.cells scope.names [])) s3.heap.objs.size X.env)) (compPost (model X.prog X.w) X.A X.xe use Qf (.ref D) s3.heap.objs.size) { s3 with heap := pushCells (s3.heap.push { cls := .type "dict", data := .dict #[] }) scope.names }
  have nfp : ∀ b ∈ fp, (upd H2 D (.lst [])) b = none := fun b hb => (f3 b hb).1.1
  generalize hce : compEnvC scope (cellsFrom (s3.heap.objs.size + 1) scope.names (cloFrom X.env.cells scope.names [])) s3.heap.objs.size X.env = ce at I4 pg pt pe ⊢
  have cL : ce.locals = s3.heap.objs.size := by subst hce; rfl
  generalize hH3 : upd H2 D (.lst []) = H3 at I3 I4 pg pt pe w0 nfp f3
  generalize hs4 : ({ s3 with heap := pushCells (s3.heap.push { cls := .type "dict", data := .dict #[] }) scope.names } : Shared) = s4 at I4 ⊢
  have st4 : tn 0 s4.heap := T.keep _ _ _ st3 fun b _ o e => by rw [← hs4]; exact pushCells_keeps _ _ _ _ (Heap.get?_push_of_some _ e)
  have stat : ∀ {σ' : St} {H' : Hp} {s' : Shared}, Inv (X.blk s3 H3 scope ce fp) [] σ' H' s' → (∀ b ∈ fp, H' b = none) → ∀ b ∈ fp, FpOk (X.blk s3 H3 scope ce fp) [] H' b := fun {σ' H' s'} I' hn b hb =>
    ⟨hn b hb, (I'.ok.exf b hb).1, I'.ok.exfs b hb, .inl hb, fun x c e => (I'.ok.exf b hb).2 x c e, fun p hp => absurd (show p ∈ ([] : List (Addr × Obj)) ++ [] from hp) (by simp)⟩
  have loop : codeAny (model X.prog X.w) X.A (.compLoop (.ListComp elt [⟨tg, iter, ifs, 0⟩] scope pos) 0 (.ref it) (.ref D) ce) (compPost (model X.prog X.w) X.A X.xe use Qf (.ref D) s3.heap.objs.size) s4 := by
    refine compLoop_any (fun n s' => ∃ i H', Inv (X.blk s3 H3 scope ce fp) [] (wipe σ (own.map (·.2))) H' s' ∧ tn i s'.heap ∧ (∀ b ∈ fp, H' b = none) ∧ W i n H') ?_ m0 ⟨0, H3, I4, st4, nfp, w0⟩
    rintro n s5 ⟨i, H5, I5, st5, n5, w5⟩
    rcases turn i n H5 w5 with ⟨stop, qq⟩ | ⟨go, Nx, hNx, step⟩
    · have td := T.done (X.blk s3 H3 scope ce fp) rfl rfl rfl hc i [] s5 _ H5 (fun _ _ => False) I5 (stat I5 n5) st5 stop
      refine thnF td fun r s6 ⟨hr, I6⟩ => ?_
      subst hr
      -- back in the def's context
      have I7 : Inv X pins σ H5 s6 := I3.call' (ch := fp) I6.os I6.base I6.hok I6.bare fun b hb => ⟨(f3 b hb).1.2.2.2.1, (f3 b hb).1.2.1, (f3 b hb).1.2.2.2.2.1, (f3 b hb).1.2.2.2.2.2⟩
      have nC : H5 s3.heap.objs.size = none := by
        have z : H5 ce.locals = none := I6.free
        rw [cL] at z
        exact z
      obtain ⟨m, hn, _⟩ := I6.loc
      have hn : s6.heap.Ns ce.locals m := hn
      rw [cL] at hn
      exact hRR D s3.heap.objs.size s6 m H5 I7 qq hn (I3.fpOk (Nat.le_refl _) nC)
    · have ti := T.item (X.blk s3 H3 scope ce fp) rfl rfl rfl hc i [] s5 _ H5 (fun _ _ => False) I5 (stat I5 n5) st5 go
      refine thnF ti fun r s6 ⟨u, hr, h6⟩ => ?_
      subst hr
      refine thnF h6 fun _ s7 ⟨x, H7, I7, r7, y7, st7, n7⟩ => ?_
      have I7' := I7.pinned (stat I7 n7) (T.obj _ _ st7)
      refine thnF (pg _ s7 _ H7 x u _ I7' r7 (step x H7 y7)) fun _ s8 ⟨σ8, H8, I8, hw8, q8⟩ => ?_
      refine thnF (pt _ s8 σ8 H8 _ I8 q8) fun b s9 ⟨H9, I9, q9⟩ => ?_
      -- the turn's end
      have fin : ∀ {s' : Shared} {H' : Hp}, Inv (X.blk s3 H3 scope ce fp) ([] ++ pinsAt fp s7.heap) σ8 H' s' → Nx H' → ∃ m, m < n ∧ ∃ i H', Inv (X.blk s3 H3 scope ce fp) [] (wipe σ (own.map (·.2))) H' s' ∧ tn i s'.heap ∧ (∀ b ∈ fp, H' b = none) ∧ W i m H' := fun {s' H'} I' nx => by
        obtain ⟨m', hm, w'⟩ := hNx H' nx
        have pin' : ∀ b ∈ fp, ∀ o, s7.heap.get? b = some o → s'.heap.get? b = some o ∧ H' b = none := fun b hb o e =>
          let z := I'.pin (b, o) (List.mem_append_right _ (List.mem_append_right _ (mem_pinsAt hb e)))
          ⟨z.1, z.2.1⟩
        have hl : (wipe σ (own.map (·.2))).length = σ8.length := by rw [← hw8, wipe_length]
        refine ⟨m', hm, i + 1, H', (I'.unpinned (pins := [])).weak hl (fun j v e => ?_), T.keep _ _ _ st7 fun b hb o e => (pin' b hb o e).1, fun b hb => ?_, w'⟩
        · rw [← hw8] at e
          exact (wipe_some e).1
        · obtain ⟨o, e, _⟩ := T.obj _ _ st7 b hb
          exact (pin' b hb o e).2
      cases b with
      | false =>
        simp only [Bool.false_eq_true, if_false] at q9 ⊢
        exact fin I9 q9
      | true =>
        simp only [if_true] at q9 ⊢
        refine thnF (pe _ s9 σ8 H9 _ I9 q9) fun z s10 ⟨yv, H10, I10, r10, acc, hD10, hz10, nx⟩ => ?_
        exact app_ok (X := X.blk s3 H3 scope ce fp) I10 hD10 hz10 r10 fun s11 I11 => fin I11 nx
  exact codeAny_compStart_list loop (T.self X.A 0 _ _ _ st4 loop)
/-- as a value -/
theorem pe_lc {elt tg iter : Expr} {ifs : List Expr} {scope : Scope} {own : List (Str × Nat)} {pos : Pos} {wi : TI} {g : TG} {tt : TT} {te : TE} (hc : X.calm = true) (hN : X.N.Nodup) (hi : PI X tg iter wi) (ok : BlkOk X.N X.env.scope scope own)
    (hg : ∀ (s : Shared) (H : Hp) (C : Addr) (cl : List (Str × Addr)) (fp : List Addr), PG (X.blk s H scope (compEnvC scope cl C X.env) fp) tg g) (ht : ∀ (s : Shared) (H : Hp) (C : Addr) (cl : List (Str × Addr)) (fp : List Addr), PTs (X.blk s H scope (compEnvC scope cl C X.env) fp) ifs tt)
    (he : ∀ (s : Shared) (H : Hp) (C : Addr) (cl : List (Str × Addr)) (fp : List Addr), PE (X.blk s H scope (compEnvC scope cl C X.env) fp) elt te) (hs : ∀ x, foldedSetIterable iter X.env x = pure x := by intro _; rfl) :
    PE X (.ListComp elt [⟨tg, iter, ifs, 0⟩] scope pos) (tLc wi g tt te (own.map (·.2))) := by
  intro pins s σ H Q I h
  rw [eval_ListComp]
  refine lc_core hc hN I hi ok hg ht he hs h fun D C s' m H' I' q hn f => ⟨m, hn, fun h'' sb => ?_⟩
  obtain ⟨f0, f1, f2, f3, f4, f5⟩ := f
  exact ⟨.ref D, H', I'.turned (t' := s'.toks) (fun b o hb e => (sb.2 b hb).trans e) f0 f1 f3 f4 f5, rfl, q⟩
/-- name = [..] on one line, the name a local -/
theorem ps_setLc {i : Nat} {y : Str} {py : Pos} {elt tg iter : Expr} {ifs : List Expr} {scope : Scope} {own : List (Str × Nat)} {pos spos : Pos} {wi : TI} {g : TG} {tt : TT} {te : TE} (hc : X.calm = true) (hN : X.N.Nodup) (hy : X.N[i]? = some y) (hyl : X.env.scope.names.lookup y = some .local)
    (hsw : swapsWith (.ListComp elt [⟨tg, iter, ifs, 0⟩] scope pos) (some (.Name y py)) spos.line X.env = pure true) (hi : PI X tg iter wi) (ok : BlkOk X.N X.env.scope scope own)
    (hg : ∀ (s : Shared) (H : Hp) (C : Addr) (cl : List (Str × Addr)) (fp : List Addr), PG (X.blk s H scope (compEnvC scope cl C X.env) fp) tg g) (ht : ∀ (s : Shared) (H : Hp) (C : Addr) (cl : List (Str × Addr)) (fp : List Addr), PTs (X.blk s H scope (compEnvC scope cl C X.env) fp) ifs tt)
    (he : ∀ (s : Shared) (H : Hp) (C : Addr) (cl : List (Str × Addr)) (fp : List Addr), PE (X.blk s H scope (compEnvC scope cl C X.env) fp) elt te) (hs : ∀ x, foldedSetIterable iter X.env x = pure x := by intro _; rfl) :
    PS X (.Assign [.Name y py] (.ListComp elt [⟨tg, iter, ifs, 0⟩] scope pos) spos) (tAsg (tLc wi g tt te (own.map (·.2))) (gName i)) := by
  intro pins s σ H D I h
  rw [exec_Assign_Name_used _ _ _ _ hsw]
  refine wpAny_bind (wpAny_standAt (wpAny_bind ?_))
  show wpAny _ X.A (do let _ ← comprehension (.ListComp elt [⟨tg, iter, ifs, 0⟩] scope pos) scope X.env (firstIterPos [⟨tg, iter, ifs, 0⟩] pos) (newList []) false (eval iter X.env) (some (assign (.Name y py) X.env))) _ _ s
  have h : tLc wi g tt te (own.map (·.2)) σ H (fun x H1 => gName i x σ H1 D.nx) := h
  refine wpAny_bind (thn (lc_core (Qf := fun _ s' => SP X pins D .next s') hc hN I hi ok hg ht he hs h fun L C s' m H' I' q hn f => ?_) fun _ s' hq => wpAny_pure (wpAny_pure hq))
  show wpAny _ _ (assign (.Name y py) X.env (.ref L)) _ _ _
  refine wpAny_assign_Name (store_ok2 (v := V.ref L) I' hN hy (.inl hyl) rfl (fun s2 I2 ⟨a, sb, ha⟩ => ?_) (.inr hyl))
  obtain ⟨f0, f1, f2, f3, f4, f5⟩ := f
  have haC : C ≠ a := by
    rcases ha with z | z
    · rw [z]; exact f1
    · exact fun e => f4 y a z e.symm
  refine ⟨m, hn.sameBut sb haC, fun h3 sb3 => ?_⟩
  exact ⟨_, H', I2.turned (t' := s2.toks) (fun b o hb e => (sb3.2 b hb).trans e) f0 f1 f3 f4 f5, q⟩
end

end L2

namespace L2
open PySem PySem.Spec PyProof.Rows

section
variable {prog : Program} {w : World} {A : Around} {R : Result → Shared → Prop} {s : Shared} {elt t0 i0 t1 i1 : Expr} {ifs0 ifs1 : List Expr} {scope : Scope} {pos : Pos} {it acc : Value} {env : Env}
end

section
variable {X : Cx}
end
end L2

namespace L2
open PySem PySem.Spec PyProof.Rows

section
variable {κ : Type} [DecidableEq κ]
def valV (kvs : List (κ × V)) (k : κ) : Option V := (kvs.find? fun kv => decide (kv.1 = k)).map (·.2)
theorem valV_pos {p : κ × V} {r : List (κ × V)} {k : κ} (e : p.1 = k) : valV (p :: r) k = some p.2 := by simp [valV, List.find?_cons, e]
theorem valV_neg {p : κ × V} {r : List (κ × V)} {k : κ} (e : ¬ p.1 = k) : valV (p :: r) k = valV r k := by simp [valV, List.find?_cons, e]
theorem valV_any (k : κ) : ∀ kvs : List (κ × V), (kvs.any fun kv => decide (kv.1 = k)) = (valV kvs k).isSome
  | [] => rfl
  | p :: r => by
    rw [List.any_cons]
    by_cases e : p.1 = k
    · simp only [valV_pos e, decide_eq_true e, Bool.true_or, Option.isSome_some]
    · rw [valV_neg e, decide_eq_false e, Bool.false_or]; exact valV_any k r
theorem RelO.isSome_eq {o : Option V} {u : Option Value} (r : RelO o u) : o.isSome = u.isSome := by
  cases o with
  | none => cases u with
    | none => rfl
    | some _ => exact (show False from r).elim
  | some _ => cases u with
    | none => exact (show False from r).elim
    | some _ => rfl
/-- raw tables of the same keys -/
theorem KV.val {kvs : List (κ × V)} {vs : List (κ × Value)} (r : KV kvs vs) (k : κ) : RelO (valV kvs k) (valueAt vs k) := by
  unfold KV at r
  induction r with
  | nil => exact True.intro
  | @cons p q ps qs h t ih =>
    obtain ⟨h1, h2⟩ := h
    by_cases e : p.1 = k
    · have e' : q.1 = k := h1.symm.trans e
      have b : valueAt (q :: qs) k = some q.2 := by simp [valueAt, List.find?_cons, e']
      rw [valV_pos e, b]; exact h2
    · have e' : ¬ q.1 = k := fun z => e (h1.trans z)
      have b : valueAt (q :: qs) k = valueAt qs k := by simp [valueAt, List.find?_cons, e']
      rw [valV_neg e, b]; exact ih
end


theorem kV_is {P : Program} {w : World} {k : Key} {u : Value} (r : RelV (kV k) u) : (mixKind P w).is k u = true := by
  cases k with
  | inl i => obtain ⟨t, e⟩ := (show ∃ t, u = Value.int i t from r); subst e; exact mixKind_int P w i t
  | inr x => obtain ⟨t, e⟩ := (show ∃ t, u = Value.str x t from r); subst e; exact mixKind_str P w x t
section
variable {P : Program} {w : World} {H : Hp} {h : Heap} {a : Addr}
end

section
variable {X : Cx} {pins : List (Addr × Obj)} {σ : St} {H : Hp} {s : Shared} {a : Addr} {y v : V} {u r : Value} {o : Option V} {A : Around} {E : Value → Shared → Prop}

end

section
variable {X : Cx} {pins : List (Addr × Obj)} {σ : St} {H : Hp} {s : Shared} {a : Addr} {kvs : List (Key × V)} {k : Key} {u : Value} {A : Around} {E : Value → Shared → Prop}
end


/-- the element of a subscription, not a slice -/
def NoSl (i : Expr) : Prop := ∀ ov iv, subscripted i false ov iv = operate [ov, iv] (getItem ov iv)
theorem subD_of {prog : Program} {w : World} {A : Around} {E : Value → Shared → Prop} {s : Shared} {env : Env} {value slice : Expr} {pos : Pos} {T id : String} {Q : Value → Shared → Prop}
    (hl : typeLookup (.type T) "__getitem__" = pure (some (.builtin id))) (hs : NoSl slice)
    (h : wpAny (model prog w) A (eval value env) (fun o s₁ => wpAny (model prog w) A (eval slice env) (fun i s₂ => s₂.TypeIs o T ∧ wpAny (model prog w) A (getItem o i) Q E s₂) E s₁) E s) :
    wpAny (model prog w) A (eval (.Subscript value slice pos) env) Q E s := by
  refine Subscript_ (wpAny_mono h (fun o s₁ h₁ => wpAny_mono h₁ (fun i s₂ h₂ => ?_) fun _ _ x => x) fun _ _ x => x)
  obtain ⟨hT, h₂⟩ := h₂
  unfold subscriptTail
  refine wpAny_bind ?_
  rw [getitemInPython_of_ne hT.not_modules]
  refine wpAny_bind (wpAny_specialOf hT hl ?_)
  have fin : wpAny (model prog w) A (subscripted slice false o i) (fun r s₃ => wpAny (model prog w) A (letTemporaryGo value o r >>= fun _ => pure r) Q E s₃) E s₂ := by
    rw [hs o i]
    exact wpAny_operating (wpAny_mono h₂ (fun r s₃ h₃ => wpAny_bind (wpAny_letTemporaryGo (wpAny_pure h₃))) fun _ _ x => x)
  first
    | exact wpAny_pure (wpAny_bind fin)
    | exact wpAny_bind (wpAny_pure (wpAny_bind fin))
    | exact wpAny_bind fin

section
variable {X : Cx} {o i e value : Expr} {pos pos' tpos : Pos} {td ty tv : TE}
end


section
variable {X : Cx} {pos : Pos}
end

section
variable {X : Cx} {pins : List (Addr × Obj)} {σ : St} {H : Hp} {s : Shared} {a : Addr} {y d : V} {u r : Value} {o : Option V} {A : Around} {E : Value → Shared → Prop}
end

section
variable {X : Cx} {o e f : Expr} {apos cpos : Pos} {td ty tx : TE}
end

section
variable {X : Cx} {pins : List (Addr × Obj)} {σ : St} {H : Hp} {s : Shared} {a : Addr} {kvs : List (Key × V)} {A : Around} {E : Value → Shared → Prop}
end


section
variable {X : Cx} {pins : List (Addr × Obj)} {σ : St} {H : Hp} {s : Shared} {a : Addr} {y : V} {u : Value} {A : Around} {E : Value → Shared → Prop}
end
end L2

namespace L2
open PySem PySem.Spec PyProof.Rows

section
variable {prog : Program} {w : World} {A : Around} {E : Value → Shared → Prop}
end

section
variable {X : Cx}
end
end L2

namespace L2
open PySem PySem.Spec PyProof.Rows

section
variable {X : Cx} {pins : List (Addr × Obj)} {σ : St} {H : Hp} {s : Shared} {h' : Heap}
end
section
variable {X : Cx}
theorem pi_one {tg : Expr} {pins : List (Addr × Obj)} {σ : St} {H : Hp} {s : Shared} {R : It → Hp → Prop} {J : It} {tn : Nat → Heap → Prop} {tk : Nat} (I : Inv X pins σ H s) (o : Obj)
    (T : Turn X.prog X.w X.K tg J [s.heap.objs.size] s.heap.objs.size tn) (st : tn 0 (s.heap.push o)) (q : R J H) : PIE X pins σ tg R (.ref s.heap.objs.size) { s with heap := s.heap.push o, toks := tk } := by
  refine ⟨s.heap.objs.size, [s.heap.objs.size], tn, J, H, rfl, I.kept fun b ob e => Heap.get?_push_of_some _ e, T, st, fun b hb => ?_, q⟩
  have e : b = s.heap.objs.size := by simpa using hb
  subst e
  exact I.fpOk (Nat.le_refl _) (I.hok.fresh (Nat.le_refl _))
end

/-- lo, lo + c, .. (n of them) -/
def Itc (lo c : Int) (n : Nat) : It := ⟨fun i _ => i < n, fun i H x H' => H' = H ∧ x = .int (lo + (i : Nat) * c), fun i _ => n ≤ i⟩
theorem turn_rangeC {P : Program} {w : World} {K : PySem.W.Frag} {tg : Expr} (it : Addr) (lo c : Int) (n : Nat) : Turn P w K tg (Itc lo c n) [it] it (fun i h => IsRangeIter h it (lo + (i : Nat) * c) ((n : Int) - (i : Nat)) c) where
  mem := by simp
  obj := fun i h st b hb => by
    have e : b = it := by simpa using hb
    subst e
    exact ⟨_, st, fun v z => nomatch z⟩
  keep := fun i h h' st k => k it (by simp) _ st
  item := by
    intro X hP hw hK hc i pins s σ H E I hf st hg
    subst hP hw hK
    obtain ⟨f0, f1, f2, f3, f4, f5⟩ := hf it (by simp)
    have W := Walks.range (prog := X.prog) (w := X.w) (I.ok.hd hc) it lo c n
    refine W.item i s _ _ hg st fun v h' tk hv st' kk => ?_
    obtain ⟨t, rfl⟩ := hv
    have I1 : Inv X pins σ H { s with heap := h', toks := tk } := I.turned (fun b o hb e => kk b o (by simpa using hb) e) f0 f1 f3 f4 f5
    exact ⟨_, rfl, go_of (s := { s with heap := h', toks := tk }) (n := "range_iterator") st' rfl rfl (by decide) ⟨.int (lo + (i : Nat) * c), H, I1, ⟨t, rfl⟩, ⟨rfl, rfl⟩, st', fun b hb => (hf b hb).1⟩⟩
  done := by
    intro X hP hw hK hc i pins s σ H E I hf st hg
    subst hP hw hK
    obtain ⟨f0, f1, f2, f3, f4, f5⟩ := hf it (by simp)
    exact wpAny_pyNext_range_end (I.ok.hd hc) st (by have : n ≤ i := hg; omega) fun h' eb => ⟨rfl, I.turned (t' := s.toks) (fun b o hb e => eb b o hb e) f0 f1 f3 f4 f5⟩
  self := fun A i s Q E st h => wpAny_pyIter_rangeiter st h
/-- range(i, j, c): small bounds, n items -/
def RgC (i j c : Int) (n : Nat) : Prop := c ≠ 0 ∧ c.natAbs < 1073741824 ∧ Builtin.Range.small i j c = true ∧ Builtin.Range.rangeSize i j c = n
def iRng3 (ta : TA) : TI := fun σ H R => ta σ H fun vs H1 => ∃ (i j c : Int) (n : Nat), vs = [.int i, .int j, .int c] ∧ RgC i j c n ∧ R (Itc i c n) H1
section
variable {X : Cx} {tg : Expr}
theorem pi_range3 {a b c : Expr} {ta : TA} {p pos : Pos} (hg : Gl X "range") (hm : X.mg "range" = none) (ha : PA X [a, b, c] ta)
    (hs : starEach [a, b, c] X.env = (false, eval a X.env) :: starEach [b, c] X.env := by rfl) (hpl : (backTo pos (starEach [b, c] X.env)).any (·.1) = false := by rfl) :
    PI X tg (.Call (.Name "range" p) [a, b, c] [] pos) (iRng3 ta) := by
  intro pins s σ H R I h
  refine Call_ (ld_blt I hg hm boot_range (PyProof.Rows.callWith_type1 (thn (ha pos pins s σ H _ I h) fun us s1 ⟨vs, H1, I1, r1, q1⟩ => ?_) hs hpl))
  obtain ⟨i, j, k, n, e, ⟨c0, c1, c2, c3⟩, q⟩ := q1
  subst e
  cases r1 with
  | cons r rr =>
    cases rr with
    | cons r' rr =>
      cases rr with
      | cons r'' rr =>
        cases rr
        obtain ⟨t, rfl⟩ := r
        obtain ⟨t', rfl⟩ := r'
        obtain ⟨t'', rfl⟩ := r''
        refine call_range_3 c0 ?_ (.inl (PyProof.noPylong_small c1))
        refine wpAny_pyIter_range (IsRange.new ..) c2 ?_
        have I2 : Inv X pins σ H1 { s1 with heap := s1.heap.push { cls := .type "range", data := .fields #[.int i t, .int j t', .int k t''] } } := I1.kept (t' := s1.toks) fun b o e => Heap.get?_push_of_some _ e
        refine pi_one (tk := s1.toks) I2 _ (turn_rangeC _ i k n) ?_ q
        have e1 : i + ((0 : Nat) : Int) * k = i := by simp
        have e2 : (n : Int) - ((0 : Nat) : Int) = Builtin.Range.rangeSize i j k := by rw [c3]; simp
        show IsRangeIter _ _ (i + ((0 : Nat) : Int) * k) ((n : Int) - ((0 : Nat) : Int)) k
        rw [e1, e2]
        exact Heap.get?_push_size _ rfl
end
/-- the turns of a step range, for the for loop -/
theorem for_rangeC {lo c : Int} {n : Nat} {g : TG} {tb : TS} {D : Ends} {σ : St} {H : Hp} (Pv : Nat → St → Hp → Prop) (h0 : Pv 0 σ H)
    (hs : ∀ i σ H, i < n → Pv i σ H → g (.int (lo + (i : Nat) * c)) σ H fun σ2 H2 => tb { D with nx := Pv (i + 1), ct := Pv (i + 1), bk := D.nx } σ2 H2) (hd : ∀ σ H, Pv n σ H → D.nx σ H) :
    ∃ W : Nat → Nat → St → Hp → Prop, (∃ m, W 0 m σ H) ∧ ∀ i m σ H, W i m σ H →
      ((Itc lo c n).stop i H ∧ D.nx σ H) ∨ ((Itc lo c n).go i H ∧ ∃ N : St → Hp → Prop, (∀ σ' H', N σ' H' → ∃ m', m' < m ∧ W (i + 1) m' σ' H') ∧ ∀ x H', (Itc lo c n).yld i H x H' → g x σ H' fun σ2 H2 => tb { D with nx := N, ct := N, bk := D.nx } σ2 H2) := by
  refine ⟨fun i m σ H => m = n - i ∧ i ≤ n ∧ Pv i σ H, ⟨n, by simp, Nat.zero_le _, h0⟩, ?_⟩
  rintro i m σ H ⟨rfl, hi, p⟩
  by_cases hlt : i < n
  · refine .inr ⟨hlt, Pv (i + 1), fun σ' H' p' => ⟨n - (i + 1), by omega, rfl, hlt, p'⟩, fun x H' y => ?_⟩
    obtain ⟨e, y⟩ := y
    subst e y
    exact hs i σ _ hlt p
  · have e : i = n := by omega
    subst e
    exact .inl ⟨Nat.le_refl _, hd σ H p⟩

section
variable {X : Cx} {tg : Expr}
end

section
variable {prog : Program} {w : World} {A : Around} {E : Value → Shared → Prop} {s : Shared}
end

section
variable {X : Cx} {pins : List (Addr × Obj)} {σ : St} {H : Hp} {s : Shared} {d : Addr} {o : Obj}
end

section
variable {P : Program} {w : World} {K : PySem.W.Frag} {tg : Expr} {d : Addr} {o : Obj} {es : Array DictEntry} {ep : Nat}
end

section
variable {X : Cx} {tg e : Expr} {td : TE} {apos cpos : Pos}
end

theorem boot_zip5 : bootBuiltins "zip" = some (.type "zip") := by decide +kernel
end L2

section 
namespace Bits
open PySem PyProof.Rows

theorem bitOr_pp {x y : Int} (hx : 0 ≤ x) (hy : 0 ≤ y) : Builtin.bitOr x y = ((x.toNat ||| y.toNat : Nat) : Int) := by
  have e := nat_or_add_and x.toNat y.toNat
  rw [bitOr_and, bitAnd_pp hx hy]
  omega
end Bits
end 

section 
namespace TL
open PySem PySem.Builtin PySem.Builtin.Str PySem.StrLaws

end TL
end 

namespace L2
open PySem PySem.Spec PyProof.Rows

section
variable {X : Cx} {pins : List (Addr × Obj)} {σ : St} {H : Hp} {s : Shared} {Q : VK}
end

section
variable {X : Cx}

end

section
variable {X : Cx} {o e : Expr} {to te : TE}
end
end L2

namespace L2
open PySem PySem.Spec PyProof.Rows

section
variable {X : Cx}
end

end L2

namespace Att
open PySem PySem.W PySem.Calls PyProof.Rows

section
variable {prog : Program} {w : World} {A : Around} {E : Value → Shared → Prop} {s : Shared} {K : Frag}

end
end Att

namespace L2
open PySem PySem.Spec PyProof.Rows

end L2

namespace L2
open PySem PySem.Spec PyProof.Rows

end L2

/- THE LAST THEOREM (shape; LID, My.* are yours):
   My.Adr: a structure of the addresses that your layer names (classes, functions); My.Txt K t: a structure (Prop) of the equations over K;
   My.txt_mk : {K} {implicit addresses ..} (e1 : nsIn K mainGlobals "law" = some (some (.ref f))) (e2 : K.lookup f = some ⟨oc, od, .func (fnOf "law" "law" params body scope dV kV doc pm an cdv ct), sl⟩) (e3 : codeIn K cdv "law" = true) .. : ∃ t, My.Txt K t

set_option maxRecDepth 100000 in
set_option maxHeartbeats 0 in
theorem cw_LID_holds : PySem.Challenge.rw_LID.Holds := by
  w_on; o_law; k_head; (case hw => w_witness2)
  k_fill
  refine L2.walk_of (l := PySem.Challenge.rw_LID) (n := 63) (k := 40) (x := "script") (CX := fun w => ..) (sp := fun _ => My.sp_law) rfl (by decide) rfl ⟨rfl, by decide, by decide⟩ (fun w h Y => PySem.W.kIn_of Y) ?F ?S ?C
  case F =>
    intro w mg fa h KX G hmg
    have T : ∃ t, My.Txt (L2.KOf KX) t := by
      dsimp only [L2.KOf]                          -- K must stand as «<heap const> w.params» for k_is
      refine' My.txt_mk ?e1 ?e2 ?e3 ..
      (case e1 => PySem.W.k_is)                    -- in the order: a name -> its address -> its object -> its parts
      (case e2 => PySem.W.k_is)
      ..
    obtain ⟨t, T⟩ := T
    have e0 := hmg.symm.trans (PySem.W.mg_of KX G T.law)
    cases e0                                       -- fa is the law's own address
    exact ⟨_, fun s u => .of_eq rfl, fun base kb nb => My.law_fn T kb nb⟩     -- if «.of_eq rfl» comes too early: refine' ⟨_, ?b, fun base kb nb => My.law_fn T kb nb⟩; exact fun s u => .of_eq rfl
  case S => exact fun w H a ns hl hO hS => ..
  case C => exact ..
(the tactic k_is has no namespace: write k_is) -/

namespace L2
open PySem PySem.Spec PyProof.Rows

/-- the j-th statement of a class's body -/
def inClass (s : Stmt) (j : Nat) : Stmt := match s with
  | .ClassDef _ _ _ body _ _ _ _ _ _ _ => body.getD j (.Pass ⟨0, 0, 0, 0⟩)
  | _ => .Pass ⟨0, 0, 0, 0⟩
def defArgs (s : Stmt) : Arguments := match s with
  | .FunctionDef _ a _ _ _ _ _ _ _ _ => a
  | _ => { posonlyargs := [], args := [], vararg := none, kwonlyargs := [], kw_defaults := [], kwarg := none, defaults := [] }
def defBody (s : Stmt) : List Stmt := match s with
  | .FunctionDef _ _ b _ _ _ _ _ _ _ => b
  | _ => []
def defScope (s : Stmt) : Scope := match s with
  | .FunctionDef _ _ _ _ _ _ sc _ _ _ => sc
  | _ => { kind := .function, names := [], isGenerator := false, isCoroutine := false }

abbrev CX0 : CXT := fun _ _ _ _ _ _ => False
abbrev E0 : XK := fun _ _ _ => False
theorem pass0 {X : Cx} : Passes CX0 X E0 := fun _ _ _ _ _ _ _ h => h.elim

structure Fun (K : PySem.W.Frag) (x qual : Str) (st : Stmt) (f : Addr) (fd : FuncData) : Prop where
  ex : ∃ (oc : Value) (od : Option Addr) (kV doc pm : Value) (an : Option Addr) (cdv ct : Value) (osl : Array (Option Value)),
    fd = PySem.W.fnOf x qual (defArgs st) (defBody st) (defScope st) .none kV doc pm an cdv ct ∧ K.lookup f = some ⟨oc, od, .func fd, osl⟩ ∧ PySem.W.codeIn K cdv qual = true
  kp : PySem.W.keepIn K (.ref f) = true
section
variable {P : Program} {w : World} {K : PySem.W.Frag} {mg : Str → Option Value} {base : Heap}
/-- THE RULE for a def: its body as a term of rules, and the reading of that term -/
theorem Fun.ok {x qual : Str} {st : Stmt} {f : Addr} {fd : FuncData} {N ps : List Str} {k : Nat} {sp : Sp} (F : Fun K x qual st f fd) (S : FnScope N ps (defScope st)) (len : ∀ vs H Q E, sp vs H Q E → vs.length = ps.length)
    (hbody : ∀ (cdv : Value) (A : Around) (outer : List Env) (s : Shared) (H : Hp) (vs : List V) (Q : VK) (E : XK), Room k (A.deeper (envOfC qual (defScope st) s.heap.objs.size f cdv)) → sp vs H Q E →
      ∃ t, PSs (cxOf CX0 P w K mg base N qual (defScope st) f cdv A outer s H E).nox (defBody st) t ∧ t { nx := fun _ H' => Q .non H', rt := Q } (start N vs) H) : FnOk P w K mg base CX0 (k + 1) f fd ps sp := by
  obtain ⟨oc, od, kV, doc, pm, an, cdv, ct, osl, rfl, lk, hcd⟩ := F.ex
  refine fn_of lk hcd S len fun A outer s H vs Q E hr hsp => ?_
  obtain ⟨t, h, q⟩ := hbody cdv A outer s H vs Q E hr hsp
  exact ⟨t, h.nox, q⟩
/-- how its arguments bind (no defaults): h is «fun _ _ _ _ _ _ us hl => match us, hl with | [_, _], _ => rfl», one _ a parameter -/
theorem Fun.binds {x qual : Str} {st : Stmt} {f : Addr} {fd : FuncData} {ps : List Str} (F : Fun K x qual st f fd)
    (h : ∀ (kV doc pm : Value) (an : Option Addr) (cdv ct : Value) (us : List Value), us.length = ps.length → bindArgs (PySem.W.fnOf x qual (defArgs st) (defBody st) (defScope st) .none kV doc pm an cdv ct) ⟨us, []⟩ = pure (ps.zip us)) : Binds K fd ps [] := by
  obtain ⟨oc, od, kV, doc, pm, an, cdv, ct, osl, rfl, lk, hcd⟩ := F.ex
  exact .all (h kV doc pm an cdv ct)
theorem fun_mk {x qual : Str} {st : Stmt} {f : Addr} {oc : Value} {od an : Option Addr} {osl : Array (Option Value)} {kV doc pm cdv ct : Value} (l : K.lookup f = some ⟨oc, od, .func (PySem.W.fnOf x qual (defArgs st) (defBody st) (defScope st) .none kV doc pm an cdv ct), osl⟩)
    (c : PySem.W.codeIn K cdv qual = true) (k : PySem.W.keepIn K (.ref f) = true) : Fun K x qual st f (PySem.W.fnOf x qual (defArgs st) (defBody st) (defScope st) .none kV doc pm an cdv ct) := ⟨⟨oc, od, kV, doc, pm, an, cdv, ct, osl, rfl, l, c⟩, k⟩
end
section
variable {X : Cx}
theorem pv (i : Nat) {x : Str} {pos : Pos} (hN : X.N[i]? = some x := by rfl) (hv : Vis X.env.scope x := by first | exact Or.inl rfl | exact Or.inr (Or.inl rfl) | exact Or.inr (Or.inr rfl)) (hd : (x == ("__debug__" : Str)) = false := by decide)
    (hcd : (x == ("__classdict__" : Str)) = false := by decide) : PE X (.Name x pos) (tVar i) := pe_var hN hv hd hcd
end

theorem iteF {A B : Prop} (h : B) : if false = true then A else B := by
  rw [if_neg Bool.false_ne_true]
  exact h
theorem iteT {A B : Prop} (h : A) : if true = true then A else B := by
  rw [if_pos rfl]
  exact h
theorem ite2 {c A B : Prop} [Decidable c] (h1 : c → A) (h2 : ¬ c → B) : if c then A else B := by
  by_cases h : c
  · rw [if_pos h]
    exact h1 h
  · rw [if_neg h]
    exact h2 h
/-- all that was tracked is as it was -/
def Same (H H' : Hp) : Prop := ∀ b o, H b = some o → H' b = some o
theorem Same.refl (H : Hp) : Same H H := fun _ _ h => h
theorem Same.trans {H H1 H2 : Hp} (a : Same H H1) (b : Same H1 H2) : Same H H2 := fun c o h => b c o (a c o h)
theorem Same.free {H H' : Hp} (e : Same H H') {l : Addr} (h : H' l = Option.none) : H l = Option.none := by
  cases q : H l with
  | none => rfl
  | some o =>
    rw [e l o q] at h
    cases h
theorem Same.seq {K : PySem.W.Frag} {H H' : Hp} {a : Addr} {xs : List V} (e : Same H H') (h : SqL K H a xs) : SqL K H' a xs := by
  rcases h with (h | ⟨o, h⟩) | h
  · exact .inl (.inl (e _ _ h))
  · exact .inl (.inr ⟨o, e _ _ h⟩)
  · exact .inr h

section
variable {κ : Type} [DecidableEq κ]
end
theorem at_of {xs : List V} {z : Int} {j : Nat} {v : V} (e : z = (j : Int)) (h : xs[j]? = some v) : atI xs z = some v := by
  rw [e]
  exact atI_nat h
/-- a new instance and its __init__ leave all that was tracked as it was -/
theorem Same.made {H H1 : Hp} {x dx C : Addr} (nx : H x = Option.none) (nd : H dx = Option.none) (k : ∀ b o, (upd (upd H dx (.own x)) x (.ins C dx [])) b = some o → b ≠ x → H1 b = some o) : Same H H1 := fun b o e =>
  k b o (by rw [upd_ne (ne_of_none e nx), upd_ne (ne_of_none e nd)]; exact e) (ne_of_none e nx)
end L2

section
set_option Elab.async false
set_option linter.all false
set_option maxRecDepth 100000
set_option maxHeartbeats 2000000
namespace L2
open PySem PySem.Spec PyProof.Rows
open PySem.W (WData Codec OpenSpec Well WellAll ReadsW ReadsAllW)
mutual
/-- x stands for the datum d, lists and tuples all the way -/
inductive Dw (K : PySem.W.Frag) (H : Hp) : V → WData → Prop
  | non : Dw K H .non .none
  | bl (b : Bool) : Dw K H (.bl b) (.bool b)
  | int (i : Int) : Dw K H (.int i) (.int i)
  | str (x : Str) : Dw K H (.str x) (.str x)
  | byt (b : Array UInt8) : Dw K H (.byt b) (.bytes b.toList)
  | lst {a : Addr} {xs : List V} {ds : List WData} : SqL K H a xs → DwAll K H xs ds → Dw K H (.ref a) (.list ds)
  | tup {a : Addr} {xs : List V} {ds : List WData} : SqT K H a xs → DwAll K H xs ds → Dw K H (.ref a) (.tuple ds)
inductive DwAll (K : PySem.W.Frag) (H : Hp) : List V → List WData → Prop
  | nil : DwAll K H [] []
  | cons {v : V} {vs : List V} {d : WData} {ds : List WData} : Dw K H v d → DwAll K H vs ds → DwAll K H (v :: vs) (d :: ds)
end
theorem dw_ints {K : PySem.W.Frag} {H : Hp} : ∀ ns : List Int, DwAll K H (ns.map V.int) (ns.map WData.int)
  | [] => .nil
  | n :: r => .cons (.int n) (dw_ints r)
theorem ints_dw {K : PySem.W.Frag} {H : Hp} : ∀ (ns : List Int) (xs : List V), DwAll K H xs (ns.map WData.int) → xs = ns.map V.int
  | [], xs, h => by
    cases h
    rfl
  | n :: r, xs, h => by
    cases h with
    | cons h1 h2 =>
      cases h1
      rw [ints_dw r _ h2] <;> rfl
section
variable {P : Program} {w : World} {K : PySem.W.Frag} {H : Hp} {h : Heap} {R : PySem.W.WRecords} {cl : Str → Option Addr}
theorem sqL_at {a : Addr} {xs : List V} (hok : HOk P w H h) (KX : K.In h) (q : SqL K H a xs) : ∃ (its : List Value) (o : Obj) (n : Nat), Vals xs its ∧ h.get? a = some o ∧ o.cls = .type "list" ∧ o.data = .seq its.toArray n := by
  rcases q with q | ⟨o, its, n, e, hc, _, hd, _, hv⟩
  · obtain ⟨_, its, n, hv, e⟩ := (show ObjOk P w H h a (.lst xs) from q.ok hok)
    exact ⟨its, _, n, hv, e, rfl, rfl⟩
  · exact ⟨its.toList, o, n, hv, KX _ _ e, hc, by simp [hd]⟩
theorem sqT_at {a : Addr} {xs : List V} (hok : HOk P w H h) (KX : K.In h) (q : SqT K H a xs) : ∃ (its : List Value) (o : Obj) (n : Nat), Vals xs its ∧ h.get? a = some o ∧ o.cls = .type "tuple" ∧ o.data = .seq its.toArray n := by
  rcases q with q | ⟨o, its, n, e, hc, hd, _, hv⟩
  · obtain ⟨_, its, hv, o, e, hc, n, hd⟩ := (show ObjOk P w H h a (.tup xs) from q.ok hok)
    exact ⟨its, o, n, hv, e, hc, hd⟩
  · exact ⟨its.toList, o, n, hv, KX _ _ e, hc, by simp [hd]⟩
mutual
theorem Dw.reads (hok : HOk P w H h) (KX : K.In h) : ∀ (d : WData) (v : V) (u : Value), Dw K H v d → RelV v u → ∃ as, ReadsW R cl h u d as
  | .none, _, _, x, r => by
    cases x
    cases r
    exact ⟨_, ReadsW.none⟩
  | .bool b, _, _, x, r => by
    cases x
    cases r
    exact ⟨_, ReadsW.bool b⟩
  | .int i, _, _, x, r => by
    cases x
    obtain ⟨t, rfl⟩ := r
    exact ⟨_, ReadsW.int i t⟩
  | .str s, _, _, x, r => by
    cases x
    obtain ⟨t, rfl⟩ := r
    exact ⟨_, ReadsW.str s t⟩
  | .bytes b, _, _, x, r => by
    cases x
    obtain ⟨t, rfl⟩ := r
    exact ⟨_, ReadsW.bytes _ t⟩
  | .list ds, _, _, x, r => by
    cases x with
    | lst hs ha =>
      cases r
      obtain ⟨its, o, n, rv, ho, hc, hd⟩ := sqL_at hok KX hs
      obtain ⟨as, hr⟩ := Dw.readsAll hok KX ds _ its ha rv
      exact ⟨_, ReadsW.list ho hc hd hr⟩
  | .tuple ds, _, _, x, r => by
    cases x with
    | tup hs ha =>
      cases r
      obtain ⟨its, o, n, rv, ho, hc, hd⟩ := sqT_at hok KX hs
      obtain ⟨as, hr⟩ := Dw.readsAll hok KX ds _ its ha rv
      exact ⟨_, ReadsW.tuple ho hc hd hr⟩
  | .float _, _, _, x, _ => by cases x
  | .dict _, _, _, x, _ => by cases x
  | .bytearray _, _, _, x, _ => by cases x
  | .set _, _, _, x, _ => by cases x
  | .frozenset _, _, _, x, _ => by cases x
  | .obj _ _, _, _, x, _ => by cases x
theorem Dw.readsAll (hok : HOk P w H h) (KX : K.In h) : ∀ (ds : List WData) (vs : List V) (us : List Value), DwAll K H vs ds → Vals vs us → ∃ as, ReadsAllW R cl h us ds as
  | [], _, _, x, r => by
    cases x
    cases r
    exact ⟨_, ReadsAllW.nil⟩
  | d :: ds, _, _, x, r => by
    cases x with
    | cons h1 h2 =>
      cases r with
      | cons r1 r2 =>
        obtain ⟨as, q1⟩ := Dw.reads hok KX d _ _ h1 r1
        obtain ⟨bs, q2⟩ := Dw.readsAll hok KX ds _ _ h2 r2
        exact ⟨_, ReadsAllW.cons q1 q2⟩
end
end
mutual
/-- data that a codec tells -/
def plW : WData → Bool
  | .none => true
  | .bool _ => true
  | .int _ => true
  | .str _ => true
  | .bytes _ => true
  | .list xs => plWs xs
  | .tuple xs => plWs xs
  | _ => false
def plWs : List WData → Bool
  | [] => true
  | x :: r => plW x && plWs r
end
theorem plWs_map {α : Type} {f : α → WData} (h : ∀ a, plW (f a) = true) : ∀ l : List α, plWs (l.map f) = true
  | [] => rfl
  | x :: r => by
    show (plW (f x) && plWs (r.map f)) = true
    rw [h x, plWs_map h r] <;> rfl
theorem pl_enc : ∀ (c : Codec) (a : c.denote), plW (c.enc a) = true
  | .unit, _ => rfl
  | .bool, _ => rfl
  | .int _ _, _ => rfl
  | .nat _ _, _ => rfl
  | .u8, _ => rfl
  | .bytes _ _, _ => rfl
  | .text _ _ _ _, _ => rfl
  | .list _ _ c, a => plWs_map (fun x => pl_enc c x) a
  | .pair c d, a => by
    show (plW (c.enc a.1) && (plW (d.enc a.2) && true)) = true
    rw [pl_enc c a.1, pl_enc d a.2] <;> rfl
  | .triple c d e, a => by
    show (plW (c.enc a.1) && (plW (d.enc a.2.1) && (plW (e.enc a.2.2) && true))) = true
    rw [pl_enc c a.1, pl_enc d a.2.1, pl_enc e a.2.2] <;> rfl
  | .option c, none => rfl
  | .option c, some x => pl_enc c x
theorem pl_encAll : ∀ (cs : List Codec) (a : Codec.denoteAll cs), plWs (Codec.encAll cs a) = true
  | [], _ => rfl
  | c :: cs, a => by
    show (plW (c.enc a.1) && plWs (Codec.encAll cs a.2)) = true
    rw [pl_enc c a.1, pl_encAll cs a.2] <;> rfl
theorem weight_mem : ∀ {xs : List WData} {d : WData}, d ∈ xs → d.weight ≤ WData.weightAll xs
  | [], d, h => absurd h (by simp)
  | x :: r, d, h => by
    show d.weight ≤ x.weight + 1 + WData.weightAll r
    rcases List.mem_cons.mp h with e | m
    · rw [e]
      omega
    · have z := weight_mem m
      omega
def toV : Value → V
  | .none => .non
  | .bool b => .bl b
  | .int i _ => .int i
  | .str x _ => .str x
  | .bytes b _ => .byt b
  | .ref a => .ref a
  | _ => .non
/-- a value of the arguments, its objects among A -/
def OkU (A : List Addr) : Value → Prop
  | .none => True
  | .bool _ => True
  | .int _ _ => True
  | .str _ _ => True
  | .bytes _ _ => True
  | .ref a => a ∈ A
  | _ => False
theorem OkU.mono {A B : List Addr} (h : ∀ a ∈ A, a ∈ B) : ∀ {u : Value}, OkU A u → OkU B u := fun {u} x => by
  cases u with
  | ref a => exact h a x
  | none => trivial
  | bool b => trivial
  | int i t => trivial
  | str s t => trivial
  | bytes b t => trivial
  | _ => exact False.elim x
theorem relV_toV {A : List Addr} {u : Value} (x : OkU A u) : RelV (toV u) u := by
  cases u with
  | ref a => rfl
  | none => rfl
  | bool b => rfl
  | int i t => exact ⟨t, rfl⟩
  | str s t => exact ⟨t, rfl⟩
  | bytes b t => exact ⟨t, rfl⟩
  | _ => exact False.elim x
theorem vals_toV {A : List Addr} : ∀ {vs : List Value}, (∀ u ∈ vs, OkU A u) → Vals (vs.map toV) vs
  | [], _ => .nil
  | u :: r, h => .cons (relV_toV (h u (List.mem_cons_self ..))) (vals_toV fun x hx => h x (List.mem_cons_of_mem _ hx))
/-- an object of the arguments -/
def ArgOb (h : Heap) (A : List Addr) (a : Addr) : Prop := ∃ vs : List Value, vs.length ≤ sizeLine ∧ (∀ u ∈ vs, OkU A u) ∧
  (h.get? a = some { cls := .type "list", data := .seq vs.toArray } ∨ h.get? a = some { cls := .type "tuple", data := .seq vs.toArray })
theorem ArgOb.mono {h : Heap} {A B : List Addr} {a : Addr} (k : ∀ a ∈ A, a ∈ B) (x : ArgOb h A a) : ArgOb h B a := by
  obtain ⟨vs, h1, h2, h3⟩ := x
  exact ⟨vs, h1, fun u hu => (h2 u hu).mono k, h3⟩
theorem wellAll_len {P : Params} {h : Heap} : ∀ {vs : List Value} {ds : List WData}, WellAll P h vs ds → vs.length = ds.length
  | _, _, .nil => rfl
  | _, _, .cons _ b => by
    show _ + 1 = _ + 1
    rw [wellAll_len b]
theorem well_list {P : Params} {h : Heap} {v : Value} {ds : List WData} (x : Well P h v (.list ds)) : ∃ (a : Addr) (vs : List Value), v = .ref a ∧ h.get? a = some { cls := .type "list", data := .seq vs.toArray } ∧ WellAll P h vs ds := by
  cases x with
  | list ho hall => exact ⟨_, _, rfl, ho, hall⟩
theorem well_tuple {P : Params} {h : Heap} {v : Value} {ds : List WData} (x : Well P h v (.tuple ds)) : ∃ (a : Addr) (vs : List Value), v = .ref a ∧ h.get? a = some { cls := .type "tuple", data := .seq vs.toArray } ∧ WellAll P h vs ds := by
  cases x with
  | tuple ho hall => exact ⟨_, _, rfl, ho, hall⟩
theorem well_cons {P : Params} {h : Heap} {us : List Value} {d : WData} {ds : List WData} (x : WellAll P h us (d :: ds)) : ∃ (v : Value) (vs : List Value), us = v :: vs ∧ Well P h v d ∧ WellAll P h vs ds := by
  cases x with
  | cons a b => exact ⟨_, _, rfl, a, b⟩
theorem line_of {n : Nat} (h : n ≤ 1048576) : n ≤ sizeLine := Nat.le_trans h (by decide)
section
variable {P : Params} {h : Heap}
mutual
theorem area_one : ∀ (d : WData) (v : Value), Well P h v d → plW d = true → d.weight ≤ 1048576 → ∃ A : List Addr, OkU A v ∧ ∀ a ∈ A, ArgOb h A a
  | .none, _, x, _, _ => by
    cases x
    exact ⟨[], trivial, fun a m => absurd m (by simp)⟩
  | .bool b, _, x, _, _ => by
    cases x
    exact ⟨[], trivial, fun a m => absurd m (by simp)⟩
  | .int i, _, x, _, _ => by
    cases x
    exact ⟨[], trivial, fun a m => absurd m (by simp)⟩
  | .str s, _, x, _, _ => by
    cases x
    exact ⟨[], trivial, fun a m => absurd m (by simp)⟩
  | .bytes b, _, x, _, _ => by
    cases x
    exact ⟨[], trivial, fun a m => absurd m (by simp)⟩
  | .list ds, _, x, p, z => by
    obtain ⟨a, vs, rfl, ho, hall⟩ := well_list x
    have z2 : WData.weightAll ds ≤ 1048576 := z
    obtain ⟨A, h1, h2⟩ := area_all ds _ hall p fun d hd => Nat.le_trans (weight_mem hd) z2
    have k : ∀ b ∈ A, b ∈ a :: A := fun b hb => List.mem_cons_of_mem _ hb
    refine ⟨a :: A, List.mem_cons_self .., fun b hb => ?_⟩
    rcases List.mem_cons.mp hb with e | m
    · rw [e]
      exact ⟨vs, line_of (by rw [wellAll_len hall]; exact Nat.le_trans (PySem.W.length_le_weightAllW ds) z2), fun u hu => (h1 u hu).mono k, .inl ho⟩
    · exact (h2 b m).mono k
  | .tuple ds, _, x, p, z => by
    obtain ⟨a, vs, rfl, ho, hall⟩ := well_tuple x
    have z2 : WData.weightAll ds ≤ 1048576 := z
    obtain ⟨A, h1, h2⟩ := area_all ds _ hall p fun d hd => Nat.le_trans (weight_mem hd) z2
    have k : ∀ b ∈ A, b ∈ a :: A := fun b hb => List.mem_cons_of_mem _ hb
    refine ⟨a :: A, List.mem_cons_self .., fun b hb => ?_⟩
    rcases List.mem_cons.mp hb with e | m
    · rw [e]
      exact ⟨vs, line_of (by rw [wellAll_len hall]; exact Nat.le_trans (PySem.W.length_le_weightAllW ds) z2), fun u hu => (h1 u hu).mono k, .inr ho⟩
    · exact (h2 b m).mono k
  | .float _, _, _, p, _ => Bool.noConfusion (show false = true from p)
  | .dict _, _, _, p, _ => Bool.noConfusion (show false = true from p)
  | .bytearray _, _, _, p, _ => Bool.noConfusion (show false = true from p)
  | .set _, _, _, p, _ => Bool.noConfusion (show false = true from p)
  | .frozenset _, _, _, p, _ => Bool.noConfusion (show false = true from p)
  | .obj _ _, _, _, p, _ => Bool.noConfusion (show false = true from p)
theorem area_all : ∀ (ds : List WData) (vs : List Value), WellAll P h vs ds → plWs ds = true → (∀ d ∈ ds, d.weight ≤ 1048576) → ∃ A : List Addr, (∀ u ∈ vs, OkU A u) ∧ ∀ a ∈ A, ArgOb h A a
  | [], _, x, _, _ => by
    cases x
    exact ⟨[], fun u m => absurd m (by simp), fun a m => absurd m (by simp)⟩
  | d :: ds, _, x, p, z => by
    obtain ⟨v, vs, rfl, x1, x2⟩ := well_cons x
    have q : plW d = true ∧ plWs ds = true := Bool.and_eq_true_iff.mp p
    obtain ⟨A, a1, a2⟩ := area_one d v x1 q.1 (z d (List.mem_cons_self ..))
    obtain ⟨B, b1, b2⟩ := area_all ds vs x2 q.2 fun e he => z e (List.mem_cons_of_mem _ he)
    have kA : ∀ b ∈ A, b ∈ A ++ B := fun b hb => List.mem_append.mpr (.inl hb)
    have kB : ∀ b ∈ B, b ∈ A ++ B := fun b hb => List.mem_append.mpr (.inr hb)
    refine ⟨A ++ B, fun u hu => ?_, fun b hb => ?_⟩
    · rcases List.mem_cons.mp hu with e | m
      · rw [e]
        exact a1.mono kA
      · exact (b1 u m).mono kB
    · rcases List.mem_append.mp hb with m | m
      · exact (a2 b m).mono kA
      · exact (b2 b m).mono kB
end
end
/-- what is tracked of an argument's object -/
def hoOf (o : Obj) : Option HO := match o.data with
  | .seq vs _ => if (o.cls == Value.type "list") = true then some (.frz o (.lst (vs.toList.map toV))) else some (.frz o (.tup (vs.toList.map toV)))
  | _ => none
def argH (K : PySem.W.Frag) (h : Heap) (A : List Addr) : Hp := fun b => if b ∈ A then (if (K.lookup b).isNone = true then (h.get? b).bind hoOf else none) else none
/-- nothing is tracked but what is known to the object -/
def OnlyF (H : Hp) : Prop := ∀ b, H b = none ∨ ∃ o u, H b = some (.frz o u)
theorem hoOf_lst (vs : List Value) : hoOf { cls := .type "list", data := .seq vs.toArray } = some (.frz { cls := .type "list", data := .seq vs.toArray } (.lst (vs.map toV))) := by
  show (if (Value.type "list" == Value.type "list") = true then some (HO.frz { cls := .type "list", data := .seq vs.toArray } (.lst (vs.toArray.toList.map toV))) else some (HO.frz { cls := .type "list", data := .seq vs.toArray } (.tup (vs.toArray.toList.map toV)))) = _
  rw [if_pos (beq_self_eq_true _)]
theorem hoOf_tup (vs : List Value) : hoOf { cls := .type "tuple", data := .seq vs.toArray } = some (.frz { cls := .type "tuple", data := .seq vs.toArray } (.tup (vs.map toV))) := by
  show (if (Value.type "tuple" == Value.type "list") = true then some (HO.frz { cls := .type "tuple", data := .seq vs.toArray } (.lst (vs.toArray.toList.map toV))) else some (HO.frz { cls := .type "tuple", data := .seq vs.toArray } (.tup (vs.toArray.toList.map toV)))) = _
  rw [if_neg (by decide)]
section
variable {P : Program} {w : World} {K : PySem.W.Frag} {h : Heap} {A : List Addr}
theorem argH_at {b : Addr} {o : Obj} (hb : b ∈ A) (hk : K.lookup b = none) (e : h.get? b = some o) : argH K h A b = hoOf o := by
  unfold argH
  rw [if_pos hb, hk, if_pos (show (none : Option Obj).isNone = true from rfl), e] <;> rfl
theorem of_argH {b : Addr} {u : HO} (q : argH K h A b = some u) : b ∈ A ∧ K.lookup b = none := by
  unfold argH at q
  by_cases hb : b ∈ A
  · rw [if_pos hb] at q
    cases hk : K.lookup b with
    | none => exact ⟨hb, rfl⟩
    | some o =>
      rw [hk, if_neg (by simp)] at q
      cases q
  · rw [if_neg hb] at q
    cases q
/-- what stands tracked -/
theorem argH_is (ar : ∀ a ∈ A, ArgOb h A a) {b : Addr} {u : HO} (q : argH K h A b = some u) : K.lookup b = none ∧ ∃ vs : List Value, vs.length ≤ sizeLine ∧ (∀ u ∈ vs, OkU A u) ∧
    ((h.get? b = some { cls := .type "list", data := .seq vs.toArray } ∧ u = .frz { cls := .type "list", data := .seq vs.toArray } (.lst (vs.map toV))) ∨
     (h.get? b = some { cls := .type "tuple", data := .seq vs.toArray } ∧ u = .frz { cls := .type "tuple", data := .seq vs.toArray } (.tup (vs.map toV)))) := by
  obtain ⟨hb, hk⟩ := of_argH q
  obtain ⟨vs, h1, h2, h3⟩ := ar b hb
  refine ⟨hk, vs, h1, h2, ?_⟩
  rcases h3 with e | e
  · rw [argH_at hb hk e, hoOf_lst] at q
    exact .inl ⟨e, (Option.some.inj q).symm⟩
  · rw [argH_at hb hk e, hoOf_tup] at q
    exact .inr ⟨e, (Option.some.inj q).symm⟩
theorem argH_only (ar : ∀ a ∈ A, ArgOb h A a) : OnlyF (argH K h A) := fun b => by
  cases q : argH K h A b with
  | none => exact .inl rfl
  | some u =>
    obtain ⟨_, vs, _, _, ⟨_, e⟩ | ⟨_, e⟩⟩ := argH_is ar q
    · exact .inr ⟨_, _, by rw [e]⟩
    · exact .inr ⟨_, _, by rw [e]⟩
theorem argH_ok (ar : ∀ a ∈ A, ArgOb h A a) : HOk P w (argH K h A) h := fun b u q => by
  obtain ⟨_, vs, h1, h2, ⟨e, rfl⟩ | ⟨e, rfl⟩⟩ := argH_is ar q
  · exact ⟨e, by rw [List.length_map]; exact h1, vs, _, vals_toV h2, e⟩
  · exact ⟨e, by rw [List.length_map]; exact h1, vs, vals_toV h2, _, e, rfl, _, rfl⟩
theorem seq_inj {c c' : Value} {vs us : List Value} (e : (some { cls := c, data := .seq vs.toArray } : Option Obj) = some { cls := c', data := .seq us.toArray }) : c = c' ∧ vs = us := by
  have e1 := Option.some.inj e
  have e2 : c = c' := congrArg Obj.cls e1
  have e3 : Data.seq vs.toArray = Data.seq us.toArray := congrArg Obj.data e1
  injection e3 with e4
  refine ⟨e2, ?_⟩
  have e5 := congrArg Array.toList e4
  simpa using e5
/-- a list argument -/
theorem argL (KX : K.In h) (ar : ∀ a ∈ A, ArgOb h A a) {a : Addr} {vs : List Value} (ha : a ∈ A) (e : h.get? a = some { cls := .type "list", data := .seq vs.toArray }) : (∀ u ∈ vs, OkU A u) ∧ SqL K (argH K h A) a (vs.map toV) := by
  obtain ⟨us, h1, h2, h3⟩ := ar a ha
  have hu : us = vs := by
    rcases h3 with q | q
    · rw [e] at q
      exact (seq_inj q).2.symm
    · rw [e] at q
      exact absurd (Value.type.inj (seq_inj q).1) (by decide)
  subst hu
  refine ⟨h2, ?_⟩
  cases hk : K.lookup a with
  | none => exact .inl (.inr ⟨_, by rw [argH_at ha hk e, hoOf_lst]⟩)
  | some o =>
    have e2 := KX a o hk
    rw [e] at e2
    obtain rfl := Option.some.inj e2
    exact .inr ⟨_, us.toArray, _, hk, rfl, rfl, rfl, by rw [List.size_toArray]; exact h1, by simpa using vals_toV h2⟩
theorem argT (KX : K.In h) (ar : ∀ a ∈ A, ArgOb h A a) {a : Addr} {vs : List Value} (ha : a ∈ A) (e : h.get? a = some { cls := .type "tuple", data := .seq vs.toArray }) : (∀ u ∈ vs, OkU A u) ∧ SqT K (argH K h A) a (vs.map toV) := by
  obtain ⟨us, h1, h2, h3⟩ := ar a ha
  have hu : us = vs := by
    rcases h3 with q | q
    · rw [e] at q
      exact absurd (Value.type.inj (seq_inj q).1) (by decide)
    · rw [e] at q
      exact (seq_inj q).2.symm
  subst hu
  refine ⟨h2, ?_⟩
  cases hk : K.lookup a with
  | none => exact .inl (.inr ⟨_, by rw [argH_at ha hk e, hoOf_tup]⟩)
  | some o =>
    have e2 := KX a o hk
    rw [e] at e2
    obtain rfl := Option.some.inj e2
    exact .inr ⟨_, us.toArray, _, hk, rfl, rfl, by rw [List.size_toArray]; exact h1, by simpa using vals_toV h2⟩
mutual
theorem dw_one {Pm : Params} (KX : K.In h) (ar : ∀ a ∈ A, ArgOb h A a) : ∀ (d : WData) (v : Value), Well Pm h v d → plW d = true → OkU A v → Dw K (argH K h A) (toV v) d
  | .none, _, x, _, _ => by
    cases x
    exact .non
  | .bool b, _, x, _, _ => by
    cases x
    exact .bl b
  | .int i, _, x, _, _ => by
    cases x
    exact .int i
  | .str s, _, x, _, _ => by
    cases x
    exact .str s
  | .bytes b, _, x, _, _ => by
    cases x
    have z := Dw.byt (K := K) (H := argH K h A) b.toArray
    exact z
  | .list ds, _, x, p, hu => by
    obtain ⟨a, vs, rfl, ho, hall⟩ := well_list x
    obtain ⟨h2, hs⟩ := argL KX ar hu ho
    exact .lst hs (dw_all KX ar ds _ hall p h2)
  | .tuple ds, _, x, p, hu => by
    obtain ⟨a, vs, rfl, ho, hall⟩ := well_tuple x
    obtain ⟨h2, hs⟩ := argT KX ar hu ho
    exact .tup hs (dw_all KX ar ds _ hall p h2)
  | .float _, _, _, p, _ => Bool.noConfusion (show false = true from p)
  | .dict _, _, _, p, _ => Bool.noConfusion (show false = true from p)
  | .bytearray _, _, _, p, _ => Bool.noConfusion (show false = true from p)
  | .set _, _, _, p, _ => Bool.noConfusion (show false = true from p)
  | .frozenset _, _, _, p, _ => Bool.noConfusion (show false = true from p)
  | .obj _ _, _, _, p, _ => Bool.noConfusion (show false = true from p)
theorem dw_all {Pm : Params} (KX : K.In h) (ar : ∀ a ∈ A, ArgOb h A a) : ∀ (ds : List WData) (vs : List Value), WellAll Pm h vs ds → plWs ds = true → (∀ u ∈ vs, OkU A u) → DwAll K (argH K h A) (vs.map toV) ds
  | [], _, x, _, _ => by
    cases x
    exact .nil
  | d :: ds, _, x, p, hu => by
    obtain ⟨v, vs, rfl, x1, x2⟩ := well_cons x
    have q : plW d = true ∧ plWs ds = true := Bool.and_eq_true_iff.mp p
    exact .cons (dw_one KX ar d v x1 q.1 (hu _ (List.mem_cons_self ..))) (dw_all KX ar ds vs x2 q.2 fun u m => hu u (List.mem_cons_of_mem _ m))
end
end
theorem spec_call {P : Program} {w : World} {K : PySem.W.Frag} {mg mb : Str → Option Value} {CX : CXT} {k : Nat} {fa : Addr} {fd : FuncData} {ps : List Str} {sp : Sp} {s₁ : Shared} {vals : List Value} {ds : List WData} {R : PySem.W.WRecords} {cl : Str → Option Addr} {d0 : WData}
    (KX : K.In s₁.heap) (hns : s₁.heap.Ns mainGlobals mg) (hb : s₁.heap.Ns builtinsNs mb) (hbb : ∀ x : Str, x ≠ "__name__" → mb x = bootBuiltins x) (hlim : s₁.heap.NoLimit) (hg : s₁.gens = #[])
    (hwl : WellAll w.params s₁.heap vals ds) (hpl : plWs ds = true) (hwt : ∀ d ∈ ds, d.weight ≤ 1048576) (hr : Room k callerA)
    (F : ∀ base : Heap, K.In base → base.Ns mainGlobals mg → FnOk P w K mg base CX k fa fd ps sp) (hbind : ∀ (s : Shared) (us : List Value), us.length = ps.length → BindsTo s fd ⟨us, []⟩ (ps.zip us)) (hlen : ds.length = ps.length)
    (hsp : ∀ (H : Hp) (xs : List V), OnlyF H → DwAll K H xs ds → sp xs H (fun v H' => Dw K H' v d0) fun _ _ _ => False)
    (hCX : ∀ H e s', CX [] H s₁ (fun _ _ _ => False) e s' → False) :
    codeAny (model P w) callerA (.call (.ref fa) ⟨vals, []⟩) (fun r s' => ∃ u as, r = .ok (.ret u) ∧ ReadsW R cl s'.heap u d0 as ∧ OldK s₁.heap s'.heap ∧ s'.os = s₁.os ∧ AllBare s'.gens) s₁ := by
  obtain ⟨A, ho, ar⟩ := area_all ds vals hwl hpl hwt
  have hO : OnlyF (argH K s₁.heap A) := argH_only ar
  have hok : HOk P w (argH K s₁.heap A) s₁.heap := argH_ok ar
  have hS := dw_all KX ar ds vals hwl hpl ho
  have hV := vals_toV ho
  have hK : ∀ b u, argH K s₁.heap A b = some u → K.lookup b = none := fun b u q => (argH_is ar q).1
  have noA : ∀ {b : Addr} {o : Obj} {es : Array DictEntry} {ep : Nat}, s₁.heap.get? b = some o → o.data = .dict es ep → argH K s₁.heap A b = none := fun {b o es ep} e d => by
    cases q : argH K s₁.heap A b with
    | none => rfl
    | some u =>
      obtain ⟨_, vs, _, _, ⟨e2, _⟩ | ⟨e2, _⟩⟩ := argH_is ar q
      · rw [e2] at e
        cases e
        have d' : Data.seq vs.toArray _ = Data.dict es ep := d
        cases d'
      · rw [e2] at e
        cases e
        have d' : Data.seq vs.toArray _ = Data.dict es ep := d
        cases d'
  generalize argH K s₁.heap A = H at hO hok hS hK noA
  have base_of : ∀ {b : Addr} {o : Obj}, s₁.heap.get? b = some o → H b = none → (hidT s₁.heap H).get? b = some o := fun e n => hidT_get e n
  have nsK : ∀ {b : Addr} {m : Str → Option Value}, s₁.heap.Ns b m → (hidT s₁.heap H).Ns b m := fun {b m} ⟨o, es, ep, e, d, r⟩ => ⟨o, es, ep, base_of e (noA e d), d, r⟩
  have nK : ∀ b o, K.lookup b = some o → H b = none := fun b o e => by
    cases q : H b with
    | none => rfl
    | some u =>
      rw [hK b u q] at e
      cases e
  have hKb : K.In (hidT s₁.heap H) := fun b o e => base_of (KX b o e) (nK b o e)
  have hM : Mod K mg (hidT s₁.heap H) := ⟨hKb, nsK hns, ⟨mb, nsK hb, hbb⟩, let ⟨mc, h1, h2⟩ := hlim; ⟨mc, nsK h1, h2⟩⟩
  have e0 : Env0 P w K mg (hidT s₁.heap H) callerA [] s₁ H := ⟨rfl, hM, fun b o e => of_hidT e, Nat.le_of_eq (hidT_size _ _), trivial, fun b hb => absurd (show b ∈ ([] : List Addr) from hb) (by simp), hok, .of_eq hg⟩
  have hl : vals.length = ps.length := by rw [wellAll_len hwl]; exact hlen
  refine codeAny_mono ((F _ hKb (nsK hns)).run callerA [] s₁ H ⟨vals, []⟩ vals (vals.map toV) _ _ hr e0 (hbind s₁ vals hl) hV (hsp H _ hO hS)) fun r s' x => ?_
  cases r with
  | error e => exact (hCX H e s' x).elim
  | ok fl =>
    cases fl with
    | next => exact False.elim x
    | brk => exact False.elim x
    | cont => exact False.elim x
    | ret u =>
      obtain ⟨v, H', os, bare, un, hok', r', q⟩ := x
      have kept : ∀ b o, s₁.heap.get? b = some o → s'.heap.get? b = some o := fun b o e => by
        cases q2 : H b with
        | none => exact un.keep b o e q2 (by intro z; exact absurd (show b ∈ ([] : List Addr) from z) (by simp)) (by simp)
        | some u2 =>
          rcases hO b with z | ⟨ob, u3, z⟩
          · rw [q2] at z
            cases z
          · have z2 := un.frzs b ob _ z
            obtain ⟨e1, _⟩ := hok b _ z
            obtain ⟨e2, _⟩ := hok' b _ z2
            rw [e] at e1
            cases e1
            exact e2
      have KX' : K.In s'.heap := fun b o e => kept b o (KX b o e)
      obtain ⟨as, hrd⟩ := Dw.reads (R := R) (cl := cl) hok' KX' d0 v u q r'
      exact ⟨u, as, rfl, hrd, OldK.of_keep kept, os, bare⟩
theorem layable_weight {ds : List WData} (h : WData.layableAll ds = true) : ∀ d ∈ ds, d.weight ≤ 1048576 := fun d hd =>
  (PySem.W.layableW_iff.mp (List.all_eq_true.mp h d hd)).2.2
theorem encAll_len : ∀ (cs : List Codec) (a : Codec.denoteAll cs), (Codec.encAll cs a).length = cs.length
  | [], _ => rfl
  | c :: cs, a => by
    show (Codec.encAll cs a.2).length + 1 = cs.length + 1
    rw [encAll_len cs a.2]
/-- the goal that k_headS leaves (case hc), from the promise of the row's def: whatever the arguments that the codecs let and the row asks for, the def gives what stands for enc (f ..) -/
theorem walk_spec {r : OpenSpec} {k : Nat} {q : Program} {loose : List Str} {XP : (Str → Option Value) → Heap → Prop} {YP : World → Heap → Prop} {d : DefRec} {K : Params → PySem.W.Frag} {CX : World → CXT} {ps : List Str} {sp : World → Sp}
    (hwell : r.wellSaid = true) (hdf : d.params.defaults = []) (hlen : r.args.length = ps.length) (hr : Room k callerA)
    (hY : ∀ (w : World) (h : Heap), YP w h → (K w.params).In h)
    (F : ∀ (w : World) (mg : Str → Option Value) (fa : Addr) (h : Heap), YP w h → (K w.params).In h → h.Ns mainGlobals mg → mg d.name = some (.ref fa) →
      ∃ fd : FuncData, (∀ (s : Shared) (us : List Value), us.length = ps.length → BindsTo s fd ⟨us, []⟩ (ps.zip us)) ∧
        ∀ base : Heap, (K w.params).In base → base.Ns mainGlobals mg → FnOk r.prog w (K w.params) mg base (CX w) k fa fd ps (sp w))
    (hsp : ∀ (w : World) (H : Hp) (xs : List V) (a : Codec.denoteAll r.args), OnlyF H → Codec.withinAll r.args a = true → Codec.app r.args r.asked a = true → DwAll (K w.params) H xs (Codec.encAll r.args a) →
      sp w xs H (fun v H' => Dw (K w.params) H' v (r.ret.enc (Codec.app r.args r.f a))) fun _ _ _ => False)
    (hCX : ∀ (w : World) (H : Hp) (s : Shared) (e : Value) (s' : Shared), CX w [] H s (fun _ _ _ => False) e s' → False) :
    PySem.W.WalkOS q loose XP YP r d [] (fun f vs => PySem.call f vs) := by
  intro w s_0 s₁ mg mb G Y fa o pm cd doc dV kV ho hd hcd hD hmg hg args vals as hpre hlay hrd hwl hlo
  obtain ⟨a, e1, e2⟩ := PySem.W.os_pre_some hpre
  obtain ⟨e3, hwi⟩ := Codec.encAll_of_decAll r.args args a e1
  subst e3
  have KX := hY w _ Y
  obtain ⟨fd, hb, hF⟩ := F w mg fa _ Y KX G.T.g hmg
  refine PySem.W.enter_call (codeAny_mono (spec_call (R := []) (cl := classAt s_0.heap) (d0 := r.ret.enc (Codec.app r.args r.f a)) KX G.T.g G.T.b G.T.builtins G.T.nolimit hg hwl (pl_encAll _ _) (layable_weight hlay) hr hF hb (by rw [encAll_len]; exact hlen)
    (fun H xs hO hS => hsp w H xs a hO hwi e2 hS) fun H e s' => hCX w H s₁ e s') fun r' s' hq => ?_)
  obtain ⟨u, as', rfl, h1, h2, h3, h4⟩ := hq
  exact ⟨.inl ⟨u, _, as', rfl, fun _ => rfl, h1, (OpenSpec.post_iff hwell hwi _ _).mpr rfl, fun z => Bool.noConfusion (show false = true from z)⟩, h2, h3, h4⟩
/-- the same where the promise hangs on the written part alone -/
theorem walk_specK {r : OpenSpec} {k : Nat} {q : Program} {loose : List Str} {XP : (Str → Option Value) → Heap → Prop} {YP : World → Heap → Prop} {d : DefRec} {K : Params → PySem.W.Frag} {CX : CXT} {ps : List Str} {sp : PySem.W.Frag → Sp}
    (hwell : r.wellSaid = true) (hdf : d.params.defaults = []) (hlen : r.args.length = ps.length) (hr : Room k callerA)
    (hY : ∀ (w : World) (h : Heap), YP w h → (K w.params).In h)
    (F : ∀ (w : World) (mg : Str → Option Value) (fa : Addr) (h : Heap), YP w h → (K w.params).In h → h.Ns mainGlobals mg → mg d.name = some (.ref fa) →
      ∃ fd : FuncData, (∀ (s : Shared) (us : List Value), us.length = ps.length → BindsTo s fd ⟨us, []⟩ (ps.zip us)) ∧
        ∀ base : Heap, (K w.params).In base → base.Ns mainGlobals mg → FnOk r.prog w (K w.params) mg base CX k fa fd ps (sp (K w.params)))
    (hsp : ∀ (K : PySem.W.Frag) (H : Hp) (xs : List V) (a : Codec.denoteAll r.args), OnlyF H → Codec.withinAll r.args a = true → Codec.app r.args r.asked a = true → DwAll K H xs (Codec.encAll r.args a) →
      sp K xs H (fun v H' => Dw K H' v (r.ret.enc (Codec.app r.args r.f a))) fun _ _ _ => False)
    (hCX : ∀ (H : Hp) (s : Shared) (e : Value) (s' : Shared), CX [] H s (fun _ _ _ => False) e s' → False) :
    PySem.W.WalkOS q loose XP YP r d [] (fun f vs => PySem.call f vs) :=
  walk_spec (K := K) (CX := fun _ => CX) (sp := fun w => sp (K w.params)) hwell hdf hlen hr hY F (fun w H xs a h1 h2 h3 h4 => hsp (K w.params) H xs a h1 h2 h3 h4) fun _ H s e s' => hCX H s e s'
end L2
end

end
section
set_option Elab.async false
set_option linter.all false
set_option maxRecDepth 100000
set_option maxHeartbeats 4000000
namespace Er
open Lw LwSt

theorem two_ne : (2 : Rat) ≠ 0 := by decide
theorem pow2_eq (z : Int) : pow2 z = (2 : Rat) ^ z := by
  unfold pow2
  split
  · rename_i h
    obtain ⟨n, rfl⟩ := Int.eq_ofNat_of_zero_le h
    rw [Rat.zpow_natCast, Int.toNat_natCast, Rat.natCast_pow]
    rfl
  · rename_i h
    obtain ⟨n, hn⟩ : ∃ n : Nat, z = -(n : Int) := ⟨(-z).toNat, by omega⟩
    subst hn
    rw [Rat.zpow_neg, Rat.zpow_natCast]
    have : (- -(n : Int)).toNat = n := by omega
    rw [this, Rat.natCast_pow, Rat.div_def, Rat.one_mul]
    rfl
theorem pow2_pos (z : Int) : 0 < pow2 z := by rw [pow2_eq]; exact Rat.zpow_pos (by decide)
theorem pow2_ne (z : Int) : pow2 z ≠ 0 := Rat.ne_of_gt (pow2_pos z)
theorem pow2_add (a b : Int) : pow2 (a + b) = pow2 a * pow2 b := by rw [pow2_eq, pow2_eq, pow2_eq, Rat.zpow_add two_ne]
theorem pow2_nat (n : Nat) : pow2 (n : Int) = ((2 ^ n : Nat) : Rat) := by rw [pow2_eq, Rat.zpow_natCast, Rat.natCast_pow]; rfl
theorem pow2_zero : pow2 0 = 1 := by rw [pow2_eq, Rat.zpow_zero]
theorem pow2_neg (a : Int) : pow2 a * pow2 (-a) = 1 := by rw [← pow2_add, Int.add_right_neg, pow2_zero]
theorem pow2_lt_add (a : Int) (n : Nat) : pow2 a ≤ pow2 (a + n) := by
  rw [pow2_add, pow2_nat]
  have h : (1 : Rat) ≤ ((2 ^ n : Nat) : Rat) := by
    have : 1 ≤ 2 ^ n := Nat.one_le_two_pow
    exact_mod_cast Rat.natCast_le_natCast.mpr this
  have := Rat.mul_le_mul_of_nonneg_left h (Rat.le_of_lt (pow2_pos a))
  rwa [Rat.mul_one] at this
theorem pow2_mono {a b : Int} (h : a ≤ b) : pow2 a ≤ pow2 b := by
  obtain ⟨n, hn⟩ : ∃ n : Nat, b = a + n := ⟨(b - a).toNat, by omega⟩
  rw [hn]; exact pow2_lt_add a n
theorem lt_of_pow2 {a b : Int} (h : pow2 a < pow2 b) : a < b := by
  by_cases hb : a < b
  · exact hb
  · have := pow2_mono (show b ≤ a by omega)
    grind
theorem log2_unique {q : Rat} {p r : Int} (h1 : pow2 p ≤ q) (h2 : q < pow2 (p + 1)) (h3 : pow2 r ≤ q) (h4 : q < pow2 (r + 1)) : p = r := by
  have a : p < r + 1 := lt_of_pow2 (by grind)
  have b : r < p + 1 := lt_of_pow2 (by grind)
  omega

theorem rat_pos_div {q : Rat} : q = (q.num : Rat) / (q.den : Rat) := by
  have := Rat.mkRat_self q
  rw [Rat.mkRat_eq_div] at this
  exact this.symm

/-- bounds by bit lengths -/
theorem div_bounds {a b la lb : Nat} (a1 : 2 ^ la ≤ a) (a2 : a < 2 ^ (la + 1)) (b1 : 2 ^ lb ≤ b) (b2 : b < 2 ^ (lb + 1)) :
    pow2 ((la : Int) - lb - 1) ≤ (a : Rat) / (b : Rat) ∧ (a : Rat) / (b : Rat) < pow2 ((la : Int) - lb + 1) := by
  have hb0 : 0 < b := Nat.lt_of_lt_of_le (Nat.two_pow_pos lb) b1
  have hb : (0 : Rat) < (b : Rat) := Rat.natCast_pos.mpr hb0
  have A1 : pow2 la ≤ (a : Rat) := by rw [pow2_nat]; exact Rat.natCast_le_natCast.mpr a1
  have A2 : (a : Rat) < pow2 ((la : Int) + 1) := by
    have : (la : Int) + 1 = ((la + 1 : Nat) : Int) := by omega
    rw [this, pow2_nat]; exact Rat.natCast_lt_natCast.mpr a2
  have B1 : pow2 lb ≤ (b : Rat) := by rw [pow2_nat]; exact Rat.natCast_le_natCast.mpr b1
  have B2 : (b : Rat) < pow2 ((lb : Int) + 1) := by
    have : (lb : Int) + 1 = ((lb + 1 : Nat) : Int) := by omega
    rw [this, pow2_nat]; exact Rat.natCast_lt_natCast.mpr b2
  constructor
  · rw [← Rat.not_lt, Rat.div_lt_iff hb, Rat.not_lt]
    have e : pow2 la = pow2 ((la : Int) - lb - 1) * pow2 ((lb : Int) + 1) := by rw [← pow2_add]; congr 1; omega
    have := Rat.mul_lt_mul_of_pos_left B2 (pow2_pos ((la : Int) - lb - 1))
    grind
  · rw [Rat.div_lt_iff hb]
    have e : pow2 ((la : Int) + 1) = pow2 ((la : Int) - lb + 1) * pow2 (lb : Int) := by rw [← pow2_add]; congr 1; omega
    have := Rat.mul_le_mul_of_nonneg_left B1 (Rat.le_of_lt (pow2_pos ((la : Int) - lb + 1)))
    grind

theorem log2_spec {q : Rat} (hq : 0 < q) : pow2 (log2 q) ≤ q ∧ q < pow2 (log2 q + 1) := by
  have hn : 0 < q.num := by
    have h1 : 0 ≤ q.num := Rat.num_nonneg.mpr (Rat.le_of_lt hq)
    have h2 : q.num ≠ 0 := fun e => by rw [Rat.num_eq_zero] at e; rw [e] at hq; exact Rat.lt_irrefl hq
    omega
  have hd := q.den_pos
  have e : q = (q.num.natAbs : Rat) / (q.den : Rat) := by
    have : ((q.num.natAbs : Int) : Rat) = (q.num : Rat) := by congr 1; omega
    rw [Rat.intCast_natCast] at this
    rw [this]; exact rat_pos_div
  have ha : q.num.natAbs ≠ 0 := by omega
  have B := div_bounds (Nat.log2_self_le ha) Nat.lt_log2_self (Nat.log2_self_le (show q.den ≠ 0 by omega)) Nat.lt_log2_self
  rw [← e] at B
  unfold log2
  dsimp only
  split
  · rename_i h
    exact ⟨h, B.2⟩
  · rename_i h
    refine ⟨B.1, ?_⟩
    have : (q.num.natAbs.log2 : Int) - (q.den.log2 : Int) - 1 + 1 = (q.num.natAbs.log2 : Int) - (q.den.log2 : Int) := by omega
    rw [this]
    exact Rat.not_le.mp h
end Er
end
section
set_option Elab.async false
set_option linter.all false
set_option maxRecDepth 100000
set_option maxHeartbeats 4000000
namespace Er
open Lw LwSt

def byP (a b p : Int) : Int × Int := if p < 0 then (a * 2 ^ (-p).toNat, b) else (a, b * 2 ^ p.toNat)
theorem cast_two_pow (n : Nat) : (((2 : Int) ^ n : Int) : Rat) = pow2 (n : Int) := by
  rw [pow2_nat, Rat.intCast_pow, Rat.natCast_pow]; rfl
theorem byP_pos {a b p : Int} (ha : 0 < a) (hb : 0 < b) : 0 < (byP a b p).1 ∧ 0 < (byP a b p).2 := by
  unfold byP
  split
  · exact ⟨Int.mul_pos ha (Int.pow_pos (by decide)), hb⟩
  · exact ⟨ha, Int.mul_pos hb (Int.pow_pos (by decide))⟩
theorem byP_rat {a b p : Int} (hb : 0 < b) : ((byP a b p).1 : Rat) / ((byP a b p).2 : Rat) = (a : Rat) / (b : Rat) / pow2 p := by
  have hb' : (b : Rat) ≠ 0 := Rat.ne_of_gt (Rat.intCast_pos.mpr hb)
  unfold byP
  split
  · rename_i h
    have e : ((-p).toNat : Int) = -p := by omega
    simp only [Rat.intCast_mul, cast_two_pow, e]
    have := pow2_neg p
    have := pow2_ne p
    have := pow2_ne (-p)
    grind
  · rename_i h
    have e : (p.toNat : Int) = p := by omega
    simp only [Rat.intCast_mul, cast_two_pow, e]
    have := pow2_ne p
    grind

def near (a b : Int) : Int := if b < 2 * (a % b) ∨ (2 * (a % b) = b ∧ a / b % 2 = 1) then a / b + 1 else a / b
theorem near_nonneg {a b : Int} (ha : 0 ≤ a) (hb : 0 < b) : 0 ≤ near a b := by
  have := Int.ediv_nonneg ha (Int.le_of_lt hb)
  unfold near; split <;> omega
/-- the whole part of a fraction, however it is told -/
theorem floor_div {a b : Int} (ha : 0 ≤ a) (hb : 0 < b) : (((a : Rat) / (b : Rat)).num.natAbs / ((a : Rat) / (b : Rat)).den : Nat) = (a / b).toNat := by
  have hb' : (0 : Rat) < (b : Rat) := Rat.intCast_pos.mpr hb
  generalize hq : (a : Rat) / (b : Rat) = q
  have hqa : q * (b : Rat) = (a : Rat) := by rw [← hq]; exact Rat.div_mul_cancel (Rat.ne_of_gt hb')
  have h0 : 0 ≤ q := by
    rw [← Rat.not_lt]; intro h
    have h1 : q * (b : Rat) < 0 := by
      have := Rat.mul_lt_mul_of_pos_right h hb'
      rwa [Rat.zero_mul] at this
    rw [hqa] at h1
    have h2 : (0 : Rat) ≤ (a : Rat) := Rat.intCast_nonneg.mpr ha
    exact absurd h2 (Rat.not_le.mpr h1)
  have hn : 0 ≤ q.num := Rat.num_nonneg.mpr h0
  have e1 : (q.floor : Int) = q.num / (q.den : Int) := Rat.floor_def q
  have e2 : q.floor = a / b := by
    have h1 : a / b ≤ q.floor := by
      rw [Rat.le_floor_iff]
      have h3 : (a / b) * b ≤ a := Int.ediv_mul_le a (by omega)
      have h4 : (((a / b) * b : Int) : Rat) ≤ (a : Rat) := Rat.intCast_le_intCast.mpr h3
      rw [Rat.intCast_mul, ← hqa] at h4
      exact Rat.le_of_mul_le_mul_right h4 hb'
    have h2 : q.floor < a / b + 1 := by
      rw [Rat.floor_lt_iff]
      have h3 : a < (a / b + 1) * b := Int.lt_ediv_add_one_mul_self a hb
      have h4 : (a : Rat) < (((a / b + 1) * b : Int) : Rat) := Rat.intCast_lt_intCast.mpr h3
      rw [Rat.intCast_mul, ← hqa] at h4
      exact Rat.lt_of_mul_lt_mul_right h4 (Rat.le_of_lt hb')
    omega
  have e3 : q.num / (q.den : Int) = a / b := by rw [← e1, e2]
  have e4 : ((q.num.natAbs / q.den : Nat) : Int) = a / b := by
    rw [Int.natCast_ediv, ← e3]
    congr 1
    omega
  rw [← e4, Int.toNat_natCast]

theorem near_round {a b : Int} (ha : 0 ≤ a) (hb : 0 < b) (neg : Bool) : (near a b : Int) = (roundNat 0 neg ((a : Rat) / (b : Rat)) : Nat) := by
  have hb' : (0 : Rat) < (b : Rat) := Rat.intCast_pos.mpr hb
  have hb0 : (b : Rat) ≠ 0 := Rat.ne_of_gt hb'
  have hd : 0 ≤ a / b := Int.ediv_nonneg ha (Int.le_of_lt hb)
  have hE : b * (a / b) + a % b = a := Int.mul_ediv_add_emod a b
  have hm0 := Int.emod_nonneg a (show b ≠ 0 by omega)
  unfold roundNat
  dsimp only
  rw [floor_div ha hb]
  generalize hw : a / b = w at *
  generalize hr : a % b = r at *
  have hcast : (((w.toNat : Nat)) : Rat) = (w : Rat) := by
    rw [← Rat.intCast_natCast]; congr 1; omega
  have hrest : (a : Rat) / (b : Rat) - (w.toNat : Rat) = (r : Rat) / (b : Rat) := by
    rw [hcast]
    have : (a : Rat) = (b : Rat) * (w : Rat) + (r : Rat) := by
      rw [← Rat.intCast_mul, ← Rat.intCast_add, hE]
    rw [this]
    grind
  rw [hrest]
  unfold near
  rw [hw, hr]
  have hz : (r : Rat) / (b : Rat) = 0 ↔ r = 0 := by
    rw [← Rat.intCast_eq_zero_iff]
    constructor
    · intro h; grind
    · intro h; rw [h]; grind
  have hlt : (r : Rat) / (b : Rat) < 1 / 2 ↔ 2 * r < b := by
    rw [Rat.div_lt_iff hb', ← Rat.intCast_lt_intCast, Rat.intCast_mul]
    show _ ↔ (2 : Rat) * _ < _
    grind
  have hgt : 1 / 2 < (r : Rat) / (b : Rat) ↔ b < 2 * r := by
    rw [Rat.lt_div_iff hb', ← Rat.intCast_lt_intCast, Rat.intCast_mul]
    show _ ↔ _ < (2 : Rat) * _
    grind
  simp only [hz, hlt, hgt]
  by_cases c0 : r = 0
  · rw [if_pos c0, if_neg (by omega)]; omega
  · rw [if_neg c0, if_pos trivial]
    by_cases c1 : 2 * r < b
    · rw [if_pos c1, if_neg (by omega)]; omega
    · rw [if_neg c1]
      by_cases c2 : b < 2 * r
      · rw [if_pos c2, if_pos (Or.inl c2)]; omega
      · rw [if_neg c2]
        split <;> omega

/-- what a fraction's nearest whole number lies between -/
theorem near_le {a b : Int} {c : Int} (ha : 0 ≤ a) (hb : 0 < b) (h : a ≤ c * b) : near a b ≤ c := by
  have hE : b * (a / b) + a % b = a := Int.mul_ediv_add_emod a b
  have hm0 := Int.emod_nonneg a (show b ≠ 0 by omega)
  have hm1 := Int.emod_lt_of_pos a hb
  have h1 : a / b ≤ c := by
    have := Int.ediv_le_ediv hb h
    rwa [Int.mul_ediv_cancel _ (by omega : b ≠ 0)] at this
  unfold near
  split
  · rename_i hc
    have : a % b ≠ 0 := by omega
    have h2 : a / b ≠ c := by
      intro e
      rw [← e, Int.mul_comm] at h
      omega
    omega
  · exact h1
theorem le_near {a b : Int} {c : Int} (hb : 0 < b) (h : c * b ≤ a) : c ≤ near a b := by
  have h1 : c ≤ a / b := by
    have := Int.ediv_le_ediv hb h
    rwa [Int.mul_ediv_cancel _ (by omega : b ≠ 0)] at this
  unfold near
  split <;> omega
end Er
end
section
set_option Elab.async false
set_option linter.all false
set_option maxRecDepth 100000
set_option maxHeartbeats 4000000
namespace Er
open Lw LwSt

theorem cast_pos {a : Int} (h : 0 < a) : (0 : Rat) < (a : Rat) := Rat.intCast_pos.mpr h
theorem div_pos {a b : Int} (ha : 0 < a) (hb : 0 < b) : (0 : Rat) < (a : Rat) / (b : Rat) := by
  rw [Rat.lt_div_iff (cast_pos hb), Rat.zero_mul]; exact cast_pos ha
/-- floor_power, by the bit lengths -/
theorem floorP {a b : Int} {la lb : Nat} (ha : 0 < a) (hb : 0 < b) (a1 : 2 ^ la ≤ a.toNat) (a2 : a.toNat < 2 ^ (la + 1)) (b1 : 2 ^ lb ≤ b.toNat) (b2 : b.toNat < 2 ^ (lb + 1)) :
    (if (byP a b ((la : Int) - lb)).1 < (byP a b ((la : Int) - lb)).2 then (la : Int) - lb - 1 else (la : Int) - lb) = log2 ((a : Rat) / (b : Rat)) := by
  have B := div_bounds a1 a2 b1 b2
  have ea : ((a.toNat : Nat) : Rat) = (a : Rat) := by rw [← Rat.intCast_natCast]; congr 1; omega
  have eb : ((b.toNat : Nat) : Rat) = (b : Rat) := by rw [← Rat.intCast_natCast]; congr 1; omega
  rw [ea, eb] at B
  have L := log2_spec (div_pos ha hb)
  have P := byP_pos (p := (la : Int) - lb) ha hb
  have R := byP_rat (a := a) (p := (la : Int) - lb) hb
  have K : (byP a b ((la : Int) - lb)).1 < (byP a b ((la : Int) - lb)).2 ↔ (a : Rat) / (b : Rat) < pow2 ((la : Int) - lb) := by
    rw [← Rat.intCast_lt_intCast]
    have h1 := cast_pos P.2
    have h2 := pow2_pos ((la : Int) - lb)
    have e1 : ((byP a b ((la : Int) - lb)).1 : Rat) < ((byP a b ((la : Int) - lb)).2 : Rat) ↔ ((byP a b ((la : Int) - lb)).1 : Rat) / ((byP a b ((la : Int) - lb)).2 : Rat) < 1 := by
      rw [Rat.div_lt_iff h1, Rat.one_mul]
    rw [e1, R, Rat.div_lt_iff h2, Rat.one_mul]
  split
  · rename_i h
    refine log2_unique B.1 ?_ L.1 L.2
    have : (la : Int) - lb - 1 + 1 = (la : Int) - lb := by omega
    rw [this]; exact K.mp h
  · rename_i h
    refine log2_unique ?_ B.2 L.1 L.2
    exact Rat.not_lt.mp fun z => h (K.mpr z)

/-- the program's rounding of a / b, both above 0 -/
def small (f : Fmt) (a b : Int) : Bool :=
  if f.least ≤ log2 ((a : Rat) / (b : Rat)) then false
  else decide (near (byP a b (log2 ((a : Rat) / (b : Rat)) - f.m)).1 (byP a b (log2 ((a : Rat) / (b : Rat)) - f.m)).2 < 2 ^ (f.least - log2 ((a : Rat) / (b : Rat)) + f.m).toNat)
def kept (f : Fmt) (a b : Int) : Int := max (log2 ((a : Rat) / (b : Rat))) f.least
def prt (f : Fmt) (a b : Int) : Int × Int := byP a b (kept f a b - f.m)
def mult (f : Fmt) (a b : Int) : Int := near (prt f a b).1 (prt f a b).2
def size (f : Fmt) (a b : Int) : Int := (kept f a b - f.least) * 2 ^ f.m + mult f a b
def rsize (f : Fmt) (a b sign : Int) : Int × Int :=
  if (f.infBits : Int) ≤ size f a b then (20, sign + f.infBits)
  else if (prt f a b).1 = mult f a b * (prt f a b).2 then (0, sign + size f a b)
  else if small f a b = true then (24, sign + size f a b)
  else (16, sign + size f a b)

structure Good (f : Fmt) : Prop where
  e : 2 ≤ f.e
  m : 1 ≤ f.m

theorem least_eq (f : Fmt) : f.least = 2 - 2 ^ (f.e - 1) := by unfold Fmt.least Fmt.bias; omega
theorem most_eq (f : Fmt) : f.most = 2 ^ (f.e - 1) - 1 := rfl
theorem two_pow_e {f : Fmt} (g : Good f) : (2 : Int) ^ f.e = 2 * 2 ^ (f.e - 1) := by
  have := g.e
  obtain ⟨n, hn⟩ : ∃ n, f.e = n + 1 := ⟨f.e - 1, by omega⟩
  rw [hn, Nat.add_sub_cancel, Int.pow_succ, Int.mul_comm]
theorem inf_eq {f : Fmt} (g : Good f) : (f.infBits : Int) = (f.most - f.least + 2) * 2 ^ f.m := by
  have h1 : 1 ≤ 2 ^ f.e := Nat.one_le_two_pow
  have h2 := two_pow_e g
  unfold Fmt.infBits
  rw [Int.natCast_mul, Int.natCast_sub h1, least_eq, most_eq]
  simp only [Int.natCast_pow]
  congr 1
  simp only [Int.cast_ofNat_Int]
  omega
theorem D_pos {f : Fmt} (g : Good f) : f.least ≤ f.most := by
  rw [least_eq, most_eq]
  have : (2 : Int) ^ 1 ≤ 2 ^ (f.e - 1) := by
    have := g.e
    exact_mod_cast Nat.pow_le_pow_right (by decide : 0 < 2) (by omega : 1 ≤ f.e - 1)
  omega

theorem cast_inj_lt {a b : Int} : (a : Rat) < (b : Rat) ↔ a < b := Rat.intCast_lt_intCast
theorem cast_inj_le {a b : Int} : (a : Rat) ≤ (b : Rat) ↔ a ≤ b := Rat.intCast_le_intCast

section
variable {f : Fmt} {a b : Int}
theorem prt_pos (ha : 0 < a) (hb : 0 < b) : 0 < (prt f a b).1 ∧ 0 < (prt f a b).2 := byP_pos ha hb
theorem prt_rat (hb : 0 < b) : ((prt f a b).1 : Rat) / ((prt f a b).2 : Rat) = (a : Rat) / (b : Rat) / pow2 (kept f a b - f.m) := byP_rat hb
theorem mult_nonneg (ha : 0 < a) (hb : 0 < b) : 0 ≤ mult f a b := near_nonneg (Int.le_of_lt (prt_pos ha hb).1) (prt_pos ha hb).2
theorem mult_round (ha : 0 < a) (hb : 0 < b) (neg : Bool) : mult f a b = (roundNat 0 neg ((a : Rat) / (b : Rat) / pow2 (kept f a b - f.m)) : Nat) := by
  rw [← prt_rat hb]; exact near_round (Int.le_of_lt (prt_pos ha hb).1) (prt_pos ha hb).2 neg
theorem le_kept : log2 ((a : Rat) / (b : Rat)) ≤ kept f a b := by unfold kept; omega
theorem least_le_kept : f.least ≤ kept f a b := by unfold kept; omega
/-- as a fraction of powers: quotient at most so many -/
theorem quot_lt {x y : Int} {q : Rat} {p r : Int} {n : Nat} (hy : 0 < y) (h : (x : Rat) / (y : Rat) = q / pow2 r) (hq : q < pow2 p) (hn : p = r + n) : x < 2 ^ n * y := by
  rw [← cast_inj_lt, Rat.intCast_mul, cast_two_pow, ← Rat.div_lt_iff (cast_pos hy), h, Rat.div_lt_iff (pow2_pos r), ← pow2_add, Int.add_comm, ← hn]
  exact hq
theorem quot_ge {x y : Int} {q : Rat} {p r : Int} {n : Nat} (hy : 0 < y) (h : (x : Rat) / (y : Rat) = q / pow2 r) (hq : pow2 p ≤ q) (hn : p = r + n) : 2 ^ n * y ≤ x := by
  rw [← Int.not_lt, ← cast_inj_lt, Rat.intCast_mul, cast_two_pow, ← Rat.div_lt_iff (cast_pos hy), h, Rat.div_lt_iff (pow2_pos r), ← pow2_add, Int.add_comm, ← hn]
  exact Rat.not_lt.mpr hq
theorem mult_le (ha : 0 < a) (hb : 0 < b) : mult f a b ≤ 2 ^ (f.m + 1) := by
  have P := prt_pos (f := f) ha hb
  have L := log2_spec (div_pos ha hb)
  have hk := le_kept (f := f) (a := a) (b := b)
  have h := pow2_mono (show log2 ((a : Rat) / (b : Rat)) + 1 ≤ kept f a b + 1 by omega)
  refine near_le (Int.le_of_lt P.1) P.2 (Int.le_of_lt (quot_lt (q := (a : Rat) / (b : Rat)) (p := kept f a b + 1) (r := kept f a b - f.m) P.2 (prt_rat hb) ?_ (by omega)))
  grind
theorem le_mult (ha : 0 < a) (hb : 0 < b) (hk : kept f a b = log2 ((a : Rat) / (b : Rat))) : 2 ^ f.m ≤ mult f a b := by
  have P := prt_pos (f := f) ha hb
  have L := log2_spec (div_pos ha hb)
  refine le_near P.2 (quot_ge (q := (a : Rat) / (b : Rat)) (p := kept f a b) (r := kept f a b - f.m) P.2 (prt_rat hb) ?_ (by omega))
  rw [hk]; exact L.1
theorem v_lt_iff {n : Int} {r p : Int} {j : Nat} (h : p = r + j) : pow2 p ≤ (n : Rat) * pow2 r ↔ 2 ^ j ≤ n := by
  rw [h, pow2_add, Rat.mul_comm (n : Rat), ← cast_inj_le, cast_two_pow]
  constructor
  · intro z; exact Rat.le_of_mul_le_mul_left z (pow2_pos r)
  · intro z; exact Rat.mul_le_mul_of_nonneg_left z (Rat.le_of_lt (pow2_pos r))
theorem over_iff (g : Good f) (ha : 0 < a) (hb : 0 < b) : pow2 (f.most + 1) ≤ (mult f a b : Rat) * pow2 (kept f a b - f.m) ↔ (f.infBits : Int) ≤ size f a b := by
  have hle := mult_le (f := f) ha hb
  have hD := D_pos g
  have hlk := least_le_kept (f := f) (a := a) (b := b)
  have hM : (0 : Int) < 2 ^ f.m := Int.pow_pos (by decide)
  rw [Int.pow_succ] at hle
  rw [inf_eq g]
  unfold size
  by_cases c1 : kept f a b ≤ f.most
  · obtain ⟨j, hj⟩ : ∃ j : Nat, f.most = kept f a b + j := ⟨(f.most - kept f a b).toNat, by omega⟩
    have e : f.most + 1 = kept f a b - f.m + ((j + f.m + 1 : Nat) : Int) := by omega
    rw [v_lt_iff e, Int.pow_succ, Int.pow_add]
    have hj1 : (0 : Int) < 2 ^ j := Int.pow_pos (by decide)
    generalize hK : kept f a b - f.least = K at *
    have eD : f.most - f.least + 2 = K + j + 2 := by omega
    rw [eD]
    generalize (2 : Int) ^ f.m = M at *
    generalize mult f a b = N at *
    have e2 : (K + (j : Int) + 2) * M = K * M + j * M + 2 * M := by grind
    rw [e2]
    rcases Nat.eq_zero_or_pos j with z | z
    · subst z
      have : (2 : Int) ^ 0 = 1 := rfl
      rw [this]
      simp only [Int.one_mul, Int.natCast_zero, Int.zero_mul]
      omega
    · have h1 : (2 : Int) ≤ 2 ^ j := by
        have := Nat.pow_le_pow_right (by decide : 0 < 2) z
        have h2 : ((2 ^ 1 : Nat) : Int) ≤ ((2 ^ j : Nat) : Int) := by omega
        simpa using h2
      have h3 : 2 * M ≤ 2 ^ j * M := Int.mul_le_mul_of_nonneg_right h1 (Int.le_of_lt hM)
      have h4 : 1 * M ≤ (j : Int) * M := Int.mul_le_mul_of_nonneg_right (by omega) (Int.le_of_lt hM)
      constructor
      · intro z; omega
      · intro z; omega
  · have hk : kept f a b = log2 ((a : Rat) / (b : Rat)) := by unfold kept at *; omega
    have hge := le_mult ha hb hk
    constructor
    · intro _
      have h1 : f.most - f.least + 1 ≤ kept f a b - f.least := by omega
      have h2 := Int.mul_le_mul_of_nonneg_right h1 (Int.le_of_lt hM)
      have e2 : (f.most - f.least + 2) * 2 ^ f.m = (f.most - f.least + 1) * 2 ^ f.m + 2 ^ f.m := by grind
      omega
    · intro _
      have h1 := (v_lt_iff (n := mult f a b) (r := kept f a b - f.m) (p := kept f a b) (j := f.m) (by omega)).mpr hge
      have h2 := pow2_mono (show f.most + 1 ≤ kept f a b by omega)
      grind
theorem exact_iff (ha : 0 < a) (hb : 0 < b) : (mult f a b : Rat) * pow2 (kept f a b - f.m) = (a : Rat) / (b : Rat) ↔ (prt f a b).1 = mult f a b * (prt f a b).2 := by
  have P := prt_pos (f := f) ha hb
  have R := prt_rat (f := f) (a := a) hb
  have h1 := Rat.ne_of_gt (cast_pos P.2)
  have h2 := pow2_ne (kept f a b - f.m)
  rw [← Rat.intCast_inj, Rat.intCast_mul]
  constructor
  · intro z
    rw [← z] at R
    grind
  · intro z
    rw [z] at R
    grind
theorem small_iff (ha : 0 < a) (hb : 0 < b) (neg : Bool) :
    ((roundNat 0 neg ((a : Rat) / (b : Rat) / pow2 (log2 ((a : Rat) / (b : Rat)) - (f.m : Int))) : Nat) : Rat) * pow2 (log2 ((a : Rat) / (b : Rat)) - (f.m : Int)) < pow2 f.least ↔ small f a b = true := by
  have L := log2_spec (div_pos ha hb)
  have P := byP_pos (p := log2 ((a : Rat) / (b : Rat)) - f.m) ha hb
  have R := byP_rat (a := a) (p := log2 ((a : Rat) / (b : Rat)) - f.m) hb
  have N := near_round (Int.le_of_lt P.1) P.2 neg
  rw [R] at N
  have e : ((roundNat 0 neg ((a : Rat) / (b : Rat) / pow2 (log2 ((a : Rat) / (b : Rat)) - (f.m : Int))) : Nat) : Rat) = ((near (byP a b (log2 ((a : Rat) / (b : Rat)) - f.m)).1 (byP a b (log2 ((a : Rat) / (b : Rat)) - f.m)).2 : Int) : Rat) := by
    rw [N, Rat.intCast_natCast]
  rw [e]
  unfold small
  split
  · rename_i h
    refine ⟨fun z => ?_, fun z => by cases z⟩
    exfalso
    have h1 := le_near P.2 (quot_ge (n := f.m) (q := (a : Rat) / (b : Rat)) P.2 R L.1 (by omega))
    have h2 := (v_lt_iff (r := log2 ((a : Rat) / (b : Rat)) - f.m) (p := log2 ((a : Rat) / (b : Rat))) (j := f.m) (by omega)).mpr h1
    have h3 := pow2_mono h
    grind
  · rename_i h
    rw [decide_eq_true_eq, ← Rat.not_le, ← Int.not_le]
    exact not_congr (v_lt_iff (by omega))
end

theorem rsize_round {f : Fmt} {a b : Int} (g : Good f) (ha : 0 < a) (hb : 0 < b) (neg : Bool) :
    rsize f a b (if neg = true then (f.signBit : Int) else 0) = (((round f 0 neg ((a : Rat) / (b : Rat))).2 : Int), ((round f 0 neg ((a : Rat) / (b : Rat))).1 : Int)) := by
  have hN := mult_round (f := f) ha hb neg
  have hNr : ((roundNat 0 neg ((a : Rat) / (b : Rat) / pow2 (kept f a b - f.m)) : Nat) : Rat) = (mult f a b : Rat) := by rw [hN, Rat.intCast_natCast]
  have hlk := least_le_kept (f := f) (a := a) (b := b)
  have W : ∀ x : Nat, (if neg = true then (f.signBit : Int) else 0) + x = (withSign f neg x : Nat) := fun x => by
    unfold withSign; split <;> simp
  have hsz : (size f a b : Int) = ((roundNat 0 neg ((a : Rat) / (b : Rat) / pow2 (kept f a b - f.m)) + (kept f a b - f.least).toNat * 2 ^ f.m : Nat) : Int) := by
    unfold size
    rw [hN]
    have : ((kept f a b - f.least).toNat : Int) = kept f a b - f.least := by omega
    rw [Int.natCast_add, Int.natCast_mul, this, Int.add_comm]
    simp
  unfold round rsize
  dsimp only
  rw [show max (log2 ((a : Rat) / (b : Rat))) f.least = kept f a b from rfl, hNr]
  by_cases c1 : (f.infBits : Int) ≤ size f a b
  · rw [if_pos c1, if_pos ((over_iff g ha hb).mpr c1)]
    rw [if_pos (Or.inl rfl), W]
    rfl
  · rw [if_neg c1, if_neg (fun z => c1 ((over_iff g ha hb).mp z))]
    simp only [exact_iff ha hb, small_iff ha hb]
    rw [hsz, W]
    split
    · rfl
    · split
      · rfl
      · rfl

/-- the program's rounding of any fraction -/
def rnd (f : Fmt) (a b : Int) : Int × Int :=
  if a = 0 then (0, 0) else rsize f (if a < 0 then -a else a) (if b < 0 then -b else b) (if (decide (a < 0) != decide (b < 0)) = true then (f.signBit : Int) else 0)

theorem rnd_once {k : Nat} {a b : Int} (g : Good (fmt k)) (hb : b ≠ 0) : rnd (fmt k) a b = (((once k ((a : Rat) / (b : Rat))).2 : Int), ((once k ((a : Rat) / (b : Rat))).1 : Int)) := by
  have hb' : (b : Rat) ≠ 0 := fun z => hb (Rat.intCast_eq_zero_iff.mp z)
  unfold rnd once ofRat
  by_cases c : a = 0
  · subst c
    have : ((0 : Int) : Rat) / (b : Rat) = 0 := by grind
    rw [if_pos rfl, if_pos this]
    unfold pack withSign
    dsimp only
    rw [if_pos rfl]
    rfl
  · have hq : (a : Rat) / (b : Rat) ≠ 0 := fun z => c (Rat.intCast_eq_zero_iff.mp (by grind))
    rw [if_neg c, if_neg hq]
    have hA : 0 < (if a < 0 then -a else a) := by split <;> omega
    have hB : 0 < (if b < 0 then -b else b) := by split <;> omega
    have key : (decide (a < 0) != decide (b < 0)) = decide ((a : Rat) / (b : Rat) < 0) ∧ (((if a < 0 then -a else a : Int) : Rat) / ((if b < 0 then -b else b : Int) : Rat)) = (if (a : Rat) / (b : Rat) < 0 then -((a : Rat) / (b : Rat)) else (a : Rat) / (b : Rat)) := by
      by_cases ca : a < 0 <;> by_cases cb : b < 0
      · have h1 := div_pos (show 0 < -a by omega) (show 0 < -b by omega)
        have e : ((-a : Int) : Rat) / ((-b : Int) : Rat) = (a : Rat) / (b : Rat) := by rw [Rat.intCast_neg, Rat.intCast_neg]; grind
        rw [e] at h1
        rw [if_pos ca, if_pos cb, if_neg (by grind), e]
        refine ⟨?_, rfl⟩
        rw [decide_eq_true ca, decide_eq_true cb, decide_eq_false (by grind)]; rfl
      · have h1 := div_pos (show 0 < -a by omega) (show 0 < b by omega)
        have e : ((-a : Int) : Rat) / (b : Rat) = -((a : Rat) / (b : Rat)) := by rw [Rat.intCast_neg]; grind
        rw [e] at h1
        rw [if_pos ca, if_neg cb, if_pos (by grind), e]
        refine ⟨?_, rfl⟩
        rw [decide_eq_true ca, decide_eq_false cb, decide_eq_true (by grind)]; rfl
      · have h1 := div_pos (show 0 < a by omega) (show 0 < -b by omega)
        have e : (a : Rat) / ((-b : Int) : Rat) = -((a : Rat) / (b : Rat)) := by rw [Rat.intCast_neg]; grind
        rw [e] at h1
        rw [if_neg ca, if_pos cb, if_pos (by grind), e]
        refine ⟨?_, rfl⟩
        rw [decide_eq_false ca, decide_eq_true cb, decide_eq_true (by grind)]; rfl
      · have h1 := div_pos (show 0 < a by omega) (show 0 < b by omega)
        rw [if_neg ca, if_neg cb, if_neg (by grind)]
        refine ⟨?_, rfl⟩
        rw [decide_eq_false ca, decide_eq_false cb, decide_eq_false (by grind)]; rfl
    rw [key.1, rsize_round g hA hB, key.2]
    unfold pack
    have hne : (if (a : Rat) / (b : Rat) < 0 then -((a : Rat) / (b : Rat)) else (a : Rat) / (b : Rat)) ≠ 0 := by split <;> grind
    dsimp only
    rw [if_neg hne]
end Er
end
section
set_option Elab.async false
set_option linter.all false
set_option maxRecDepth 100000
set_option maxHeartbeats 4000000
namespace Er
open Lw LwSt

def xOf (f : Fmt) (c : Nat) : Nat := c / 2 ^ f.m % 2 ^ f.e
def rOf (f : Fmt) (c : Nat) : Nat := c % 2 ^ f.m
def sOf (f : Fmt) (c : Nat) : Bool := c.testBit (f.e + f.m)
def isNum (f : Fmt) (c : Nat) : Bool := !(xOf f c == 2 ^ f.e - 1)
def sizeU (f : Fmt) (c : Nat) : Nat := if 0 < xOf f c then (2 ^ f.m + rOf f c) * 2 ^ (xOf f c - 1) else rOf f c
def unitsOf (f : Fmt) (c : Nat) : Int := if sOf f c = true then -(sizeU f c : Int) else (sizeU f c : Int)
def unit (f : Fmt) : Rat := pow2 (f.least - (f.m : Int))

theorem and_high (c e m : Nat) : c &&& ((2 ^ e - 1) * 2 ^ m) = c / 2 ^ m % 2 ^ e * 2 ^ m := by
  have h1 : c &&& ((2 ^ e - 1) <<< m) = ((c >>> m) &&& (2 ^ e - 1)) <<< m := by
    apply Nat.eq_of_testBit_eq
    intro i
    simp only [Nat.testBit_and, Nat.testBit_shiftLeft, Nat.testBit_shiftRight]
    by_cases h : m ≤ i
    · simp [h, Nat.add_sub_cancel' h]
    · simp [h]
  rw [← Nat.shiftLeft_eq, h1, Nat.shiftLeft_eq, Nat.shiftRight_eq_div_pow, Nat.and_two_pow_sub_one_eq_mod]
theorem and_low (c m : Nat) : c &&& (2 ^ m - 1) = c % 2 ^ m := Nat.and_two_pow_sub_one_eq_mod c m
theorem and_bit_eq (c i : Nat) : c &&& 2 ^ i = if c.testBit i = true then 2 ^ i else 0 := by
  apply Nat.eq_of_testBit_eq
  intro j
  rw [Nat.testBit_and, Nat.testBit_two_pow]
  by_cases hj : i = j
  · subst hj
    cases h : c.testBit i
    · simp
    · simp [Nat.testBit_two_pow_self]
  · cases h : c.testBit i
    · simp [hj]
    · simp [hj, Nat.testBit_two_pow]
theorem and_bit (c i : Nat) : (c &&& 2 ^ i ≠ 0) ↔ c.testBit i = true := by
  rw [and_bit_eq]
  cases h : c.testBit i
  · simp
  · simp

theorem decode_num {f : Fmt} {c : Nat} (h : isNum f c = true) : decode f c = .num (sOf f c) ((sizeU f c : Rat) * unit f) := by
  have hx : ¬ xOf f c = 2 ^ f.e - 1 := by
    intro z; rw [isNum, z] at h; simp at h
  unfold decode
  dsimp only
  rw [if_neg (show ¬ c / 2 ^ f.m % 2 ^ f.e = 2 ^ f.e - 1 from hx)]
  unfold sizeU
  by_cases h0 : c / 2 ^ f.m % 2 ^ f.e = 0
  · rw [if_pos h0, if_neg (show ¬ 0 < xOf f c by unfold xOf; omega)]
    rfl
  · rw [if_neg h0, if_pos (show 0 < xOf f c by unfold xOf; omega)]
    show Val.num _ _ = Val.num _ _
    congr 1
    rw [Rat.natCast_mul, Rat.mul_assoc]
    congr 1
    rw [← pow2_nat, unit, ← pow2_add]
    congr 1
    unfold Fmt.least xOf
    omega
/-- how deep the unit is -/
def depth (f : Fmt) : Nat := ((f.m : Int) - f.least).toNat
theorem least_neg {f : Fmt} (g : Good f) : f.least ≤ 0 := by
  rw [least_eq]
  have : (2 : Int) ^ 1 ≤ 2 ^ (f.e - 1) := by
    have := g.e
    exact_mod_cast Nat.pow_le_pow_right (by decide : 0 < 2) (by omega : 1 ≤ f.e - 1)
  omega
theorem unit_depth {f : Fmt} (g : Good f) : unit f * (((2 : Int) ^ depth f : Int) : Rat) = 1 := by
  have h := least_neg g
  have e : ((depth f : Nat) : Int) = -(f.least - (f.m : Int)) := by unfold depth; omega
  rw [cast_two_pow, e]
  exact pow2_neg _
theorem unit_ne (f : Fmt) : unit f ≠ 0 := pow2_ne _
end Er
end
section
set_option Elab.async false
set_option linter.all false
set_option maxRecDepth 100000
set_option maxHeartbeats 4000000
namespace Er
open Lw LwSt

def IsK (k : Nat) : Prop := k = 9 ∨ k = 10 ∨ k = 11 ∨ k = 12
theorem IsK.good {k : Nat} (h : IsK k) : Good (fmt k) := by
  rcases h with h | h | h | h <;> subst h <;> exact ⟨by decide, by decide⟩
theorem IsK.ne {k : Nat} (h : IsK k) : k ≠ 0 := by rcases h with h | h | h | h <;> subst h <;> decide
theorem IsK.bits {k : Nat} (h : IsK k) : 2 ^ (8 * Lw.sizeOf k) = 2 * (fmt k).signBit := by
  rcases h with h | h | h | h <;> subst h <;> decide +kernel
theorem IsK.e {k : Nat} (h : IsK k) : (fmt k).e ≤ 11 := by rcases h with h | h | h | h <;> subst h <;> decide
theorem IsK.m {k : Nat} (h : IsK k) : (fmt k).m ≤ 52 := by rcases h with h | h | h | h <;> subst h <;> decide
theorem IsK.top {k : Nat} (h : IsK k) : (fmt k).m + 2 ^ (fmt k).e ≤ 2100 := by rcases h with h | h | h | h <;> subst h <;> decide
theorem IsK.depth {k : Nat} (h : IsK k) : depth (fmt k) ≤ 1074 := by rcases h with h | h | h | h <;> subst h <;> decide +kernel
theorem IsK.least {k : Nat} (h : IsK k) : -1022 ≤ (fmt k).least := by rcases h with h | h | h | h <;> subst h <;> decide +kernel
def okKind (kind : Int) : Bool := decide (kind = 9) || (decide (kind = 10) || (decide (kind = 11) || decide (kind = 12)))
theorem okKind_iff {kind : Int} : okKind kind = true ↔ IsK kind.toNat := by
  unfold okKind IsK
  simp only [Bool.or_eq_true, decide_eq_true_eq]
  omega
def cellOk (f : Fmt) (c : Int) : Bool := decide (0 ≤ c) && decide (c < 2 * (f.signBit : Int))
def rowOk (f : Fmt) (n : Nat) (x : List Int) : Bool := decide (x.length ≤ 4096) && (decide (x.length = n) && x.all (cellOk f))
def refuseV (kind : Int) (xss : List (List Int)) : Int :=
  if okKind kind = true then (if xss.all (rowOk (fmt kind.toNat) (xss.headD []).length) = true then (if (xss.headD []).length = 0 then -4 else 0) else -1) else -1
theorem floatBad_eq {kind : Int} (h : 0 ≤ kind) : Bd.floatBad kind.toNat = !okKind kind := by
  unfold Bd.floatBad okKind
  rw [Bool.eq_iff_iff]
  simp only [Bool.not_eq_true', Bool.and_eq_false_iff, Bool.or_eq_false_iff, decide_eq_false_iff_not]
  omega
theorem rowBad_eq {k : Nat} (hk : IsK k) {n : Nat} {x : List Int} (hx : ∀ c ∈ x, 0 ≤ c) : (Bd.rowBad k Bd.LONGEST_ (BdNeutral.nats x) || (BdNeutral.nats x).length != n) = !rowOk (fmt k) n x := by
  unfold Bd.rowBad rowOk BdNeutral.nats Bd.LONGEST_
  rw [List.length_map, hk.bits, List.any_map]
  have e : (x.any ((fun (c : Nat) => decide (2 * (fmt k).signBit ≤ c)) ∘ Int.toNat)) = !x.all (cellOk (fmt k)) := by
    have key : ∀ l : List Int, (∀ c ∈ l, 0 ≤ c) → (l.any ((fun (c : Nat) => decide (2 * (fmt k).signBit ≤ c)) ∘ Int.toNat)) = !l.all (cellOk (fmt k)) := by
      intro l
      induction l with
      | nil => intro _; rfl
      | cons c l ih =>
        intro hl
        rw [List.any_cons, List.all_cons, ih fun d hd => hl d (List.mem_cons_of_mem _ hd), Bool.not_and]
        congr 1
        have := hl c (List.mem_cons_self ..)
        unfold cellOk
        simp only [Function.comp]
        rw [Bool.eq_iff_iff]
        simp only [decide_eq_true_eq, Bool.not_eq_true', Bool.and_eq_false_iff, decide_eq_false_iff_not]
        omega
    exact key x hx
  rw [e, Bool.eq_iff_iff]
  simp only [Bool.or_eq_true, decide_eq_true_eq, Bool.not_eq_true', Bool.and_eq_false_iff, decide_eq_false_iff_not, bne_iff_ne]
  constructor
  · rintro ((h | h) | h)
    · exact Or.inl (by omega)
    · exact Or.inr (Or.inr h)
    · exact Or.inr (Or.inl h)
  · rintro (h | h | h)
    · exact Or.inl (Or.inl (by omega))
    · exact Or.inr h
    · exact Or.inl (Or.inr h)

def numI (f : Fmt) (c : Int) : Bool := isNum f c.toNat
def unitI (f : Fmt) (c : Int) : Int := unitsOf f c.toNat
theorem nats_nil {x : List Int} : BdNeutral.nats x = [] ↔ x.length = 0 := by
  unfold BdNeutral.nats
  rw [List.map_eq_nil_iff, List.length_eq_zero_iff]
end Er
end
section
set_option Elab.async false
set_option linter.all false
set_option maxRecDepth 100000
set_option maxHeartbeats 4000000
namespace Er
open Lw LwSt

def orI (a b : Int) : Int := ((a.toNat ||| b.toNat : Nat) : Int)
def togetherP (rs : List (Int × Int)) : List Int := (rs.foldl (fun (f : Int) (r : Int × Int) => orI f r.1) 0) :: rs.map (fun r => r.2)
def outI (o : Out) : Int × Int := ((o.2 : Int), (o.1 : Int))
theorem fold_or : ∀ (l : List Out) (a : Nat), (l.map outI).foldl (fun (f : Int) (r : Int × Int) => orI f r.1) (a : Int) = ((l.foldl (fun (f : Nat) (o : Out) => f ||| o.2) a : Nat) : Int)
  | [], _ => rfl
  | o :: l, a => by
    rw [List.map_cons, List.foldl_cons, List.foldl_cons]
    exact fold_or l (a ||| o.2)
theorem shown_tell (l : List Out) : BdNeutral.shown (Bd.tell l) = togetherP (l.map outI) := by
  unfold Bd.tell BdNeutral.shown togetherP
  rw [show (0 : Int) = ((0 : Nat) : Int) from rfl, fold_or]
  simp [outI]

theorem refuse_one {kind : Int} {x : List Int} (c1 : refuseV kind [x] ≠ -1) : okKind kind = true ∧ rowOk (fmt kind.toNat) x.length x = true ∧ refuseV kind [x] = if x.length = 0 then -4 else 0 := by
  unfold refuseV at c1 ⊢
  by_cases hk : okKind kind = true
  · rw [if_pos hk] at c1 ⊢
    split at c1
    · rename_i h
      refine ⟨hk, ?_, ?_⟩
      · simpa using h
      · rw [if_pos h]; rfl
    · exact absurd rfl c1
  · rw [if_neg hk] at c1; exact absurd rfl c1

theorem pow_ne {a : Int} (h : a ≠ 0) : ∀ n : Nat, a ^ n ≠ 0
  | 0 => by simp
  | n + 1 => by rw [Int.pow_succ]; exact Int.mul_ne_zero (pow_ne h n) h
end Er
end
section
set_option Elab.async false
set_option linter.all false
set_option maxRecDepth 100000
set_option maxHeartbeats 4000000
namespace Er
open Lw LwSt

/-- |i| is below 2 to the n -/
def Lt2 (i : Int) (n : Nat) : Prop := i.natAbs < 2 ^ n
theorem Lt2.mono {i : Int} {n m : Nat} (h : Lt2 i n) (hm : n ≤ m) : Lt2 i m := Nat.lt_of_lt_of_le h (Nat.pow_le_pow_right (by decide) hm)
theorem Lt2.mul {i j : Int} {n m : Nat} (h : Lt2 i n) (g : Lt2 j m) : Lt2 (i * j) (n + m) := by
  unfold Lt2 at *
  rw [Int.natAbs_mul, Nat.pow_add]
  exact Nat.mul_lt_mul'' h g
theorem Lt2.add {i j : Int} {n : Nat} (h : Lt2 i n) (g : Lt2 j n) : Lt2 (i + j) (n + 1) := by
  unfold Lt2 at *
  have := Int.natAbs_add_le i j
  rw [Nat.pow_succ]; omega
theorem Lt2.sub {i j : Int} {n : Nat} (h : Lt2 i n) (g : Lt2 j n) : Lt2 (i - j) (n + 1) := by
  unfold Lt2 at *
  rw [Nat.pow_succ]; omega
theorem Lt2.neg {i : Int} {n : Nat} (h : Lt2 i n) : Lt2 (-i) n := by unfold Lt2 at *; rw [Int.natAbs_neg]; exact h
theorem Lt2.abs {i : Int} {n : Nat} (h : Lt2 i n) : Lt2 (if i < 0 then -i else i) n := by
  split
  · exact h.neg
  · exact h
theorem Lt2.two (n : Nat) : Lt2 (2 ^ n) (n + 1) := by
  unfold Lt2
  rw [Int.natAbs_pow]
  exact Nat.pow_lt_pow_right (by decide) (Nat.lt_succ_self n)
theorem Lt2.shl {i : Int} {n j : Nat} (h : Lt2 i n) : Lt2 (i * 2 ^ j) (n + j) := by
  unfold Lt2 at *
  rw [Int.natAbs_mul, Int.natAbs_pow, Nat.pow_add]
  exact Nat.mul_lt_mul_of_pos_right h (Nat.two_pow_pos j)
theorem Lt2.of_lt {i : Int} {n : Nat} (h0 : 0 ≤ i) (h : i < 2 ^ n) : Lt2 i n := by
  unfold Lt2
  have : ((i.natAbs : Nat) : Int) < ((2 ^ n : Nat) : Int) := by
    rw [Int.natCast_pow]
    have : ((i.natAbs : Nat) : Int) = i := by omega
    rw [this]; exact h
  omega
theorem Lt2.lt {i : Int} {n : Nat} (h : Lt2 i n) : i < 2 ^ n := by
  unfold Lt2 at h
  have : ((i.natAbs : Nat) : Int) < ((2 ^ n : Nat) : Int) := by omega
  rw [Int.natCast_pow] at this
  have h2 : i ≤ ((i.natAbs : Nat) : Int) := by omega
  exact Int.lt_of_le_of_lt h2 this
theorem Lt2.len {n : Nat} (h : n ≤ 4096) : Lt2 (n : Int) 13 := by
  unfold Lt2
  have : (2 : Nat) ^ 13 = 8192 := by decide
  omega
theorem unit_lt {k : Nat} (hk : IsK k) (c : Int) : Lt2 (unitI (fmt k) c) 2100 := by
  have htop := hk.top
  unfold unitI unitsOf Lt2
  have key : sizeU (fmt k) c.toNat < 2 ^ 2100 := by
    unfold sizeU
    have hr : rOf (fmt k) c.toNat < 2 ^ (fmt k).m := Nat.mod_lt _ (Nat.two_pow_pos _)
    have hx : xOf (fmt k) c.toNat < 2 ^ (fmt k).e := Nat.mod_lt _ (Nat.two_pow_pos _)
    split
    · rename_i h0
      have h1 : 2 ^ (fmt k).m + rOf (fmt k) c.toNat < 2 ^ ((fmt k).m + 1) := by rw [Nat.pow_succ]; omega
      have h2 : (2 ^ (fmt k).m + rOf (fmt k) c.toNat) * 2 ^ (xOf (fmt k) c.toNat - 1) < 2 ^ ((fmt k).m + 1) * 2 ^ (xOf (fmt k) c.toNat - 1) := Nat.mul_lt_mul_of_pos_right h1 (Nat.two_pow_pos _)
      rw [← Nat.pow_add] at h2
      exact Nat.lt_of_lt_of_le h2 (Nat.pow_le_pow_right (by decide) (by omega))
    · exact Nat.lt_of_lt_of_le hr (Nat.pow_le_pow_right (by decide) (by omega))
  split <;> omega

theorem log2_bounds {a b : Int} {n : Nat} (ha : 0 < a) (hb : 0 < b) (la : Lt2 a n) (lb : Lt2 b n) : -(n : Int) ≤ log2 ((a : Rat) / (b : Rat)) ∧ log2 ((a : Rat) / (b : Rat)) ≤ n := by
  have L := log2_spec (div_pos ha hb)
  have hA : (a : Rat) < pow2 n := by rw [← cast_two_pow]; exact cast_inj_lt.mpr la.lt
  have hB : (b : Rat) < pow2 n := by rw [← cast_two_pow]; exact cast_inj_lt.mpr lb.lt
  have h1 : (1 : Rat) ≤ (a : Rat) := by
    have : ((1 : Int) : Rat) ≤ (a : Rat) := cast_inj_le.mpr (by omega)
    exact this
  have h2 : (1 : Rat) ≤ (b : Rat) := by
    have : ((1 : Int) : Rat) ≤ (b : Rat) := cast_inj_le.mpr (by omega)
    exact this
  have hb0 := cast_pos hb
  constructor
  · have : pow2 (-(n : Int)) < pow2 (log2 ((a : Rat) / (b : Rat)) + 1) := by
      have h3 : pow2 (-(n : Int)) < (a : Rat) / (b : Rat) := by
        rw [Rat.lt_div_iff hb0]
        have h4 := Rat.mul_lt_mul_of_pos_left hB (pow2_pos (-(n : Int)))
        have h5 := pow2_neg (n : Int)
        grind
      grind
    have := lt_of_pow2 this
    omega
  · have : pow2 (log2 ((a : Rat) / (b : Rat))) < pow2 n := by
      have h3 : (a : Rat) / (b : Rat) ≤ (a : Rat) := by
        rw [← Rat.not_lt, Rat.lt_div_iff hb0, Rat.not_lt]
        have := Rat.mul_le_mul_of_nonneg_left h2 (show (0 : Rat) ≤ (a : Rat) by grind)
        grind
      grind
    have := lt_of_pow2 this
    omega
theorem byP_lt {a b p : Int} {n j : Nat} (la : Lt2 a n) (lb : Lt2 b n) (h1 : -(j : Int) ≤ p) (h2 : p ≤ j) : Lt2 (byP a b p).1 (n + j) ∧ Lt2 (byP a b p).2 (n + j) := by
  unfold byP
  split
  · exact ⟨(Lt2.shl la).mono (by omega), lb.mono (by omega)⟩
  · exact ⟨la.mono (by omega), (Lt2.shl lb).mono (by omega)⟩
/-- the divisor stays small: a shift up of it is by the quotient's own power at most -/
theorem byP_snd {a b p : Int} {n : Nat} (ha : 0 < a) (hb : 0 < b) (la : Lt2 a n) (lb : Lt2 b n) (hp : p < 0 ∨ p ≤ log2 ((a : Rat) / (b : Rat))) : Lt2 (byP a b p).2 (n + 1) := by
  unfold byP
  split
  · exact lb.mono (by omega)
  · rename_i h0
    have hp : p ≤ log2 ((a : Rat) / (b : Rat)) := hp.resolve_left h0
    have L := log2_spec (div_pos ha hb)
    have h1 : pow2 p ≤ (a : Rat) / (b : Rat) := Rat.le_trans (pow2_mono hp) L.1
    have h2 : b * 2 ^ p.toNat ≤ a := by
      rw [← cast_inj_le, Rat.intCast_mul, cast_two_pow]
      have e : ((p.toNat : Nat) : Int) = p := by omega
      rw [e]
      have hb0 := cast_pos hb
      have h3 := Rat.mul_le_mul_of_nonneg_right h1 (Rat.le_of_lt hb0)
      rw [Rat.div_mul_cancel (Rat.ne_of_gt hb0)] at h3
      rw [Rat.mul_comm]; exact h3
    have h3 : 0 < b * 2 ^ p.toNat := Int.mul_pos hb (Int.pow_pos (by decide))
    exact (Lt2.of_lt (Int.le_of_lt h3) (Int.lt_of_le_of_lt h2 la.lt)).mono (by omega)
theorem kept_bounds {k : Nat} (hk : IsK k) {a b : Int} {n : Nat} (ha : 0 < a) (hb : 0 < b) (la : Lt2 a n) (lb : Lt2 b n) : -1022 ≤ kept (fmt k) a b ∧ kept (fmt k) a b ≤ n := by
  have := log2_bounds ha hb la lb
  have := hk.least
  have := least_neg hk.good
  unfold kept
  omega
theorem prt_snd {k : Nat} (hk : IsK k) {a b : Int} {n : Nat} (ha : 0 < a) (hb : 0 < b) (la : Lt2 a n) (lb : Lt2 b n) : Lt2 (prt (fmt k) a b).2 (n + 1) := by
  refine byP_snd ha hb la lb ?_
  have := least_neg hk.good
  have := hk.good.m
  unfold kept
  omega
theorem mult_lt {k : Nat} (hk : IsK k) {a b : Int} (ha : 0 < a) (hb : 0 < b) : Lt2 (mult (fmt k) a b) 54 := by
  have h1 := mult_le (f := fmt k) ha hb
  have h2 := mult_nonneg (f := fmt k) ha hb
  have h3 : (2 : Int) ^ ((fmt k).m + 1) < 2 ^ 54 := by
    have := hk.m
    have h4 : (2 : Nat) ^ ((fmt k).m + 1) < 2 ^ 54 := Nat.pow_lt_pow_right (by decide) (by omega)
    have h5 : ((2 ^ ((fmt k).m + 1) : Nat) : Int) < ((2 ^ 54 : Nat) : Int) := by omega
    simpa using h5
  exact Lt2.of_lt h2 (Int.lt_of_le_of_lt h1 h3)
end Er
end
section
set_option Elab.async false
set_option linter.all false
set_option maxRecDepth 100000
set_option maxHeartbeats 4000000
namespace Er
open Lw LwSt

/-- the low bits: exponent and fraction -/
def mag (f : Fmt) (c : Nat) : Nat := c % 2 ^ (f.e + f.m)
theorem mag_parts (f : Fmt) (c : Nat) : mag f c = xOf f c * 2 ^ f.m + rOf f c := by
  unfold mag xOf rOf
  have h : 2 ^ (f.e + f.m) = 2 ^ f.m * 2 ^ f.e := by rw [Nat.pow_add, Nat.mul_comm]
  rw [h, Nat.mod_mul, Nat.mul_comm (2 ^ f.m), Nat.add_comm]
theorem rOf_lt (f : Fmt) (c : Nat) : rOf f c < 2 ^ f.m := Nat.mod_lt _ (Nat.two_pow_pos _)
theorem xOf_lt (f : Fmt) (c : Nat) : xOf f c < 2 ^ f.e := Nat.mod_lt _ (Nat.two_pow_pos _)
theorem parts_lt {f : Fmt} {x y r s : Nat} (hr : r < 2 ^ f.m) (hs : s < 2 ^ f.m) : x * 2 ^ f.m + r < y * 2 ^ f.m + s ↔ x < y ∨ (x = y ∧ r < s) := by
  constructor
  · intro h
    by_cases hx : x < y
    · exact Or.inl hx
    · by_cases he : x = y
      · subst he; exact Or.inr ⟨rfl, by omega⟩
      · have : (y + 1) * 2 ^ f.m ≤ x * 2 ^ f.m := Nat.mul_le_mul_right _ (by omega)
        rw [Nat.add_mul] at this
        omega
  · rintro (h | ⟨rfl, h⟩)
    · have : (x + 1) * 2 ^ f.m ≤ y * 2 ^ f.m := Nat.mul_le_mul_right _ (by omega)
      rw [Nat.add_mul] at this
      omega
    · omega
/-- sizes by exponent and fraction -/
def szU (f : Fmt) (x r : Nat) : Nat := if 0 < x then (2 ^ f.m + r) * 2 ^ (x - 1) else r
theorem szU_lt {f : Fmt} {x y r s : Nat} (hr : r < 2 ^ f.m) (hs : s < 2 ^ f.m) (h : x < y ∨ (x = y ∧ r < s)) : szU f x r < szU f y s := by
  unfold szU
  rcases h with h | ⟨rfl, h⟩
  · rw [if_pos (show 0 < y by omega)]
    have h1 : 2 ^ f.m * 2 ^ (y - 1) ≤ (2 ^ f.m + s) * 2 ^ (y - 1) := Nat.mul_le_mul_right _ (by omega)
    by_cases h0 : 0 < x
    · rw [if_pos h0]
      have h2 : (2 ^ f.m + r) * 2 ^ (x - 1) < (2 ^ f.m + 2 ^ f.m) * 2 ^ (x - 1) := Nat.mul_lt_mul_of_pos_right (by omega) (Nat.two_pow_pos _)
      have h3 : (2 ^ f.m + 2 ^ f.m) * 2 ^ (x - 1) = 2 ^ f.m * 2 ^ x := by
        have : 2 ^ x = 2 ^ (x - 1) * 2 := by rw [← Nat.pow_succ]; congr 1; omega
        rw [this, Nat.add_mul, Nat.mul_comm (2 ^ (x - 1)) 2, ← Nat.mul_assoc, Nat.mul_comm (2 ^ f.m) 2, Nat.mul_assoc]
        omega
      have h4 : 2 ^ f.m * 2 ^ x ≤ 2 ^ f.m * 2 ^ (y - 1) := Nat.mul_le_mul_left _ (Nat.pow_le_pow_right (by decide) (by omega))
      omega
    · rw [if_neg h0]
      have h4 : 2 ^ f.m * 1 ≤ 2 ^ f.m * 2 ^ (y - 1) := Nat.mul_le_mul_left _ Nat.one_le_two_pow
      omega
  · split
    · exact Nat.mul_lt_mul_of_pos_right (by omega) (Nat.two_pow_pos _)
    · exact h
theorem sizeU_eq (f : Fmt) (c : Nat) : sizeU f c = szU f (xOf f c) (rOf f c) := rfl
theorem sizeU_lt_iff {f : Fmt} (a b : Nat) : sizeU f a < sizeU f b ↔ mag f a < mag f b := by
  rw [mag_parts, mag_parts, parts_lt (rOf_lt f a) (rOf_lt f b), sizeU_eq, sizeU_eq]
  constructor
  · intro h
    rcases Nat.lt_trichotomy (xOf f a) (xOf f b) with h1 | h1 | h1
    · exact Or.inl h1
    · rcases Nat.lt_trichotomy (rOf f a) (rOf f b) with h2 | h2 | h2
      · exact Or.inr ⟨h1, h2⟩
      · rw [h1, h2] at h; omega
      · have := szU_lt (f := f) (rOf_lt f b) (rOf_lt f a) (Or.inr ⟨h1.symm, h2⟩)
        omega
    · have := szU_lt (f := f) (rOf_lt f b) (rOf_lt f a) (Or.inl h1)
      omega
  · exact szU_lt (rOf_lt f a) (rOf_lt f b)
theorem sizeU_eq_iff {f : Fmt} (a b : Nat) : sizeU f a = sizeU f b ↔ mag f a = mag f b := by
  have h1 := sizeU_lt_iff (f := f) a b
  have h2 := sizeU_lt_iff (f := f) b a
  omega
/-- none -/
def nanC (f : Fmt) (c : Nat) : Bool := decide (f.infBits < mag f c)
theorem mag_inf {f : Fmt} (c : Nat) : isNum f c = false ↔ f.infBits ≤ mag f c := by
  rw [mag_parts]
  unfold isNum Fmt.infBits
  have h := xOf_lt f c
  have hr := rOf_lt f c
  constructor
  · intro z
    have z : xOf f c = 2 ^ f.e - 1 := by simpa using z
    rw [z]; omega
  · intro z
    simp only [Bool.not_eq_false', beq_iff_eq]
    by_cases h2 : xOf f c = 2 ^ f.e - 1
    · exact h2
    · have : (xOf f c + 1) * 2 ^ f.m ≤ (2 ^ f.e - 1) * 2 ^ f.m := Nat.mul_le_mul_right _ (by omega)
      rw [Nat.add_mul] at this
      omega
theorem mag_num {f : Fmt} {c : Nat} (h : isNum f c = true) : mag f c < f.infBits := by
  have := mag_inf (f := f) c
  by_cases h2 : f.infBits ≤ mag f c
  · rw [this.mpr h2] at h; cases h
  · omega
theorem decode_not {f : Fmt} {c : Nat} (h : isNum f c = false) : decode f c = if nanC f c = true then .nan else .inf (sOf f c) := by
  have hx : xOf f c = 2 ^ f.e - 1 := by unfold isNum at h; simpa using h
  unfold decode nanC
  dsimp only
  rw [if_pos (show c / 2 ^ f.m % 2 ^ f.e = 2 ^ f.e - 1 from hx), mag_parts, hx]
  by_cases h0 : c % 2 ^ f.m = 0
  · rw [if_pos h0, if_neg]
    · rfl
    · unfold Fmt.infBits rOf
      simp [h0]
  · rw [if_neg h0, if_pos]
    unfold Fmt.infBits rOf
    simp
    omega
theorem isNan_eq (f : Fmt) (c : Nat) : isNan (decode f c) = nanC f c := by
  cases h : isNum f c
  · rw [decode_not h]
    cases nanC f c <;> rfl
  · rw [decode_num h]
    have := mag_num h
    unfold nanC
    simp [isNan]
    omega
/-- by value: sign and size -/
def vKey (f : Fmt) (c : Nat) : Int := if sOf f c = true then -(mag f c : Int) else (mag f c : Int)
/-- in order: the nought with the sign ahead -/
def oKey (f : Fmt) (c : Nat) : Int := if sOf f c = true then -(mag f c : Int) - 1 else (mag f c : Int)

theorem unit_pos (f : Fmt) : 0 < unit f := pow2_pos _
theorem signed_units (f : Fmt) (c : Nat) : signedOf (sOf f c) ((sizeU f c : Rat) * unit f) = ((unitsOf f c : Int) : Rat) * unit f := by
  unfold signedOf unitsOf
  cases sOf f c
  · simp only [Bool.false_eq_true, if_false]
    rw [Rat.intCast_natCast]
  · simp only [if_true]
    rw [Rat.intCast_neg, Rat.intCast_natCast, Rat.neg_mul]
theorem mul_unit_lt (f : Fmt) (a b : Int) : (a : Rat) * unit f < (b : Rat) * unit f ↔ a < b := by
  have h := unit_pos f
  rw [← Rat.intCast_lt_intCast]
  constructor
  · intro z; exact Rat.lt_of_mul_lt_mul_right z (Rat.le_of_lt h)
  · intro z; exact Rat.mul_lt_mul_of_pos_right z h
theorem mul_unit_eq (f : Fmt) (a b : Int) : (a : Rat) * unit f = (b : Rat) * unit f ↔ a = b := by
  have h := unit_pos f
  rw [← Rat.intCast_inj]
  constructor
  · intro z
    have h0 := unit_ne f
    grind
  · intro z; rw [z]
theorem units_lt_key (f : Fmt) (a b : Nat) : unitsOf f a < unitsOf f b ↔ vKey f a < vKey f b := by
  have h1 := sizeU_lt_iff (f := f) a b
  have h2 := sizeU_lt_iff (f := f) b a
  have z1 : sizeU f a = 0 ↔ mag f a = 0 := by
    have := sizeU_eq_iff (f := f) a 0
    have e0 : mag f 0 = 0 := Nat.zero_mod _
    have e1 : sizeU f 0 = 0 := by unfold sizeU xOf rOf; simp
    omega
  have z2 : sizeU f b = 0 ↔ mag f b = 0 := by
    have := sizeU_eq_iff (f := f) b 0
    have e0 : mag f 0 = 0 := Nat.zero_mod _
    have e1 : sizeU f 0 = 0 := by unfold sizeU xOf rOf; simp
    omega
  unfold unitsOf vKey
  cases sOf f a <;> cases sOf f b <;> simp only [Bool.false_eq_true, if_false, if_true] <;> omega
theorem units_eq_key (f : Fmt) (a b : Nat) : unitsOf f a = unitsOf f b ↔ vKey f a = vKey f b := by
  have h1 := units_lt_key f a b
  have h2 := units_lt_key f b a
  omega
theorem inf_pos {f : Fmt} (g : Good f) : 0 < f.infBits := by
  unfold Fmt.infBits
  have h1 : 2 ^ 1 ≤ 2 ^ f.e := Nat.pow_le_pow_right (by decide) (by have := g.e; omega)
  exact Nat.mul_pos (by omega) (Nat.two_pow_pos _)
theorem decode_inf {f : Fmt} {a : Nat} (ha : nanC f a = false) (h1 : isNum f a = false) : decode f a = .inf (sOf f a) ∧ mag f a = f.infBits := by
  have A := (mag_inf (f := f) a).mp h1
  rw [decode_not h1, ha]
  unfold nanC at ha
  rw [decide_eq_false_iff_not] at ha
  exact ⟨rfl, by omega⟩
theorem lessV_key {f : Fmt} (g : Good f) {a b : Nat} (ha : nanC f a = false) (hb : nanC f b = false) : lessV (decode f a) (decode f b) = decide (vKey f a < vKey f b) := by
  have hp := inf_pos g
  cases h1 : isNum f a <;> cases h2 : isNum f b
  · rw [(decode_inf ha h1).1, (decode_inf hb h2).1]
    have e1 := (decode_inf ha h1).2
    have e2 := (decode_inf hb h2).2
    unfold vKey lessV
    rw [e1, e2]
    cases sOf f a <;> cases sOf f b <;> simp <;> omega
  · rw [(decode_inf ha h1).1, decode_num h2]
    have e1 := (decode_inf ha h1).2
    have e2 := mag_num h2
    unfold vKey lessV
    cases sOf f a <;> cases sOf f b <;> simp <;> omega
  · rw [(decode_inf hb h2).1, decode_num h1]
    have e1 := (decode_inf hb h2).2
    have e2 := mag_num h1
    unfold vKey lessV
    cases sOf f a <;> cases sOf f b <;> simp <;> omega
  · rw [decode_num h1, decode_num h2]
    show decide (signedOf _ _ < signedOf _ _) = _
    rw [signed_units, signed_units, Bool.eq_iff_iff, decide_eq_true_eq, decide_eq_true_eq, mul_unit_lt, units_lt_key]
theorem sameV_key {f : Fmt} (g : Good f) {a b : Nat} (ha : nanC f a = false) (hb : nanC f b = false) : sameV (decode f a) (decode f b) = decide (vKey f a = vKey f b) := by
  have hp := inf_pos g
  cases h1 : isNum f a <;> cases h2 : isNum f b
  · rw [(decode_inf ha h1).1, (decode_inf hb h2).1]
    have e1 := (decode_inf ha h1).2
    have e2 := (decode_inf hb h2).2
    unfold vKey sameV
    rw [e1, e2]
    cases sOf f a <;> cases sOf f b <;> simp <;> omega
  · rw [(decode_inf ha h1).1, decode_num h2]
    have e1 := (decode_inf ha h1).2
    have e2 := mag_num h2
    unfold vKey sameV
    cases sOf f a <;> cases sOf f b <;> simp <;> omega
  · rw [(decode_inf hb h2).1, decode_num h1]
    have e1 := (decode_inf hb h2).2
    have e2 := mag_num h1
    unfold vKey sameV
    cases sOf f a <;> cases sOf f b <;> simp <;> omega
  · rw [decode_num h1, decode_num h2]
    show decide (signedOf _ _ = signedOf _ _) = _
    rw [signed_units, signed_units, Bool.eq_iff_iff, decide_eq_true_eq, decide_eq_true_eq, mul_unit_eq, units_eq_key]
theorem neg_key {f : Fmt} {a : Nat} (ha : nanC f a = false) : (decode f a).neg = sOf f a := by
  cases h1 : isNum f a
  · rw [(decode_inf ha h1).1]; rfl
  · rw [decode_num h1]; rfl
theorem oKey_lt {f : Fmt} (a b : Nat) : oKey f a < oKey f b ↔ vKey f a < vKey f b ∨ (vKey f a = vKey f b ∧ sOf f a = true ∧ sOf f b = false) := by
  unfold oKey vKey
  cases sOf f a <;> cases sOf f b <;> simp <;> omega
theorem beforeV_key {f : Fmt} (g : Good f) {a b : Nat} (ha : nanC f a = false) (hb : nanC f b = false) : Lw.beforeV (decode f a) (decode f b) = decide (oKey f a < oKey f b) := by
  unfold Lw.beforeV
  rw [lessV_key g ha hb, sameV_key g ha hb, neg_key ha, neg_key hb, Bool.eq_iff_iff]
  simp only [Bool.or_eq_true, Bool.and_eq_true, decide_eq_true_eq, Bool.not_eq_true', oKey_lt]

/-- in order, of any kind; what is none behind all -/
def ordKey (k : Nat) (c : Nat) : Int := if isFloat k = true then (if nanC (fmt k) c = true then 2 ^ 64 else oKey (fmt k) c) else toInt k c
/-- by value; what is none behind all, together -/
def valKey (k : Nat) (c : Nat) : Int := if isFloat k = true then (if nanC (fmt k) c = true then 2 ^ 64 else vKey (fmt k) c) else toInt k c
def nanK (k c : Nat) : Bool := isFloat k && nanC (fmt k) c
theorem isFloat_isK {k : Nat} : isFloat k = true ↔ IsK k := by
  unfold isFloat IsK
  rw [Bool.and_eq_true, decide_eq_true_eq, decide_eq_true_eq]
  show (9 : Nat) ≤ k ∧ k ≤ (12 : Nat) ↔ _
  omega
theorem mag_lt {k : Nat} (h : IsK k) (c : Nat) : (mag (fmt k) c : Int) < 2 ^ 64 := by
  have h1 : mag (fmt k) c < 2 ^ ((fmt k).e + (fmt k).m) := Nat.mod_lt _ (Nat.two_pow_pos _)
  have h2 : 2 ^ ((fmt k).e + (fmt k).m) ≤ 2 ^ 63 := Nat.pow_le_pow_right (by decide) (by rcases h with h | h | h | h <;> subst h <;> decide)
  have h3 : (2 : Int) ^ 64 = 18446744073709551616 := by decide
  have h4 : 2 ^ 63 = 9223372036854775808 := by decide
  omega
theorem keys_lt {k : Nat} (h : IsK k) (c : Nat) : oKey (fmt k) c < 2 ^ 64 ∧ vKey (fmt k) c < 2 ^ 64 := by
  have := mag_lt h c
  have h3 : (2 : Int) ^ 64 = 18446744073709551616 := by decide
  unfold oKey vKey
  cases sOf (fmt k) c <;> simp <;> omega
theorem before_key (k a b : Nat) : beforeCell k a b = decide (ordKey k a < ordKey k b) := by
  unfold beforeCell ordKey
  cases hf : isFloat k
  · rfl
  · have hk := isFloat_isK.mp hf
    have h1 := keys_lt hk a
    have h2 := keys_lt hk b
    simp only [if_true, isNan_eq]
    cases ha : nanC (fmt k) a
    · cases hb : nanC (fmt k) b
      · simp only [Bool.false_eq_true, if_false]
        exact beforeV_key hk.good ha hb
      · simp only [Bool.false_eq_true, if_false, if_true]
        simpa using h1.1
    · simp only [if_true]
      cases hb : nanC (fmt k) b
      · simp
        have := h2.1
        have h3 : (2 : Int) ^ 64 = 18446744073709551616 := by decide
        omega
      · simp
/-- a whole kind's cell that is one -/
def cellK (k c : Nat) : Prop := c < 2 ^ (8 * Lw.sizeOf k)
def kindK (k : Nat) : Prop := 1 ≤ k ∧ k ≤ 12
theorem toInt_inj {k a b : Nat} (hk : kindK k) (hf : isFloat k = false) (ha : cellK k a) (hb : cellK k b) (h : toInt k a = toInt k b) : a = b := by
  unfold toInt at h
  have hw : width k = 8 * Lw.sizeOf k := by have h1 := hk.1; unfold width; rw [if_neg (show ¬ k = 0 by omega)]
  rw [hw] at h
  unfold cellK at ha hb
  have e : ((2 ^ (8 * Lw.sizeOf k) : Nat) : Int) = (2 : Int) ^ (8 * Lw.sizeOf k) := by exact_mod_cast rfl
  generalize 2 ^ (8 * Lw.sizeOf k) = W at *
  rw [← e] at h
  split at h <;> split at h <;> omega
theorem val_ord {k a b : Nat} (h : valKey k a < valKey k b) : ordKey k a < ordKey k b := by
  unfold ordKey
  unfold valKey at h
  cases hf : isFloat k
  · rw [hf] at h
    simp only [Bool.false_eq_true, if_false] at h ⊢
    omega
  · rw [hf] at h
    have hk := isFloat_isK.mp hf
    have h1 := keys_lt hk a
    have h2 := keys_lt hk b
    simp only [if_true] at h ⊢
    cases ha : nanC (fmt k) a <;> cases hb : nanC (fmt k) b <;> simp only [ha, hb, Bool.false_eq_true, if_false, if_true] at h ⊢
    · exact (oKey_lt (f := fmt k) a b).mpr (Or.inl h)
    · omega
    · omega
    · omega
end Er
end
section
set_option Elab.async false
set_option linter.all false
set_option maxRecDepth 100000
set_option maxHeartbeats 4000000
namespace Er
open Lw LwSt

theorem form_eq {k : Nat} (hk : k ≠ 0) (c : Nat) : form k c = if nanK k c = true then (fmt k).nanBits else c := by
  unfold form nanK
  rw [if_neg hk]
  cases hf : isFloat k
  · simp
  · have := isNan_eq (fmt k) c
    simp only [if_true, Bool.true_and]
    cases e : decode (fmt k) c <;> rw [e] at this <;> rw [← this] <;> rfl
theorem nanBits_lt {k : Nat} (h : IsK k) : (fmt k).nanBits < 2 ^ ((fmt k).e + (fmt k).m) ∧ (fmt k).infBits < (fmt k).nanBits ∧ 2 ^ ((fmt k).e + (fmt k).m + 1) = 2 ^ (8 * Lw.sizeOf k) := by
  rcases h with h | h | h | h <;> subst h <;> decide +kernel
theorem nanC_nan {k : Nat} (h : IsK k) : nanC (fmt k) (fmt k).nanBits = true := by
  have := nanBits_lt h
  unfold nanC mag
  rw [Nat.mod_eq_of_lt this.1]
  simpa using this.2.1
theorem nanK_nan {k c : Nat} (h : nanK k c = true) : nanK k (fmt k).nanBits = true := by
  unfold nanK at *
  rw [Bool.and_eq_true] at h
  rw [h.1, nanC_nan (isFloat_isK.mp h.1)]; rfl
theorem nanK_form {k : Nat} (hk : k ≠ 0) (c : Nat) : nanK k (form k c) = nanK k c := by
  rw [form_eq hk]
  cases h : nanK k c
  · rw [if_neg (by simp)]; exact h
  · rw [if_pos rfl]; exact nanK_nan h
theorem cellK_form {k c : Nat} (hk : k ≠ 0) (h : cellK k c) : cellK k (form k c) := by
  rw [form_eq hk]
  split
  · rename_i hn
    unfold nanK at hn
    rw [Bool.and_eq_true] at hn
    have := nanBits_lt (isFloat_isK.mp hn.1)
    unfold cellK
    rw [← this.2.2, Nat.pow_succ]
    omega
  · exact h
/-- formed and a cell -/
def Formed (k c : Nat) : Prop := cellK k c ∧ form k c = c
theorem form_form {k : Nat} (hk : k ≠ 0) (c : Nat) : form k (form k c) = form k c := by
  rw [form_eq hk (form k c), nanK_form hk]
  cases h : nanK k c
  · rw [if_neg (by simp)]
  · rw [if_pos rfl, form_eq hk, if_pos h]
theorem formed_form {k c : Nat} (hk : k ≠ 0) (h : cellK k c) : Formed k (form k c) := ⟨cellK_form hk h, form_form hk c⟩
theorem parts_eq {k : Nat} (h : IsK k) {c : Nat} (hc : cellK k c) : c = (if sOf (fmt k) c = true then 2 ^ ((fmt k).e + (fmt k).m) else 0) + mag (fmt k) c := by
  unfold cellK at hc
  rw [← (nanBits_lt h).2.2] at hc
  unfold sOf mag
  generalize (fmt k).e + (fmt k).m = n at *
  have h1 := Nat.div_add_mod c (2 ^ n)
  have h2 : c / 2 ^ n < 2 := by
    rw [Nat.div_lt_iff_lt_mul (Nat.two_pow_pos n), Nat.mul_comm, ← Nat.pow_succ]; exact hc
  rw [Nat.testBit_eq_decide_div_mod_eq]
  have h3 : c / 2 ^ n = 0 ∨ c / 2 ^ n = 1 := by
    generalize c / 2 ^ n = t at h2
    clear h1 hc
    omega
  rcases h3 with h3 | h3
  · rw [h3] at h1 ⊢
    simp; omega
  · rw [h3] at h1 ⊢
    simp; omega
theorem ordKey_inj {k a b : Nat} (hk : kindK k) (ha : Formed k a) (hb : Formed k b) (h : ordKey k a = ordKey k b) : a = b := by
  have h0 : k ≠ 0 := by have := hk.1; omega
  cases hf : isFloat k
  · unfold ordKey at h
    rw [hf] at h
    exact toInt_inj hk hf ha.1 hb.1 (by simpa using h)
  · have hK := isFloat_isK.mp hf
    have e1 := form_eq h0 a
    have e2 := form_eq h0 b
    rw [ha.2] at e1
    rw [hb.2] at e2
    have p1 := parts_eq hK ha.1
    have p2 := parts_eq hK hb.1
    have l1 := keys_lt hK a
    have l2 := keys_lt hK b
    unfold nanK at e1 e2
    unfold ordKey at h
    rw [hf] at h e1 e2
    simp only [if_true, Bool.true_and] at h e1 e2
    cases hna : nanC (fmt k) a <;> cases hnb : nanC (fmt k) b <;> simp only [hna, hnb, Bool.false_eq_true, if_false, if_true] at h e1 e2
    · unfold oKey at h
      cases hs : sOf (fmt k) a <;> cases ht : sOf (fmt k) b <;> simp only [hs, ht, Bool.false_eq_true, if_false, if_true] at h p1 p2 <;> omega
    · omega
    · omega
    · exact e1.trans e2.symm

theorem le_key (k a b : Nat) : (!beforeCell k b a) = decide (ordKey k a ≤ ordKey k b) := by
  rw [before_key, Bool.eq_iff_iff]
  simp only [Bool.not_eq_true', decide_eq_false_iff_not, decide_eq_true_eq]
  omega
theorem sorted_perm (k : Nat) (l : List Nat) : (sorted_ k l).Perm l := List.mergeSort_perm ..
theorem sorted_pw (k : Nat) (l : List Nat) : (sorted_ k l).Pairwise fun a b => ordKey k a ≤ ordKey k b := by
  have := List.pairwise_mergeSort (le := fun (a b : Cell) => !beforeCell k b a) (fun a b c h1 h2 => by
    simp only [le_key, decide_eq_true_eq] at *
    omega) (fun a b => by
    simp only [le_key, Bool.or_eq_true, decide_eq_true_eq]
    omega) l
  unfold sorted_
  refine this.imp fun {a b} h => ?_
  rw [le_key] at h
  simpa using h
theorem perm_sorted_eq {α : Type} (key : α → Int) : ∀ {l1 l2 : List α}, l1.Perm l2 → (∀ a ∈ l1, ∀ b ∈ l1, key a = key b → a = b) → l1.Pairwise (fun a b => key a ≤ key b) → l2.Pairwise (fun a b => key a ≤ key b) → l1 = l2 := by
  intro l1
  induction l1 with
  | nil => intro l2 hp _ _ _; exact (List.Perm.nil_eq hp)
  | cons a l ih =>
    intro l2 hp hi h1 h2
    cases l2 with
    | nil => exact absurd hp.length_eq (by simp)
    | cons b r =>
      have hba : b ∈ a :: l := hp.mem_iff.mpr (List.mem_cons_self ..)
      have hab : a ∈ b :: r := hp.mem_iff.mp (List.mem_cons_self ..)
      rw [List.pairwise_cons] at h1 h2
      have le1 : key a ≤ key b := by
        rcases List.mem_cons.mp hba with e | e
        · rw [e]; exact Int.le_refl _
        · exact h1.1 b e
      have le2 : key b ≤ key a := by
        rcases List.mem_cons.mp hab with e | e
        · rw [e]; exact Int.le_refl _
        · exact h2.1 a e
      have e : a = b := hi a (List.mem_cons_self ..) b hba (by omega)
      subst e
      congr 1
      exact ih (List.perm_cons a |>.mp hp) (fun x hx y hy => hi x (List.mem_cons_of_mem _ hx) y (List.mem_cons_of_mem _ hy)) h1.2 h2.2
/-- what is in order, and the same cells, is the row in order -/
theorem sorted_unique {k : Nat} (hk : kindK k) {l l' : List Nat} (hl : ∀ c ∈ l, Formed k c) (hp : l'.Perm l) (hs : l'.Pairwise fun a b => ordKey k a ≤ ordKey k b) : sorted_ k l = l' :=
  perm_sorted_eq (ordKey k) ((sorted_perm k l).trans hp.symm) (fun a ha b hb e => ordKey_inj hk (hl a ((sorted_perm k l).mem_iff.mp ha)) (hl b ((sorted_perm k l).mem_iff.mp hb)) e) (sorted_pw k l) hs

end Er
end
section
set_option Elab.async false
set_option linter.all false
set_option maxRecDepth 100000
set_option maxHeartbeats 4000000
namespace Er
open Lw LwSt

end Er
end
section
set_option Elab.async false
set_option linter.all false
set_option maxRecDepth 100000
set_option maxHeartbeats 4000000
namespace Er
open Lw LwSt

end Er
end
section
set_option Elab.async false
set_option linter.all false
set_option maxRecDepth 100000
set_option maxHeartbeats 4000000
namespace Er
open Lw LwSt

end Er
end
section
set_option Elab.async false
set_option linter.all false
set_option maxRecDepth 100000
set_option maxHeartbeats 4000000
namespace Er
open Lw LwSt

/-- the cell between two, as the program may tell it: above over below in units -/
theorem between_once {k : Nat} (hK : IsK k) (u v : Int) (r b : Nat) (hb : 0 < b) :
    outI (once k ((u : Rat) * unit (fmt k) + ((v : Rat) * unit (fmt k) - (u : Rat) * unit (fmt k)) * ((r : Rat) / (b : Rat)))) = rnd (fmt k) (u * (b : Int) + (v - u) * (r : Int)) ((b : Int) * 2 ^ (1 * depth (fmt k))) := by
  have hne : (b : Int) * 2 ^ (1 * depth (fmt k)) ≠ 0 := Int.mul_ne_zero (by omega) (pow_ne (by decide) _)
  have e : (u : Rat) * unit (fmt k) + ((v : Rat) * unit (fmt k) - (u : Rat) * unit (fmt k)) * ((r : Rat) / (b : Rat)) = ((u * (b : Int) + (v - u) * (r : Int) : Int) : Rat) / (((b : Int) * 2 ^ (1 * depth (fmt k)) : Int) : Rat) := by
    have hd := unit_depth hK.good
    have hbR : (b : Rat) ≠ 0 := by intro z; rw [Rat.natCast_eq_zero_iff] at z; omega
    rw [Rat.intCast_add, Rat.intCast_mul, Rat.intCast_mul, Rat.intCast_mul, Rat.intCast_sub, Rat.intCast_natCast, Rat.intCast_natCast, Nat.one_mul]
    generalize (((2 : Int) ^ depth (fmt k) : Int) : Rat) = D at *
    have hD : D ≠ 0 := by intro z; rw [z, Rat.mul_zero] at hd; exact absurd hd (by decide)
    have eU : unit (fmt k) = 1 / D := by grind
    rw [eU]
    grind
  rw [e, rnd_once hK.good hne]
  rfl
/-- a quantile, by its cells' sorts -/
def quantK (k : Nat) (s : List Nat) (a b : Nat) : Int × Int :=
  let t := (s.length - 1) * a
  let i := t / b
  let r := t % b
  let x := s.getD i 0
  let y := s.getD (i + 1) 0
  if r = 0 then (0, (x : Int))
  else if isNum (fmt k) x = true ∧ isNum (fmt k) y = true then rnd (fmt k) (unitsOf (fmt k) x * (b : Int) + (unitsOf (fmt k) y - unitsOf (fmt k) x) * (r : Int)) ((b : Int) * 2 ^ (1 * depth (fmt k)))
  else if nanC (fmt k) x = true ∨ nanC (fmt k) y = true then (0, ((fmt k).nanBits : Int))
  else if isNum (fmt k) x = false ∧ isNum (fmt k) y = false then (if sOf (fmt k) x = sOf (fmt k) y then (0, (x : Int)) else (0, ((fmt k).nanBits : Int)))
  else if isNum (fmt k) x = false then (0, (x : Int)) else (0, (y : Int))
theorem nanC_num {f : Fmt} {c : Nat} (h : nanC f c = true) : isNum f c = false := by
  rw [mag_inf]
  unfold nanC at h
  have := of_decide_eq_true h
  omega
theorem quant_key {k : Nat} (hK : IsK k) (s : List Nat) (a b : Nat) (hb : 0 < b) : outI (quantile k s a b) = quantK k s a b := by
  unfold quantile quantK
  dsimp only
  by_cases h0 : (s.length - 1) * a % b = 0
  · rw [if_pos h0, if_pos h0]; rfl
  · rw [if_neg h0, if_neg h0]
    generalize s.getD ((s.length - 1) * a / b) 0 = x
    generalize s.getD ((s.length - 1) * a / b + 1) 0 = y
    generalize (s.length - 1) * a % b = r
    unfold valueOf_
    cases hx : isNum (fmt k) x
    · cases nx : nanC (fmt k) x
      · have dx := (decode_inf nx hx).1
        cases hy : isNum (fmt k) y
        · cases ny : nanC (fmt k) y
          · have dy := (decode_inf ny hy).1
            rw [dx, dy]
            simp
            split <;> rfl
          · rw [decode_not hy, ny, dx]
            simp
            rfl
        · have ny : nanC (fmt k) y = false := by
            cases ny : nanC (fmt k) y
            · rfl
            · rw [nanC_num ny] at hy; cases hy
          rw [dx, decode_num hy]
          simp [ny]
          rfl
      · rw [decode_not hx, nx]
        simp
        rfl
    · have nx : nanC (fmt k) x = false := by
        cases nx : nanC (fmt k) x
        · rfl
        · rw [nanC_num nx] at hx; cases hx
      cases hy : isNum (fmt k) y
      · cases ny : nanC (fmt k) y
        · have dy := (decode_inf ny hy).1
          rw [dy, decode_num hx]
          simp [nx]
          rfl
        · rw [decode_not hy, ny, decode_num hx]
          simp
          rfl
      · rw [decode_num hx, decode_num hy]
        simp only [and_self, if_true]
        rw [signed_units, signed_units]
        exact between_once hK _ _ _ _ hb
end Er
end
section
set_option Elab.async false
set_option linter.all false
set_option maxRecDepth 100000
set_option maxHeartbeats 4000000
namespace Er
open Lw LwSt

end Er
end
section
set_option Elab.async false
set_option linter.all false
set_option maxRecDepth 100000
set_option maxHeartbeats 4000000
namespace Er
open Lw LwSt

end Er
end
section
set_option Elab.async false
set_option linter.all false
set_option maxRecDepth 100000
set_option maxHeartbeats 4000000
namespace Er
open Lw LwSt

end Er
end
section
set_option Elab.async false
set_option linter.all false
set_option maxRecDepth 100000
set_option maxHeartbeats 4000000
namespace Er
open Lw LwSt

end Er
end
section
set_option Elab.async false
set_option linter.all false
set_option maxRecDepth 100000
set_option maxHeartbeats 4000000
namespace Er
open Lw LwSt
open BdNeutral (nats)

def bitsK (k : Nat) : Nat := 8 * Lw.sizeOf k
def kindI (kind : Int) : Bool := decide (1 ≤ kind) && decide (kind ≤ 12)
def cellI (k : Nat) (c : Int) : Bool := decide (0 ≤ c) && decide (c < 2 ^ bitsK k)
def rowI (k most : Nat) (x : List Int) : Bool := decide (x.length ≤ most) && x.all (cellI k)
theorem kindI_K {kind : Int} (h : kindI kind = true) : kindK kind.toNat := by
  unfold kindI at h
  simp only [Bool.and_eq_true, decide_eq_true_eq] at h
  exact ⟨by omega, by omega⟩
def formI (k : Nat) (c : Int) : Int := (form k c.toNat : Int)
def ordI (k : Nat) (c : Int) : Int := ordKey k c.toNat
def valI (k : Nat) (c : Int) : Int := valKey k c.toNat
theorem formed_nats (k : Nat) (x : List Int) : Bd.formed k (nats x) = x.map fun c => form k c.toNat := by
  unfold Bd.formed nats
  rw [List.map_map]
  rfl
def natInts (l : List Nat) : List Int := l.map fun (i : Nat) => (i : Int)
theorem nats_ints (l : List Nat) : nats (natInts l) = l := by
  unfold nats natInts
  rw [List.map_map]
  exact List.map_id'' (fun i => Int.toNat_natCast i) l
theorem formed_ok {k : Nat} (hk : kindK k) {x : List Int} (h : ∀ c ∈ x, 0 ≤ c ∧ cellK k c.toNat) : ∀ c ∈ x.map (fun c => form k c.toNat), Formed k c := by
  intro c hc
  obtain ⟨d, hd, rfl⟩ := List.mem_map.mp hc
  exact formed_form (by have := hk.1; omega) (h d hd).2

theorem nats_len (x : List Int) : (nats x).length = x.length := List.length_map ..
end Er
end
section
set_option Elab.async false
set_option linter.all false
set_option maxRecDepth 100000
set_option maxHeartbeats 4000000
namespace Er
open Lw LwSt
open BdNeutral (nats)

def fracs : List Int → List (Int × Int)
  | a :: b :: l => (a, b) :: fracs l
  | _ => []
theorem pairsOf_nats : ∀ q : List Int, BdNeutral.pairsOf (nats q) = (fracs q).map fun p => (p.1.toNat, p.2.toNat)
  | [] => rfl
  | [_] => rfl
  | a :: b :: l => by
    show (a.toNat, b.toNat) :: BdNeutral.pairsOf (nats l) = (a.toNat, b.toNat) :: (fracs l).map _
    rw [pairsOf_nats l]
def fracsOk (fs : List (Int × Int)) : Bool := decide (fs.length ≤ 4096) && fs.all fun p => decide (p.1 < 2 ^ 32) && decide (p.2 < 2 ^ 32)
def fracsRight (fs : List (Int × Int)) : Bool := fs.all fun p => decide (0 < p.2) && decide (p.1 ≤ p.2)
def quantOk (kind : Int) (x q : List Int) : Bool := okKind kind && (rowOk (fmt kind.toNat) x.length x && fracsOk (fracs q))
theorem fracs_mem : ∀ {q : List Int} {p : Int × Int}, p ∈ fracs q → p.1 ∈ q ∧ p.2 ∈ q
  | [], _, h => by cases h
  | [_], _, h => by cases h
  | a :: b :: l, p, h => by
    rcases List.mem_cons.mp h with e | e
    · subst e; simp
    · have := fracs_mem e
      exact ⟨List.mem_cons_of_mem _ (List.mem_cons_of_mem _ this.1), List.mem_cons_of_mem _ (List.mem_cons_of_mem _ this.2)⟩
theorem quant_flag {kind : Int} {x q : List Int} (h0 : 0 ≤ kind) (hx : ∀ c ∈ x, 0 ≤ c) (hq : ∀ c ∈ q, 0 ≤ c) :
    (Bd.floatBad kind.toNat || (Bd.rowBad kind.toNat Bd.LONGEST_ (nats x) || (decide (Bd.LONGEST_ < (BdNeutral.pairsOf (nats q)).length) || (BdNeutral.pairsOf (nats q)).any fun (z : Nat × Nat) => decide (2 ^ 32 ≤ z.1) || decide (2 ^ 32 ≤ z.2)))) = !quantOk kind x q := by
  have e1 : (decide (Bd.LONGEST_ < (BdNeutral.pairsOf (nats q)).length) || (BdNeutral.pairsOf (nats q)).any fun (z : Nat × Nat) => decide (2 ^ 32 ≤ z.1) || decide (2 ^ 32 ≤ z.2)) = !fracsOk (fracs q) := by
    have hf : ∀ p ∈ fracs q, 0 ≤ p.1 ∧ 0 ≤ p.2 := fun p hp => ⟨hq _ (fracs_mem hp).1, hq _ (fracs_mem hp).2⟩
    rw [pairsOf_nats, List.length_map]
    unfold fracsOk
    rw [Bool.not_and]
    congr 1
    · unfold Bd.LONGEST_
      rw [Bool.eq_iff_iff]
      simp only [decide_eq_true_eq, Bool.not_eq_true', decide_eq_false_iff_not]
      omega
    · generalize fracs q = l at *
      induction l with
      | nil => rfl
      | cons p l ih =>
        rw [List.map_cons, List.any_cons, List.all_cons, ih fun r hr => hf r (List.mem_cons_of_mem _ hr), Bool.not_and]
        congr 1
        have := hf p (List.mem_cons_self ..)
        rw [Bool.eq_iff_iff]
        simp only [decide_eq_true_eq, Bool.or_eq_true, Bool.not_eq_true', Bool.and_eq_false_iff, decide_eq_false_iff_not]
        have e3 : (2 : Int) ^ 32 = 4294967296 := by decide
        have e4 : (2 : Nat) ^ 32 = 4294967296 := by decide
        omega
  rw [e1, floatBad_eq h0]
  unfold quantOk
  cases hk : okKind kind
  · rfl
  · have e := rowBad_eq (n := x.length) (okKind_iff.mp hk) hx
    have e2 : ((nats x).length != x.length) = false := by rw [nats_len]; simp
    rw [e2, Bool.or_false] at e
    rw [e]
    simp only [Bool.not_true, Bool.false_or, Bool.true_and, Bool.not_and]
theorem quant_bad {kind : Int} {x q : List Int} (h0 : 0 ≤ kind) (hx : ∀ c ∈ x, 0 ≤ c) (hq : ∀ c ∈ q, 0 ≤ c) (h : quantOk kind x q = false) : PyWrlwbd.quant kind x q = [-1] := by
  show BdNeutral.shown (Bd.answer (.quant kind.toNat (nats x) (BdNeutral.pairsOf (nats q)))) = _
  unfold Bd.answer
  dsimp only
  rw [quant_flag h0 hx hq, h, if_pos (by rfl)]
  rfl
theorem right_eq {q : List Int} (hq : ∀ c ∈ q, 0 ≤ c) : ((BdNeutral.pairsOf (nats q)).all fun (z : Nat × Nat) => z.2 != 0 && decide (z.1 ≤ z.2)) = fracsRight (fracs q) := by
  have hf : ∀ p ∈ fracs q, 0 ≤ p.1 ∧ 0 ≤ p.2 := fun p hp => ⟨hq _ (fracs_mem hp).1, hq _ (fracs_mem hp).2⟩
  rw [pairsOf_nats]
  unfold fracsRight
  generalize fracs q = l at *
  induction l with
  | nil => rfl
  | cons p l ih =>
    rw [List.map_cons, List.all_cons, List.all_cons, ih fun r hr => hf r (List.mem_cons_of_mem _ hr)]
    congr 1
    have := hf p (List.mem_cons_self ..)
    rw [Bool.eq_iff_iff]
    simp only [Bool.and_eq_true, bne_iff_ne, decide_eq_true_eq]
    omega
theorem quant_wrong {kind : Int} {x q : List Int} (h0 : 0 ≤ kind) (hx : ∀ c ∈ x, 0 ≤ c) (hq : ∀ c ∈ q, 0 ≤ c) (h : quantOk kind x q = true) (hr : fracsRight (fracs q) = false) : PyWrlwbd.quant kind x q = [-2] := by
  show BdNeutral.shown (Bd.answer (.quant kind.toNat (nats x) (BdNeutral.pairsOf (nats q)))) = _
  unfold Bd.answer
  dsimp only
  rw [quant_flag h0 hx hq, h, if_neg (by simp), right_eq hq, hr, if_pos rfl]
  rfl
theorem quant_none {kind : Int} {q : List Int} (h0 : 0 ≤ kind) (hq : ∀ c ∈ q, 0 ≤ c) (h : quantOk kind [] q = true) (hr : fracsRight (fracs q) = true) : PyWrlwbd.quant kind [] q = [-4] := by
  show BdNeutral.shown (Bd.answer (.quant kind.toNat (nats []) (BdNeutral.pairsOf (nats q)))) = _
  unfold Bd.answer
  dsimp only
  rw [quant_flag h0 (by simp) hq, h, if_neg (by simp), right_eq hq, hr, if_neg (by simp), if_pos (show nats [] = [] from rfl)]
  rfl
/-- the cell of a quantile, of whole numbers in order -/
def quantC (k : Nat) (s : List Int) (p : Int × Int) : Int × Int := quantK k (nats s) p.1.toNat p.2.toNat
theorem quant_ok {kind : Int} {x q : List Int} (h0 : 0 ≤ kind) (hq : ∀ c ∈ q, 0 ≤ c) (h : quantOk kind x q = true) (hr : fracsRight (fracs q) = true) (hx0 : x ≠ []) {l : List Int} (hp : l.Perm (x.map (formI kind.toNat))) (hs : l.Pairwise fun a b => ordI kind.toNat a ≤ ordI kind.toNat b) :
    PyWrlwbd.quant kind x q = togetherP ((fracs q).map (quantC kind.toNat l)) := by
  have h' := h
  unfold quantOk at h'
  simp only [Bool.and_eq_true] at h'
  have hK := okKind_iff.mp h'.1
  have hkk : kindK kind.toNat := by
    rcases hK with e | e | e | e <;> rw [e] <;> exact ⟨by decide, by decide⟩
  have hb : ∀ c ∈ x, 0 ≤ c ∧ cellK kind.toNat c.toNat := fun c hc => by
    have := h'.2.1
    unfold rowOk at this
    simp only [Bool.and_eq_true, decide_eq_true_eq] at this
    have := List.all_eq_true.mp this.2.2 c hc
    unfold cellOk at this
    simp only [Bool.and_eq_true, decide_eq_true_eq] at this
    refine ⟨this.1, ?_⟩
    unfold cellK
    rw [hK.bits]
    omega
  show BdNeutral.shown (Bd.answer (.quant kind.toNat (nats x) (BdNeutral.pairsOf (nats q)))) = _
  unfold Bd.answer
  dsimp only
  rw [quant_flag h0 (fun c hc => (hb c hc).1) hq, h, if_neg (by simp), right_eq hq, hr, if_neg (by simp), if_neg (fun z => hx0 (by
    have := nats_nil.mp z
    exact List.length_eq_zero_iff.mp this)), shown_tell]
  congr 1
  have e : x.map (formI kind.toNat) = natInts (x.map fun c => form kind.toNat c.toNat) := by
    unfold natInts formI
    rw [List.map_map]
    rfl
  have pn : (nats l).Perm (x.map fun c => form kind.toNat c.toNat) := by
    have := hp.map Int.toNat
    rw [e] at this
    have e2 := nats_ints (x.map fun c => form kind.toNat c.toNat)
    unfold nats at e2
    rw [e2] at this
    exact this
  have ps : (nats l).Pairwise fun a b => ordKey kind.toNat a ≤ ordKey kind.toNat b := by
    unfold nats
    rw [List.pairwise_map]
    exact hs
  rw [formed_nats, sorted_unique hkk (formed_ok hkk hb) pn ps, pairsOf_nats, List.map_map, List.map_map]
  apply List.map_congr_left
  intro p hpm
  have hr' := List.all_eq_true.mp hr p hpm
  simp only [Bool.and_eq_true, decide_eq_true_eq] at hr'
  exact quant_key hK (nats l) p.1.toNat p.2.toNat (by omega)

end Er
end
section
set_option Elab.async false
set_option linter.all false
set_option maxRecDepth 100000
set_option maxHeartbeats 4000000
namespace Er
open Lw
end Er
end
section
set_option Elab.async false
set_option linter.all false
set_option maxRecDepth 100000
set_option maxHeartbeats 4000000
namespace L2
open PySem PySem.Spec PyProof.Rows
open Er (Lt2)

theorem bits_of {i : Int} {n : Nat} (h : Lt2 i n) : Builtin.Int.intBits i ≤ n := by
  unfold Builtin.Int.intBits
  by_cases h0 : (i == 0) = true
  · rw [if_pos h0]; exact Nat.zero_le _
  · rw [if_neg h0]
    have h1 : i.natAbs ≠ 0 := by
      intro z
      exact h0 (by rw [Int.natAbs_eq_zero.mp z]; rfl)
    have := (Nat.log2_lt h1).mpr (show i.natAbs < 2 ^ n from h)
    omega
/-- a bit length's own bounds -/
theorem bits_pos {i : Int} (h : 0 < i) : ∃ l : Nat, (Builtin.Int.intBits i : Nat) = l + 1 ∧ 2 ^ l ≤ i.toNat ∧ i.toNat < 2 ^ (l + 1) := by
  have h0 : ¬ (i == 0) = true := by
    intro z
    have : i = 0 := eq_of_beq z
    omega
  have e : i.natAbs = i.toNat := by omega
  refine ⟨i.toNat.log2, ?_, Nat.log2_self_le (by omega), Nat.lt_log2_self⟩
  unfold Builtin.Int.intBits
  rw [if_neg h0, e]
def CMulB (i j : Int) : Prop := ∃ a b : Nat, Lt2 i a ∧ Lt2 j b ∧ a + b ≤ 134217728
def CShlB (i j : Int) : Prop := 0 ≤ j ∧ ∃ a : Nat, Lt2 i a ∧ (a : Int) + j ≤ 2 ^ 27
def CDivB (_ j : Int) : Prop := 0 < j ∧ Lt2 j 9000
section
variable {X : Cx}
theorem op_mulB : OpR X (binaryOp .Mult) (rI CMulB fun i j => .int (i * j)) := opI fun _ _ _ _ _ _ _ hc q => by
  obtain ⟨a, b, ha, hb, hab⟩ := hc
  exact mul_int q (PyProof.Rows.mulOk_of_bits (bits_of ha) (bits_of hb) hab)
theorem op_shlB : OpR X (binaryOp .LShift) (rI CShlB fun i j => .int (i * 2 ^ j.toNat)) := opI fun _ _ _ _ _ _ _ hc q => by
  obtain ⟨h0, a, ha, hab⟩ := hc
  have := bits_of ha
  exact lshift_int h0 (by omega) q
theorem op_fdivB : OpR X (binaryOp .FloorDiv) (rI CDivB fun i j => .int (i / j)) := opI fun i j _ _ _ _ _ hc q => by
  obtain ⟨h0, hl⟩ := hc
  have h1 : j.natAbs ≠ 0 := by omega
  refine floordiv_int (by omega) ?_ (.inl (PyProof.noPylong_of_log2 ((Nat.log2_lt h1).mpr hl)))
  rw [Int.fdiv_eq_ediv_of_nonneg _ (Int.le_of_lt h0)]
  exact q
/-- n.bit_length() -/
theorem mt_bits : MtR X "int.bit_length" (fun x xs H Q => ∃ i, x = .int i ∧ xs = [] ∧ Q (.int (Builtin.Int.intBits i : Nat)) H) := by
  intro pins s σ H x xs v us Q I rx r h
  obtain ⟨i, rfl, rfl, q⟩ := h
  obtain ⟨t, rfl⟩ := rx
  cases r
  exact call_int_bit_length ⟨.int _, H, I.tok _, ⟨_, rfl⟩, q⟩
end

def KDict (P : Program) (w : World) (K : PySem.W.Frag) (d : Addr) (kvs : List (Key × V)) : Prop :=
  (d == sysModules) = false ∧ ∀ h : Heap, K.In h → ∃ vs, KV kvs vs ∧ h.DictOf (mixKind P w) d vs
section
variable {X : Cx} {o i : Expr} {td ty : TE} {pos : Pos}
def tDInK (X : Cx) (ty td : TE) : TE := fun σ H Q => ty σ H fun y H1 => td σ H1 fun x H2 => ∃ a kvs k, x = .ref a ∧ y = kV k ∧ KDict X.prog X.w X.K a kvs ∧ Q (.bl (valV kvs k).isSome) H2
def tDGetK (X : Cx) (td ty : TE) : TE := fun σ H Q => td σ H fun x H1 => ty σ H1 fun y H2 => ∃ a kvs k v, x = .ref a ∧ y = kV k ∧ KDict X.prog X.w X.K a kvs ∧ valV kvs k = some v ∧ Q v H2
theorem pc_dinK (hi : PE X i ty) (ho : PE X o td) : PC X .In i o (tDInK X ty td) := by
  intro pins s σ H Q I h
  refine thn (hi pins s σ H _ I h) fun iv s1 ⟨y, H1, I1, ry, q1⟩ => thn (ho pins s1 σ H1 _ I1 q1) fun u s2 ⟨x, H2, I2, rx, a, kvs, k, ex, ey, ⟨hd, hk⟩, q2⟩ => ?_
  subst ex ey
  obtain rfl : u = Value.ref a := rx
  obtain ⟨vs, rel, dd⟩ := hk s2.heap I2.kIn
  refine wpAny_in_of (kV_is ry) hd dd.mapOf ?_
  rw [← (rel.val k).isSome_eq]
  exact ⟨.bl _, H2, I2.tok _, rfl, q2⟩
theorem pe_dgetK (ho : PE X o td) (hi : PE X i ty) (hs : NoSl i) : PE X (.Subscript o i pos) (tDGetK X td ty) := by
  intro pins s σ H Q I h
  refine subD_of PySem.F.slot_dict_getitem.lookup hs (thn (ho pins s σ H _ I h) fun u s1 ⟨x, H1, I1, rx, q1⟩ => thn (hi pins s1 σ H1 _ I1 q1) fun iv s2 ⟨y, H2, I2, ry, a, kvs, k, v, ex, ey, ⟨hd, hk⟩, l, q2⟩ => ?_)
  subst ex ey
  obtain rfl : u = Value.ref a := rx
  obtain ⟨vs, rel, dd⟩ := hk s2.heap I2.kIn
  obtain ⟨w', hw, rw'⟩ := RelO.some_of (v := v) (o := valueAt vs k) (by rw [← l]; exact rel.val k)
  exact ⟨dd.typeIs, wpAny_getItem_of (kV_is ry) dd.mapOf hw ⟨v, H2, I2.tok _, rw', q2⟩⟩
end
/-- such a dict of natInts' keys and tuples, as the top has written it -/
theorem kdict_of {P : Program} {w : World} {K : PySem.W.Frag} {d : Addr} {es : List (Int × Tok × Addr)} {ep : Nat}
    (hl : K.lookup d = some { cls := .type "dict", data := .dict (es.map fun e => (⟨hashInt e.1, .int e.1 e.2.1, .ref e.2.2⟩ : DictEntry)).toArray ep }) (hd : (d == sysModules) = false) (hn : (es.map (·.1)).Nodup) :
    KDict P w K d (es.map fun e => (Sum.inl e.1, V.ref e.2.2)) := by
  refine ⟨hd, fun h KX => ⟨es.map fun e => (Sum.inl e.1, Value.ref e.2.2), ?_, _, _, _, KX _ _ hl, ⟨rfl, rfl, rfl⟩, rfl, ?_, ?_, ?_⟩⟩
  · clear hl hn
    induction es with
    | nil => exact .nil
    | cons e es ih => exact .cons ⟨rfl, rfl⟩ ih
  · intro e he
    have he' : e ∈ es.map fun e => (⟨hashInt e.1, .int e.1 e.2.1, .ref e.2.2⟩ : DictEntry) := by simpa using he
    obtain ⟨x, _, rfl⟩ := List.mem_map.mp he'
    exact ⟨Sum.inl x.1, by show Value.isInt x.1 (.int x.1 x.2.1) = true; simp [Value.isInt], rfl⟩
  · clear hl hn
    show Pairs _ ((es.map fun e => (⟨hashInt e.1, .int e.1 e.2.1, .ref e.2.2⟩ : DictEntry)).toArray).toList _
    rw [List.toList_toArray]
    induction es with
    | nil => exact .nil
    | cons e es ih => exact .cons (by show Value.isInt e.1 (.int e.1 e.2.1) = true; simp [Value.isInt]) rfl ih
  · rw [List.map_map]
    show (es.map fun e => (Sum.inl e.1 : Key)).Nodup
    clear hl
    induction es with
    | nil => exact List.nodup_nil
    | cons e es ih =>
      rw [List.map_cons, List.nodup_cons] at hn ⊢
      refine ⟨fun m => hn.1 ?_, ih hn.2⟩
      obtain ⟨x, hx, ex⟩ := List.mem_map.mp m
      exact List.mem_map.mpr ⟨x, hx, Sum.inl.inj ex⟩
end L2
end
section
set_option Elab.async false
set_option linter.all false
set_option maxRecDepth 100000
set_option maxHeartbeats 4000000
namespace L2
open PySem PySem.Spec PyProof.Rows
open Er (Lt2)

structure Callee (P : Program) (w : World) (K : PySem.W.Frag) (mg : Str → Option Value) (base : Heap) (k : Nat) (x : Str) (ps : List Str) (sp : Sp) : Prop where
  ex : ∃ (f : Addr) (fd : FuncData), FnOk P w K mg base CX0 k f fd ps sp ∧ Binds K fd ps [] ∧ mg x = some (.ref f) ∧ PySem.W.keepIn K (.ref f) = true
structure Maker (P : Program) (w : World) (K : PySem.W.Frag) (mg : Str → Option Value) (base : Heap) (C : Addr) (k : Nat) (x : Str) (ps : List Str) (sp : Sp) : Prop where
  ex : ∃ (f : Addr) (fd : FuncData), Mk K C f ∧ FnOk P w K mg base CX0 k f fd ps sp ∧ Binds K fd ps [] ∧ mg x = some (.ref C)
section
variable {X : Cx} {k : Nat} {C : Addr} {ps : List Str} {sp : Sp} {x : Str} {p pos : Pos} {e : Expr} {es : List Expr} {t : TA}
theorem pe_callC (c : Callee X.prog X.w X.K X.mg X.base k x ps sp) (hr : Room k X.A) (hg : Gl X x) (ha : PA X (e :: es) t) (hdb : (x == ("__debug__" : Str)) = false := by decide)
    (he : starEach (e :: es) X.env = (false, eval e X.env) :: starEach es X.env := by rfl) (hpl : (backTo pos (starEach es X.env)).any (·.1) = false := by rfl) :
    PE X (.Call (.Name x p) (e :: es) [] pos) (tCall sp [] E0 t) := by
  obtain ⟨f, fd, F, hb, hm, hk⟩ := c.ex
  exact pe_call F hr hg hm hk hb .nil pass0 ha hdb he hpl
theorem pe_makeC (c : Maker X.prog X.w X.K X.mg X.base C k x ps sp) (hr : Room (k + 1) X.A) (hg : Gl X x) (ha : PA X (e :: es) t) (hdb : (x == ("__debug__" : Str)) = false := by decide)
    (he : starEach (e :: es) X.env = (false, eval e X.env) :: starEach es X.env := by rfl) (hpl : (backTo pos (starEach es X.env)).any (·.1) = false := by rfl) :
    PE X (.Call (.Name x p) (e :: es) [] pos) (tMake C sp [] E0 t) := by
  obtain ⟨f, fd, M, F, hb, hm⟩ := c.ex
  exact pe_make M F hr hg hm hb .nil pass0 ha hdb he hpl
end

section
variable {X : Cx} {x : Str} {pos : Pos}
theorem pe_globI {i : Int} (hg : Gl X x) (hm : ∃ t, X.mg x = some (.int i t)) (hd : (x == ("__debug__" : Str)) = false := by decide) : PE X (.Name x pos) (tC (.int i)) := by
  obtain ⟨t, hm⟩ := hm
  exact pe_glob hg hm ⟨t, rfl⟩ hd
theorem pe_globR {d : Addr} (hg : Gl X x) (hm : X.mg x = some (.ref d)) (hd : (x == ("__debug__" : Str)) = false := by decide) : PE X (.Name x pos) (tC (.ref d)) := pe_glob hg hm rfl hd
end
theorem boot_abs1 : bootBuiltins "abs" = some (.builtin "abs") := by decide +kernel
theorem boot_all1 : bootBuiltins "all" = some (.builtin "all") := by decide +kernel
theorem boot_any1 : bootBuiltins "any" = some (.builtin "any") := by decide +kernel
theorem boot_max1 : bootBuiltins "max" = some (.builtin "max") := by decide +kernel
theorem boot_len1 : bootBuiltins "len" = some (.builtin "len") := by decide +kernel

/-- a tuple of the text's top -/
theorem ktup {K : PySem.W.Frag} {H : Hp} {a : Addr} {its : List Value} {n : Nat} {xs : List V} (hl : K.lookup a = some { cls := .type "tuple", data := .seq its.toArray n }) (hz : its.length ≤ sizeLine) (hv : Vals xs its) : SqT K H a xs :=
  .inr ⟨_, its.toArray, n, hl, rfl, rfl, by simpa using hz, by simpa using hv⟩

theorem Same.upd {H : Hp} {a : Addr} {o : HO} (h : H a = none) : Same H (upd H a o) := fun b u e => by rw [upd_ne (ne_of_none e h)]; exact e
theorem take_snocV {α : Type} : ∀ {l : List α} {i : Nat} {x : α}, l[i]? = some x → l.take (i + 1) = l.take i ++ [x]
  | [], i, x, h => by simp at h
  | a :: l, 0, x, h => by
    have e : a = x := Option.some.inj h
    subst e
    rfl
  | a :: l, i + 1, x, h => by
    have ih := take_snocV (l := l) (i := i) (x := x) h
    show a :: l.take (i + 1) = a :: l.take i ++ [x]
    rw [ih]
    rfl

def LcIn (J : It) (g : TG) (tt : TT) (te : TE) (vs : List Nat) (σ : St) (Q : VK) (H1 : Hp) : Prop := ∀ D, H1 D = none → ∃ W : Nat → Nat → Hp → Prop, (∃ m, W 0 m (upd H1 D (.lst []))) ∧ ∀ i m H, W i m H →
  (J.stop i H ∧ Q (.ref D) H) ∨ (J.go i H ∧ ∃ Nx : Hp → Prop, (∀ H', Nx H' → ∃ m', m' < m ∧ W (i + 1) m' H') ∧ ∀ x H', J.yld i H x H' → g x (wipe σ vs) H' fun σ2 H2 => wipe σ2 vs = wipe σ vs ∧ tt σ2 H2 fun b H3 =>
    if b = true then te σ2 H3 fun y H4 => ∃ acc, H4 D = some (.lst acc) ∧ acc.length < sizeLine ∧ Nx (upd H4 D (.lst (acc ++ [y]))) else Nx H3)
theorem tLc_in {wi : TI} {g : TG} {tt : TT} {te : TE} {vs : List Nat} {σ : St} {H : Hp} {Q : VK} (h : wi σ H fun J H1 => LcIn J g tt te vs σ Q H1) : tLc wi g tt te vs σ H Q := h
theorem tYes_ok {σ : St} {H : Hp} {A B : Hp → Prop} (h : A H) : tYes σ H fun b H3 => if b = true then A H3 else B H3 := by
  show (if true = true then A H else B H)
  rw [if_pos rfl]
  exact h
theorem er_lcG {K : PySem.W.Frag} {a : Addr} {xs ys : List V} {σ : St} {H : Hp} {Q : VK} {s : Nat} {te : TE} (hl : SqL K H a xs) (hlen : xs.length < sizeLine) (hy : xs.length = ys.length)
    (helt : ∀ (i : Nat) (x y : V) (H' : Hp) (Q' : VK), xs[i]? = some x → ys[i]? = some y → Same H H' → (∀ H'', Same H' H'' → Q' y H'') → te ((wipe σ [s]).set s (some x)) H' Q')
    (hq : ∀ (H' : Hp) (D : Addr), Same H H' → H' D = some (.lst ys) → H D = none → Q (.ref D) H') :
    LcIn (Itl K a) (gName s) tYes te [s] σ Q H := by
  intro D hD
  refine ⟨fun i m H' => i + m = xs.length ∧ Same H H' ∧ H' D = some (.lst (ys.take i)), ⟨xs.length, by omega, Same.upd hD, upd_same⟩, ?_⟩
  rintro i m H' ⟨him, sm, hd⟩
  have hl' := sm.seq hl
  by_cases hi : i < xs.length
  · obtain ⟨x, hxi⟩ : ∃ x, xs[i]? = some x := ⟨_, List.getElem?_eq_getElem hi⟩
    obtain ⟨y, hyi⟩ : ∃ y, ys[i]? = some y := ⟨_, List.getElem?_eq_getElem (by omega)⟩
    refine Or.inr ⟨⟨xs, x, hl', hxi⟩, fun H'' => Same H H'' ∧ H'' D = some (.lst (ys.take (i + 1))), ?_, ?_⟩
    · rintro H'' ⟨s2, d2⟩
      exact ⟨m - 1, by omega, by omega, s2, d2⟩
    · rintro z H2 ⟨rfl, hz⟩
      have ez : x = z := Option.some.inj (hxi.symm.trans (hz xs hl'))
      subst ez
      refine ⟨?_, ?_⟩
      · show wipe ((wipe σ [s]).set s (some x)) [s] = wipe σ [s]
        show (((σ.set s none).set s (some x)).set s none) = σ.set s none
        rw [List.set_set, List.set_set]
      · refine tYes_ok ?_
        refine helt i x y H2 _ hxi hyi sm fun H'' s3 => ?_
        refine ⟨ys.take i, s3 _ _ hd, ?_, ?_, ?_⟩
        · rw [List.length_take]; omega
        · exact fun b o e => by rw [upd_ne (ne_of_none e hD)]; exact s3 _ _ (sm _ _ e)
        · rw [upd_same, take_snocV hyi]
  · refine Or.inl ⟨⟨xs, hl', by omega⟩, ?_⟩
    rw [List.take_of_length_le (by omega)] at hd
    exact hq H' D sm hd hD
theorem er_lc {K : PySem.W.Frag} {a : Addr} {xs : List V} {σ : St} {H : Hp} {Q : VK} {s : Nat} {te : TE} (g : V → V) (hl : SqL K H a xs) (hlen : xs.length < sizeLine)
    (helt : ∀ (i : Nat) (x : V) (H' : Hp) (Q' : VK), xs[i]? = some x → Same H H' → (∀ H'', Same H' H'' → Q' (g x) H'') → te ((wipe σ [s]).set s (some x)) H' Q')
    (hq : ∀ (H' : Hp) (D : Addr), Same H H' → H' D = some (.lst (xs.map g)) → H D = none → Q (.ref D) H') :
    LcIn (Itl K a) (gName s) tYes te [s] σ Q H :=
  er_lcG hl hlen (List.length_map ..).symm (fun i x y H' Q' hx hy sm q => by
    rw [List.getElem?_map, hx] at hy
    cases Option.some.inj hy
    exact helt i x H' Q' hx sm q) hq
end L2
end
section
set_option Elab.async false
set_option linter.all false
set_option maxRecDepth 100000
set_option maxHeartbeats 4000000
namespace L2
open PySem PySem.Spec PyProof.Rows
open Er (Lt2)
theorem boot_list1 : bootBuiltins "list" = some (.type "list") := by decide +kernel
/-- a dict of the text's top, natInts under natInts -/
theorem kdictI_of {P : Program} {w : World} {K : PySem.W.Frag} {d : Addr} {es : List ((Int × Tok) × (Int × Tok))} {ep : Nat}
    (hl : K.lookup d = some { cls := .type "dict", data := .dict (es.map fun e => (⟨hashInt e.1.1, .int e.1.1 e.1.2, .int e.2.1 e.2.2⟩ : DictEntry)).toArray ep }) (hd : (d == sysModules) = false) (hn : (es.map (·.1.1)).Nodup) :
    KDict P w K d (es.map fun e => (Sum.inl e.1.1, V.int e.2.1)) := by
  refine ⟨hd, fun h KX => ⟨es.map fun e => (Sum.inl e.1.1, Value.int e.2.1 e.2.2), ?_, _, _, _, KX _ _ hl, ⟨rfl, rfl, rfl⟩, rfl, ?_, ?_, ?_⟩⟩
  · clear hl hn
    induction es with
    | nil => exact .nil
    | cons e es ih => exact .cons ⟨rfl, ⟨_, rfl⟩⟩ ih
  · intro e he
    have he' : e ∈ es.map fun e => (⟨hashInt e.1.1, .int e.1.1 e.1.2, .int e.2.1 e.2.2⟩ : DictEntry) := by simpa using he
    obtain ⟨x, _, rfl⟩ := List.mem_map.mp he'
    exact ⟨Sum.inl x.1.1, by show Value.isInt x.1.1 (.int x.1.1 x.1.2) = true; simp [Value.isInt], rfl⟩
  · clear hl hn
    show Pairs _ ((es.map fun e => (⟨hashInt e.1.1, .int e.1.1 e.1.2, .int e.2.1 e.2.2⟩ : DictEntry)).toArray).toList _
    rw [List.toList_toArray]
    induction es with
    | nil => exact .nil
    | cons e es ih => exact .cons (by show Value.isInt e.1.1 (.int e.1.1 e.1.2) = true; simp [Value.isInt]) rfl ih
  · rw [List.map_map]
    show (es.map fun e => (Sum.inl e.1.1 : Key)).Nodup
    clear hl
    induction es with
    | nil => exact List.nodup_nil
    | cons e es ih =>
      rw [List.map_cons, List.nodup_cons] at hn ⊢
      refine ⟨fun m => hn.1 ?_, ih hn.2⟩
      obtain ⟨x, hx, ex⟩ := List.mem_map.mp m
      exact List.mem_map.mpr ⟨x, hx, Sum.inl.inj ex⟩
end L2
end
section
set_option Elab.async false
set_option linter.all false
set_option maxRecDepth 100000
set_option maxHeartbeats 4000000
namespace ErP
open PySem PySem.Spec PyProof.Rows L2
open Er (IsK Lt2 rnd byP near kept prt mult size rsize small depth cellOk numI unitI rowOk refuseV okKind kindI cellI rowI bitsK)
open Lw (Fmt fmt)

def shp (f : Fmt) : List (Str × V) := [("fraction_bits", .int f.m), ("sign", .int f.signBit), ("infinite", .int f.infBits), ("none", .int f.nanBits), ("least_power", .int f.least), ("unit_depth", .int ((f.m : Int) - f.least))]
theorem shp_m (f : Fmt) : (shp f).lookup ("fraction_bits" : Str) = some (V.int f.m) := rfl
theorem shp_s (f : Fmt) : (shp f).lookup ("sign" : Str) = some (V.int f.signBit) := rfl
theorem shp_i (f : Fmt) : (shp f).lookup ("infinite" : Str) = some (V.int f.infBits) := rfl
theorem shp_n (f : Fmt) : (shp f).lookup ("none" : Str) = some (V.int f.nanBits) := rfl
theorem shp_l (f : Fmt) : (shp f).lookup ("least_power" : Str) = some (V.int f.least) := rfl
theorem shp_u (f : Fmt) : (shp f).lookup ("unit_depth" : Str) = some (V.int ((f.m : Int) - f.least)) := rfl
def ShapeAt (C : Addr) (H : Hp) (p : Addr) (k : Nat) : Prop := IsK k ∧ ∃ dx, H p = some (.ins C dx (shp (fmt k)))
theorem ShapeAt.mono {C : Addr} {H H' : Hp} {p : Addr} {k : Nat} (h : ShapeAt C H p k) (s : Same H H') : ShapeAt C H' p k := ⟨h.1, let ⟨dx, e⟩ := h.2; ⟨dx, s _ _ e⟩⟩
theorem inI {hi z : Int} (h : PySem.W.Codec.inInt 0 hi z = true) : 0 ≤ z := by
  unfold PySem.W.Codec.inInt at h
  simp only [Bool.and_eq_true, decide_eq_true_eq] at h
  exact h.1
def kvS : List (Key × V) := [(Sum.inl 1, .int 8), (Sum.inl 2, .int 16), (Sum.inl 3, .int 32), (Sum.inl 4, .int 64)]
def kvU : List (Key × V) := [(Sum.inl 5, .int 8), (Sum.inl 6, .int 16), (Sum.inl 7, .int 32), (Sum.inl 8, .int 64)]
def kvF (a9 a10 a11 a12 : Addr) : List (Key × V) := [(Sum.inl 9, V.ref a9), (Sum.inl 10, .ref a10), (Sum.inl 11, .ref a11), (Sum.inl 12, .ref a12)]
def TabI (P : Program) (w : World) (K : PySem.W.Frag) (mg : Str → Option Value) (x : Str) (kvs : List (Key × V)) : Prop := ∃ D : Addr, mg x = some (.ref D) ∧ KDict P w K D kvs
def TabF (P : Program) (w : World) (K : PySem.W.Frag) (mg : Str → Option Value) : Prop := ∃ D a9 a10 a11 a12 : Addr, mg "FLOATING_KINDS" = some (.ref D) ∧ KDict P w K D (kvF a9 a10 a11 a12) ∧
  (∀ H : Hp, SqT K H a9 [.int 5, .int 10]) ∧ (∀ H : Hp, SqT K H a10 [.int 8, .int 7]) ∧ (∀ H : Hp, SqT K H a11 [.int 8, .int 23]) ∧ (∀ H : Hp, SqT K H a12 [.int 11, .int 52])
def sgnK (kind : Int) : Bool := decide (1 ≤ kind) && decide (kind ≤ 4)
def unsK (kind : Int) : Bool := decide (5 ≤ kind) && decide (kind ≤ 8)
def wholeK (kind : Int) : Bool := sgnK kind || unsK kind
theorem key_dec (kind n : Int) : decide ((Sum.inl n : Key) = Sum.inl kind) = decide (kind = n) := by
  rw [Bool.eq_iff_iff, decide_eq_true_eq, decide_eq_true_eq]
  exact ⟨fun z => (Sum.inl.inj z).symm, fun z => by rw [z]⟩
theorem sgn_cases {kind : Int} (h : sgnK kind = true) : kind = 1 ∨ kind = 2 ∨ kind = 3 ∨ kind = 4 := by
  unfold sgnK at h
  simp only [Bool.and_eq_true, decide_eq_true_eq] at h
  omega
theorem uns_cases {kind : Int} (h : unsK kind = true) : kind = 5 ∨ kind = 6 ∨ kind = 7 ∨ kind = 8 := by
  unfold unsK at h
  simp only [Bool.and_eq_true, decide_eq_true_eq] at h
  omega
theorem okK_cases {kind : Int} (h : okKind kind = true) : kind = 9 ∨ kind = 10 ∨ kind = 11 ∨ kind = 12 := by
  unfold okKind at h
  simpa using h
theorem val_S (kind : Int) : (valV kvS (Sum.inl kind : Key)).isSome = sgnK kind := by
  rw [← valV_any]
  unfold sgnK kvS
  simp only [List.any_cons, List.any_nil, Bool.or_false, key_dec]
  rw [Bool.eq_iff_iff]
  simp only [Bool.or_eq_true, Bool.and_eq_true, decide_eq_true_eq]
  omega
theorem val_U (kind : Int) : (valV kvU (Sum.inl kind : Key)).isSome = unsK kind := by
  rw [← valV_any]
  unfold unsK kvU
  simp only [List.any_cons, List.any_nil, Bool.or_false, key_dec]
  rw [Bool.eq_iff_iff]
  simp only [Bool.or_eq_true, Bool.and_eq_true, decide_eq_true_eq]
  omega
theorem val_F {a9 a10 a11 a12 : Addr} (kind : Int) : (valV (kvF a9 a10 a11 a12) (Sum.inl kind : Key)).isSome = okKind kind := by
  rw [← valV_any]
  unfold okKind kvF
  simp only [List.any_cons, List.any_nil, Bool.or_false, key_dec]
theorem get_S {kind : Int} (h : sgnK kind = true) : valV kvS (Sum.inl kind : Key) = some (.int ((bitsK kind.toNat : Nat) : Int)) := by
  rcases sgn_cases h with h | h | h | h <;> subst h <;> rfl
theorem get_U {kind : Int} (h : unsK kind = true) : valV kvU (Sum.inl kind : Key) = some (.int ((bitsK kind.toNat : Nat) : Int)) := by
  rcases uns_cases h with h | h | h | h <;> subst h <;> rfl
theorem get_F {K : PySem.W.Frag} {a9 a10 a11 a12 : Addr} (t9 : ∀ H : Hp, SqT K H a9 [.int 5, .int 10]) (t10 : ∀ H : Hp, SqT K H a10 [.int 8, .int 7]) (t11 : ∀ H : Hp, SqT K H a11 [.int 8, .int 23]) (t12 : ∀ H : Hp, SqT K H a12 [.int 11, .int 52])
    {kind : Int} (h : okKind kind = true) : ∃ ak, valV (kvF a9 a10 a11 a12) (Sum.inl kind : Key) = some (.ref ak) ∧ ∀ H : Hp, SqT K H ak [.int (fmt kind.toNat).e, .int (fmt kind.toNat).m] := by
  rcases okK_cases h with h | h | h | h <;> subst h
  · exact ⟨a9, rfl, t9⟩
  · exact ⟨a10, rfl, t10⟩
  · exact ⟨a11, rfl, t11⟩
  · exact ⟨a12, rfl, t12⟩
theorem kind_parts (kind : Int) : kindI kind = (wholeK kind || okKind kind) := by
  unfold kindI wholeK sgnK unsK okKind
  rw [Bool.eq_iff_iff]
  simp only [Bool.or_eq_true, Bool.and_eq_true, decide_eq_true_eq]
  omega
theorem ok_kindI {kind : Int} (h : okKind kind = true) : kindI kind = true := by rw [kind_parts, h, Bool.or_true]
theorem bits_F {kind : Int} (h : okKind kind = true) : (1 : Int) + (fmt kind.toNat).e + (fmt kind.toNat).m = ((bitsK kind.toNat : Nat) : Int) := by
  rcases okK_cases h with h | h | h | h <;> subst h <;> rfl
theorem bits_le {kind : Int} (h : kindI kind = true) : bitsK kind.toNat ≤ 64 := by
  unfold kindI at h
  simp only [Bool.and_eq_true, decide_eq_true_eq] at h
  have : kind = 1 ∨ kind = 2 ∨ kind = 3 ∨ kind = 4 ∨ kind = 5 ∨ kind = 6 ∨ kind = 7 ∨ kind = 8 ∨ kind = 9 ∨ kind = 10 ∨ kind = 11 ∨ kind = 12 := by omega
  rcases this with h | h | h | h | h | h | h | h | h | h | h | h <;> subst h <;> decide
theorem cell_eq {k : Nat} (h : IsK k) (c : Int) : cellI k c = cellOk (fmt k) c := by
  unfold cellI cellOk bitsK
  have e : ((2 : Int) ^ (8 * Lw.sizeOf k)) = 2 * ((fmt k).signBit : Int) := by
    have := h.bits
    have e2 : (((2 : Nat) ^ (8 * Lw.sizeOf k) : Nat) : Int) = ((2 * (fmt k).signBit : Nat) : Int) := by rw [this]
    rw [Int.natCast_pow, Int.natCast_mul] at e2
    exact e2
  rw [e]
theorem all_cell_eq {k : Nat} (h : IsK k) (x : List Int) : x.all (cellI k) = x.all (cellOk (fmt k)) := by
  congr 1
  funext c
  exact cell_eq h c
def partA (f : Fmt) (c : Int) : Int :=
  let z : Nat := if 0 < Er.xOf f c.toNat then 2 ^ f.m + Er.rOf f c.toNat else Er.rOf f c.toNat
  if Er.sOf f c.toNat = true then -(z : Int) else (z : Int)
def partB (f : Fmt) (c : Int) : Nat := Er.xOf f c.toNat - 1
theorem part_unit (f : Fmt) (c : Int) : unitI f c = partA f c * 2 ^ partB f c := by
  unfold unitI Er.unitsOf Er.sizeU partA partB
  by_cases h : 0 < Er.xOf f c.toNat
  · simp only [if_pos h]
    split
    · rw [Int.neg_mul, Int.natCast_mul, Int.natCast_pow]; rfl
    · rw [Int.natCast_mul, Int.natCast_pow]; rfl
  · simp only [if_neg h]
    have e : Er.xOf f c.toNat - 1 = 0 := by omega
    rw [e, Int.pow_zero, Int.mul_one]
theorem partA_lt {k : Nat} (hk : IsK k) (c : Int) : Lt2 (partA (fmt k) c) 54 := by
  have hr : Er.rOf (fmt k) c.toNat < 2 ^ (fmt k).m := Nat.mod_lt _ (Nat.two_pow_pos _)
  have h1 : (2 : Nat) ^ (fmt k).m ≤ 2 ^ 52 := Nat.pow_le_pow_right (by decide) hk.m
  have h2 : (2 : Nat) ^ 54 = 4 * 2 ^ 52 := by decide
  unfold partA Lt2
  have e : ∀ z : Nat, (-(z : Int)).natAbs = z := fun z => by omega
  dsimp only
  split <;> split <;> (first | rw [e] | rw [Int.natAbs_natCast]) <;> omega
theorem partB_lt {k : Nat} (hk : IsK k) (c : Int) : partB (fmt k) c < 2048 := by
  have hx : Er.xOf (fmt k) c.toNat < 2 ^ (fmt k).e := Nat.mod_lt _ (Nat.two_pow_pos _)
  have he : (2 : Nat) ^ (fmt k).e ≤ 2 ^ 11 := Nat.pow_le_pow_right (by decide) hk.e
  unfold partB
  omega
section
variable (K : PySem.W.Frag) (C N : Addr)
def sp_is_floating : Sp := fun vs H Q _ => ∃ kind : Int, vs = [.int kind] ∧ Q (.bl (okKind kind)) H
def sp_is_whole : Sp := fun vs H Q _ => ∃ kind : Int, vs = [.int kind] ∧ Q (.bl (wholeK kind)) H
def sp_Shape : Sp := fun vs H Q _ => ∃ (p dx : Addr) (k : Nat), vs = [.ref p, .int (fmt k).e, .int (fmt k).m] ∧ IsK k ∧ H p = some (.ins C dx []) ∧ ∀ H' : Hp, H' p = some (.ins C dx (shp (fmt k))) → (∀ b o, H b = some o → b ≠ p → H' b = some o) → Q .non H'
def sp_shape_of : Sp := fun vs H Q _ => ∃ kind : Int, vs = [.int kind] ∧ okKind kind = true ∧ ∀ (H' : Hp) (p : Addr), Same H H' → ShapeAt C H' p kind.toNat → Q (.ref p) H'
def sp_bits_of : Sp := fun vs H Q _ => ∃ kind : Int, vs = [.int kind] ∧ kindI kind = true ∧ Q (.int ((bitsK kind.toNat : Nat) : Int)) H
def sp_are_cells : Sp := fun vs H Q _ => ∃ (kind : Int) (a : Addr) (x : List Int), vs = [.int kind, .ref a] ∧ kindI kind = true ∧ SqL K H a (x.map V.int) ∧ x.length ≤ 8500 ∧ ∀ H' : Hp, Same H H' → Q (.bl (x.all (cellI kind.toNat))) H'
def sp_is_number : Sp := fun vs H Q _ => ∃ (p : Addr) (k : Nat) (c : Int), vs = [.ref p, .int c] ∧ ShapeAt C H p k ∧ 0 ≤ c ∧ Q (.bl (numI (fmt k) c)) H
def sp_number_parts : Sp := fun vs H Q _ => ∃ (p : Addr) (k : Nat) (c : Int), vs = [.ref p, .int c] ∧ ShapeAt C H p k ∧ 0 ≤ c ∧ ∀ (H' : Hp) (q : Addr), Same H H' → H' q = some (.tup [.int (partA (fmt k) c), .int ((partB (fmt k) c : Nat) : Int)]) → H q = none → Q (.ref q) H'
def sp_units_of : Sp := fun vs H Q _ => ∃ (p : Addr) (k : Nat) (c : Int), vs = [.ref p, .int c] ∧ ShapeAt C H p k ∧ 0 ≤ c ∧ ∀ H' : Hp, Same H H' → Q (.int (unitI (fmt k) c)) H'
def sp_by_power : Sp := fun vs H Q _ => ∃ a b p : Int, vs = [.int a, .int b, .int p] ∧ Lt2 a 20000 ∧ Lt2 b 20000 ∧ -20000 ≤ p ∧ p ≤ 20000 ∧ ∀ (H' : Hp) (q : Addr), Same H H' → H' q = some (.tup [.int (byP a b p).1, .int (byP a b p).2]) → Q (.ref q) H'
def sp_floor_power : Sp := fun vs H Q _ => ∃ a b : Int, vs = [.int a, .int b] ∧ 0 < a ∧ 0 < b ∧ Lt2 a 8900 ∧ Lt2 b 8900 ∧ ∀ H' : Hp, Same H H' → Q (.int (Lw.log2 ((a : Rat) / (b : Rat)))) H'
def sp_nearest : Sp := fun vs H Q _ => ∃ a b : Int, vs = [.int a, .int b] ∧ 0 ≤ a ∧ 0 < b ∧ Lt2 a 60000 ∧ Lt2 b 9000 ∧ Q (.int (near a b)) H
def sp_stays_small : Sp := fun vs H Q _ => ∃ (p : Addr) (k : Nat) (a b : Int), vs = [.ref p, .int a, .int b, .int (Lw.log2 ((a : Rat) / (b : Rat)))] ∧ ShapeAt C H p k ∧ 0 < a ∧ 0 < b ∧ Lt2 a 8900 ∧ Lt2 b 8900 ∧ ∀ H' : Hp, Same H H' → Q (.bl (small (fmt k) a b)) H'
def sp_rounded_size : Sp := fun vs H Q _ => ∃ (p : Addr) (k : Nat) (a b sg : Int), vs = [.ref p, .int a, .int b, .int sg] ∧ ShapeAt C H p k ∧ 0 < a ∧ 0 < b ∧ Lt2 a 8900 ∧ Lt2 b 8900 ∧ ∀ (H' : Hp) (q : Addr), Same H H' → H' q = some (.lst [.int (rsize (fmt k) a b sg).1, .int (rsize (fmt k) a b sg).2]) → H q = none → Q (.ref q) H'
def sp_rounded : Sp := fun vs H Q _ => ∃ (p : Addr) (k : Nat) (a b : Int), vs = [.ref p, .int a, .int b] ∧ ShapeAt C H p k ∧ b ≠ 0 ∧ Lt2 a 8900 ∧ Lt2 b 8900 ∧ ∀ (H' : Hp) (q : Addr), Same H H' → H' q = some (.lst [.int (rnd (fmt k) a b).1, .int (rnd (fmt k) a b).2]) → H q = none → Q (.ref q) H'
def sp_rounded_units : Sp := fun vs H Q _ => ∃ (p : Addr) (k : Nat) (a b : Int) (d : Nat), vs = [.ref p, .int a, .int b, .int d] ∧ ShapeAt C H p k ∧ b ≠ 0 ∧ Lt2 a 8900 ∧ Lt2 b 4400 ∧ d ≤ 4 ∧
  ∀ (H' : Hp) (q : Addr), Same H H' → H' q = some (.lst [.int (rnd (fmt k) a (b * 2 ^ (d * depth (fmt k)))).1, .int (rnd (fmt k) a (b * 2 ^ (d * depth (fmt k)))).2]) → H q = none → Q (.ref q) H'
def sp_cells_refusal : Sp := fun vs H Q _ => ∃ (kind : Int) (a : Addr) (x : List Int) (most : Nat), vs = [.int kind, .ref a, .int most] ∧ kindI kind = true ∧ SqL K H a (x.map V.int) ∧ x.length ≤ 8500 ∧ ∀ H' : Hp, Same H H' → Q (.int (if rowI kind.toNat most x = true then 0 else -1)) H'
def RowsAt (H : Hp) (as : List Addr) (xss : List (List Int)) : Prop := Paired (fun a x => SqL K H a (x.map V.int) ∧ x.length ≤ 4200) as xss
def sp_numbers_refusal : Sp := fun vs H Q _ => ∃ (kind : Int) (a : Addr) (as : List Addr) (xss : List (List Int)), vs = [.int kind, .ref a] ∧ SqL K H a (as.map V.ref) ∧ RowsAt K H as xss ∧ as ≠ [] ∧ ∀ H' : Hp, Same H H' → Q (.int (refuseV kind xss)) H'
def ResAt (H : Hp) (as : List Addr) (rs : List (Int × Int)) : Prop := Paired (fun a (r : Int × Int) => SqL K H a [.int r.1, .int r.2] ∧ 0 ≤ r.1) as rs
def sp_one_answer : Sp := fun vs H Q _ => ∃ (a : Addr) (as : List Addr) (rs : List (Int × Int)), vs = [.ref a] ∧ SqL K H a (as.map V.ref) ∧ ResAt K H as rs ∧ as.length ≤ 4200 ∧ ∀ (H' : Hp) (q : Addr), Same H H' → H' q = some (.lst ((Er.togetherP rs).map V.int)) → Q (.ref q) H'
end
end ErP
end
section
set_option Elab.async false
set_option linter.all false
set_option maxRecDepth 100000
set_option maxHeartbeats 4000000
namespace ErP
open PySem PySem.Spec PyProof.Rows L2
open Er (IsK Lt2 rnd byP near kept prt mult size rsize small depth cellOk numI unitI rowOk refuseV okKind kindI cellI rowI bitsK)
open Lw (Fmt fmt)
section
variable {K : PySem.W.Frag}
theorem fmt_few {k : Nat} (h : IsK k) : (0 ≤ ((fmt k).e : Int) ∧ ((fmt k).e : Int) ≤ 11) ∧ 1 ≤ ((fmt k).m : Int) ∧ ((fmt k).m : Int) ≤ 52 := by
  have := h.e
  have := h.m
  have := h.good.m
  omega
theorem lt1 (n : Nat) (h : 0 < n) : Lt2 1 n := by
  unfold Lt2
  exact Nat.one_lt_two_pow (by omega)
theorem num_eq {f : Fmt} {c : Int} (hc : 0 ≤ c) : (!decide (Builtin.bitAnd c (f.infBits : Int) = (f.infBits : Int))) = numI f c := by
  rw [bitAnd_pp hc (by omega), Int.toNat_natCast]
  unfold numI Er.isNum
  congr 1
  rw [Lw.Fmt.infBits, Er.and_high, Bool.eq_iff_iff, decide_eq_true_eq, beq_iff_eq]
  show _ ↔ c.toNat / 2 ^ f.m % 2 ^ f.e = _
  have h := Nat.two_pow_pos f.m
  constructor
  · intro z
    have z' : c.toNat / 2 ^ f.m % 2 ^ f.e * 2 ^ f.m = (2 ^ f.e - 1) * 2 ^ f.m := by exact_mod_cast z
    exact Nat.eq_of_mul_eq_mul_right h z'
  · intro z; rw [z]
theorem unit_eq {f : Fmt} {c : Int} (hc : 0 ≤ c) :
    Builtin.bitAnd c ((2 : Int) ^ f.m - 1) = (Er.rOf f c.toNat : Int) ∧ Builtin.bitAnd c (f.infBits : Int) / 2 ^ f.m = (Er.xOf f c.toNat : Int) ∧ (Builtin.bitAnd c (f.signBit : Int) ≠ 0 ↔ Er.sOf f c.toNat = true) := by
  have hp := Nat.two_pow_pos f.m
  refine ⟨?_, ?_, ?_⟩
  · have e : (2 : Int) ^ f.m - 1 = ((2 ^ f.m - 1 : Nat) : Int) := by
      rw [Int.natCast_sub hp, Int.natCast_pow]; rfl
    rw [e, bitAnd_pp hc (by omega), Int.toNat_natCast, Er.and_low]
    rfl
  · rw [bitAnd_pp hc (by omega), Int.toNat_natCast, Lw.Fmt.infBits, Er.and_high]
    have e : ((2 : Int) ^ f.m) = ((2 ^ f.m : Nat) : Int) := by rw [Int.natCast_pow]; rfl
    rw [e, ← Int.natCast_ediv, Nat.mul_div_cancel _ hp]
    rfl
  · rw [bitAnd_pp hc (by omega), Int.toNat_natCast, Lw.Fmt.signBit]
    have := Er.and_bit c.toNat (f.e + f.m)
    unfold Er.sOf
    rw [← this]
    omega
theorem len_lt {x : List Int} (h : x.length ≤ 4200) : (x.map V.int).length < sizeLine := by
  rw [List.length_map]
  exact Nat.lt_of_le_of_lt h (by decide)
theorem get_map {x : List Int} {i : Nat} {y : V} (h : (x.map V.int)[i]? = some y) : ∃ c, x[i]? = some c ∧ y = .int c := by
  rw [List.getElem?_map] at h
  obtain ⟨c, h1, h2⟩ := Option.map_eq_some_iff.mp h
  exact ⟨c, h1, h2.symm⟩
def vI (g : Int → V) : V → V
  | .int c => g c
  | v => v
theorem map_vI (g : Int → V) (x : List Int) : (x.map V.int).map (vI g) = x.map g := by rw [List.map_map]; rfl
theorem rows_get {H : Hp} : ∀ {as : List Addr} {xss : List (List Int)} {i : Nat} {ai : Addr}, RowsAt K H as xss → as[i]? = some ai → ∃ xi, xss[i]? = some xi ∧ SqL K H ai (xi.map V.int) ∧ xi.length ≤ 4200
  | _, _, _, _, .nil, e => by simp at e
  | _, _, 0, _, .cons r _, e => by
    simp at e
    subst e
    exact ⟨_, rfl, r.1, r.2⟩
  | _, _, i + 1, ai, .cons _ t, e => by
    obtain ⟨x, h1, h2⟩ := rows_get (i := i) (ai := ai) t (by simpa using e)
    exact ⟨x, by simpa using h1, h2⟩
theorem res_get {H : Hp} : ∀ {as : List Addr} {rs : List (Int × Int)} {i : Nat} {ai : Addr}, ResAt K H as rs → as[i]? = some ai → ∃ r, rs[i]? = some r ∧ SqL K H ai [.int r.1, .int r.2] ∧ 0 ≤ r.1
  | _, _, _, _, .nil, e => by simp at e
  | _, _, 0, _, .cons r _, e => by
    simp at e
    subst e
    exact ⟨_, rfl, r.1, r.2⟩
  | _, _, i + 1, ai, .cons _ t, e => by
    obtain ⟨x, h1, h2⟩ := res_get (i := i) (ai := ai) t (by simpa using e)
    exact ⟨x, by simpa using h1, h2⟩
def flagsOf (rs : List (Int × Int)) : Int := rs.foldl (fun (f : Int) (r : Int × Int) => Er.orI f r.1) 0
theorem flags_nonneg (rs : List (Int × Int)) : 0 ≤ flagsOf rs := by
  unfold flagsOf
  have key : ∀ (l : List (Int × Int)) (a : Int), 0 ≤ a → 0 ≤ l.foldl (fun (f : Int) (r : Int × Int) => Er.orI f r.1) a := by
    intro l
    induction l with
    | nil => intro a h; exact h
    | cons r l ih => intro a h; exact ih _ (Int.natCast_nonneg _)
  exact key rs 0 (by decide)
theorem flags_snoc (rs : List (Int × Int)) (r : Int × Int) : flagsOf (rs ++ [r]) = Er.orI (flagsOf rs) r.1 := by
  unfold flagsOf
  rw [List.foldl_append]
  rfl
theorem rsize_flag (f : Fmt) (a b s : Int) : 0 ≤ (rsize f a b s).1 := by
  unfold rsize
  split
  · show (0 : Int) ≤ 20; decide
  · split
    · exact Int.le_refl _
    · split
      · show (0 : Int) ≤ 24; decide
      · show (0 : Int) ≤ 16; decide
theorem rnd_flag (f : Fmt) (a b : Int) : 0 ≤ (rnd f a b).1 := by
  unfold rnd
  split
  · exact Int.le_refl _
  · exact rsize_flag ..
theorem len_ltM {x : List Int} (h : x.length ≤ 8500) : (x.map V.int).length < sizeLine := by
  rw [List.length_map]
  exact Nat.lt_of_le_of_lt h (by decide)
theorem paired_len {α β : Type} {R : α → β → Prop} {as : List α} {bs : List β} (h : Paired R as bs) : as.length = bs.length := Paired.length h
theorem paired_get {α β : Type} {R : α → β → Prop} : ∀ {as : List α} {bs : List β} {i : Nat} {a : α}, Paired R as bs → as[i]? = some a → ∃ b, bs[i]? = some b ∧ R a b
  | _, _, _, _, .nil, e => by simp at e
  | _, _, 0, _, .cons r _, e => by
    simp at e
    subst e
    exact ⟨_, rfl, r⟩
  | _, _, i + 1, a, .cons _ t, e => by
    obtain ⟨x, h1, h2⟩ := paired_get (i := i) (a := a) t (by simpa using e)
    exact ⟨x, by simpa using h1, h2⟩
theorem paired_of {α β : Type} {R : α → β → Prop} : ∀ {as : List α} {bs : List β}, as.length = bs.length → (∀ (i : Nat) a b, as[i]? = some a → bs[i]? = some b → R a b) → Paired R as bs
  | [], [], _, _ => .nil
  | [], _ :: _, h, _ => by simp at h
  | _ :: _, [], h, _ => by simp at h
  | a :: as, b :: bs, h, hr => .cons (hr 0 a b rfl rfl) (paired_of (by simpa using h) fun i a' b' h1 h2 => hr (i + 1) a' b' (by simpa using h1) (by simpa using h2))
theorem paired_imp {α β : Type} {R S : α → β → Prop} (h : ∀ a b, R a b → S a b) : ∀ {as : List α} {bs : List β}, Paired R as bs → Paired S as bs
  | _, _, .nil => .nil
  | _, _, .cons r t => .cons (h _ _ r) (paired_imp h t)
theorem refs_of {ys : List V} (h : ∀ (i : Nat) y, ys[i]? = some y → ∃ a : Addr, y = .ref a) : ∃ as : List Addr, ys = as.map V.ref := by
  induction ys with
  | nil => exact ⟨[], rfl⟩
  | cons y ys ih =>
    obtain ⟨a, rfl⟩ := h 0 y rfl
    obtain ⟨as, rfl⟩ := ih fun i z hz => h (i + 1) z (by simpa using hz)
    exact ⟨a :: as, rfl⟩
theorem refs_get {as : List Addr} {i : Nat} {y : V} (h : (as.map V.ref)[i]? = some y) : ∃ a, as[i]? = some a ∧ y = .ref a := by
  rw [List.getElem?_map] at h
  obtain ⟨c, h1, h2⟩ := Option.map_eq_some_iff.mp h
  exact ⟨c, h1, h2.symm⟩
end
end ErP
end
section
set_option Elab.async false
set_option linter.all false
set_option maxRecDepth 100000
set_option maxHeartbeats 4000000
namespace ErP
open PySem PySem.Spec PyProof.Rows L2
open Er (IsK Lt2 rnd byP near kept prt mult size rsize small depth cellOk numI unitI rowOk refuseV okKind kindI cellI rowI bitsK)
open Lw (Fmt fmt)
section
variable (K : PySem.W.Frag) (C N : Addr)
end
section
variable {K : PySem.W.Frag} {C N : Addr}
end
end ErP
end
section
set_option Elab.async false
set_option linter.all false
set_option maxRecDepth 100000
set_option maxHeartbeats 4000000
namespace L2
open PySem PySem.Spec PyProof.Rows
section
variable {X : Cx}
end
end L2
end
section
set_option Elab.async false
set_option linter.all false
set_option maxRecDepth 100000
set_option maxHeartbeats 4000000
namespace ErP
open PySem PySem.Spec PyProof.Rows L2
open Er (Lt2)
open Lw (Four turnWord mill millRound drawBelow tried triesFrom W32)
section
variable (K : PySem.W.Frag) (C N : Addr)
end
end ErP
end
section
set_option Elab.async false
set_option linter.all false
set_option maxRecDepth 100000
set_option maxHeartbeats 4000000
namespace ErP
open PySem PySem.Spec PyProof.Rows L2
open Er (IsK Lt2 numI unitI okKind kindI cellI rowI bitsK mag valI formI ordI valKey nanK nanC vKey)
open Lw (Fmt fmt)
section
variable (K : PySem.W.Frag) (C N : Addr)
def sp_size_bits : Sp := fun vs H Q _ => ∃ (p : Addr) (k : Nat) (c : Int), vs = [.ref p, .int c] ∧ ShapeAt C H p k ∧ 0 ≤ c ∧ Q (.int ((mag (fmt k) c.toNat : Nat) : Int)) H
def sp_floating_place : Sp := fun vs H Q _ => ∃ (p : Addr) (k : Nat) (c : Int), vs = [.ref p, .int c] ∧ ShapeAt C H p k ∧ 0 ≤ c ∧ Q (.int (valI k c)) H
def sp_signed_numbers : Sp := fun vs H Q _ => ∃ (kind : Int) (a : Addr) (x : List Int), vs = [.int ((bitsK kind.toNat : Nat) : Int), .ref a] ∧ sgnK kind = true ∧ SqL K H a (x.map V.int) ∧ x.length ≤ 8500 ∧ (∀ c ∈ x, 0 ≤ c) ∧ ∀ (H' : Hp) (q : Addr), Same H H' → H' q = some (.lst ((x.map (valI kind.toNat)).map V.int)) → H q = none → Q (.ref q) H'
def sp_value_places : Sp := fun vs H Q _ => ∃ (kind : Int) (a : Addr) (x : List Int), vs = [.int kind, .ref a] ∧ kindI kind = true ∧ SqL K H a (x.map V.int) ∧ x.length ≤ 8500 ∧ (∀ c ∈ x, 0 ≤ c) ∧ ∀ (H' : Hp) (q : Addr), Same H H' → H' q = some (.lst ((x.map (valI kind.toNat)).map V.int)) → H q = none → Q (.ref q) H'
def sp_one_form : Sp := fun vs H Q _ => ∃ (kind : Int) (a : Addr) (x : List Int), vs = [.int kind, .ref a] ∧ kindI kind = true ∧ SqL K H a (x.map V.int) ∧ x.length ≤ 8500 ∧ (∀ c ∈ x, 0 ≤ c) ∧ ∀ (H' : Hp) (q : Addr), Same H H' → H' q = some (.lst ((x.map (formI kind.toNat)).map V.int)) → H q = none → Q (.ref q) H'
end
theorem mag_and {k : Nat} {c : Int} (hc : 0 ≤ c) : Builtin.bitAnd c (((fmt k).signBit : Int) - 1) = ((mag (fmt k) c.toNat : Nat) : Int) := by
  have hp : 0 < (fmt k).signBit := Nat.two_pow_pos _
  have e : ((fmt k).signBit : Int) - 1 = (((fmt k).signBit - 1 : Nat) : Int) := by omega
  rw [e, bitAnd_pp hc (by omega), Int.toNat_natCast, Lw.Fmt.signBit, Er.and_low]
  rfl
theorem isFloat_of {k : Nat} (h : IsK k) : Lw.isFloat k = true := Er.isFloat_isK.mpr h
theorem val_float {k : Nat} (h : IsK k) (c : Int) : valI k c = if (fmt k).infBits < mag (fmt k) c.toNat then 2 ^ 64 else if Er.sOf (fmt k) c.toNat = true then -((mag (fmt k) c.toNat : Nat) : Int) else ((mag (fmt k) c.toNat : Nat) : Int) := by
  unfold valI valKey
  rw [if_pos (isFloat_of h)]
  unfold nanC vKey
  simp only [decide_eq_true_eq]
theorem sgn_facts {kind : Int} (h : sgnK kind = true) : Lw.isFloat kind.toNat = false ∧ Lw.isSigned kind.toNat = true ∧ Lw.width kind.toNat = bitsK kind.toNat ∧ 1 ≤ bitsK kind.toNat ∧ bitsK kind.toNat ≤ 64 := by
  rcases sgn_cases h with h | h | h | h <;> subst h <;> decide
theorem val_sgn {kind : Int} (h : sgnK kind = true) {c : Int} (hc : 0 ≤ c) : valI kind.toNat c = if (2 : Int) ^ (bitsK kind.toNat - 1) ≤ c then c - 2 * 2 ^ (bitsK kind.toNat - 1) else c := by
  obtain ⟨h1, h2, h3, h4, _⟩ := sgn_facts h
  unfold valI valKey
  rw [if_neg (by rw [h1]; decide)]
  unfold Lw.toInt
  rw [h3]
  have e : (2 : Int) ^ bitsK kind.toNat = 2 * 2 ^ (bitsK kind.toNat - 1) := by
    have : bitsK kind.toNat = (bitsK kind.toNat - 1) + 1 := by omega
    rw [this, Int.pow_succ, Nat.add_sub_cancel, Int.mul_comm]
  have e2 : (2 : Int) ^ (bitsK kind.toNat - 1) = (((2 : Nat) ^ (bitsK kind.toNat - 1) : Nat) : Int) := by rw [Int.natCast_pow]; rfl
  rw [e, e2]
  clear e e2
  generalize (2 : Nat) ^ (bitsK kind.toNat - 1) = P
  by_cases g : (P : Int) ≤ c
  · rw [if_pos ⟨h2, (by omega : P ≤ c.toNat)⟩, if_pos g]
    omega
  · rw [if_neg (fun z => g (by have : P ≤ c.toNat := z.2; omega)), if_neg g]
    omega
theorem val_uns {kind : Int} (h : unsK kind = true) {c : Int} (hc : 0 ≤ c) : valI kind.toNat c = c := by
  have h1 : Lw.isFloat kind.toNat = false ∧ Lw.isSigned kind.toNat = false := by rcases uns_cases h with h | h | h | h <;> subst h <;> decide
  unfold valI valKey
  rw [if_neg (by rw [h1.1]; decide)]
  unfold Lw.toInt
  rw [if_neg (by rw [h1.2]; simp)]
  omega
theorem form_whole {kind : Int} (h : wholeK kind = true) {c : Int} (hc : 0 ≤ c) : formI kind.toNat c = c := by
  have h1 : Lw.isFloat kind.toNat = false ∧ kind.toNat ≠ 0 := by
    unfold wholeK at h
    rcases Bool.or_eq_true .. ▸ h with h | h
    · rcases sgn_cases h with h | h | h | h <;> subst h <;> decide
    · rcases uns_cases h with h | h | h | h <;> subst h <;> decide
  unfold formI
  rw [Er.form_eq h1.2]
  unfold nanK
  rw [h1.1, Bool.false_and, if_neg (by decide)]
  omega
theorem form_float {k : Nat} (h : IsK k) {c : Int} (hc : 0 ≤ c) : formI k c = if (fmt k).infBits < mag (fmt k) c.toNat then ((fmt k).nanBits : Int) else c := by
  unfold formI
  rw [Er.form_eq h.ne]
  unfold nanK nanC
  rw [isFloat_of h, Bool.true_and]
  simp only [decide_eq_true_eq]
  split
  · rfl
  · omega
theorem map_id_of {g : Int → Int} {x : List Int} (h : ∀ c ∈ x, g c = c) : x.map g = x := by
  conv => rhs; rw [← List.map_id x]
  exact List.map_congr_left h
theorem wf_kind {kind : Int} (hk : kindI kind = true) (h1 : sgnK kind = false) (h2 : unsK kind = false) : okKind kind = true := by
  rw [kind_parts] at hk
  unfold wholeK at hk
  simpa [h1, h2] using hk
theorem getI_at {l : List Int} {i : Nat} (h : i < l.length) : (l.map V.int)[i]? = some (.int (l.getD i 0)) := by
  rw [List.getElem?_map, List.getElem?_eq_getElem h, List.getD_eq_getElem?_getD, List.getElem?_eq_getElem h]
  rfl
end ErP
end
section
set_option Elab.async false
set_option linter.all false
set_option maxRecDepth 100000
set_option maxHeartbeats 4000000
namespace L2
open PySem PySem.Spec PyProof.Rows
def ext (H G : Hp) : Hp := fun b => match H b with | some o => some o | none => G b
theorem ext_old {H G : Hp} {b : Addr} {o : HO} (h : H b = some o) : ext H G b = some o := by unfold ext; rw [h]
theorem ext_new {H G : Hp} {b : Addr} (h : H b = none) : ext H G b = G b := by unfold ext; rw [h]
theorem Same.ext {H G : Hp} : Same H (ext H G) := fun _ _ e => ext_old e
section
variable {X : Cx} {pins : List (Addr × Obj)} {σ : St} {H : Hp} {s : Shared}
theorem ObjOk.there {P : Program} {w : World} {H : Hp} {h : Heap} {a : Addr} {o : HO} (x : ObjOk P w H h a o) : ∃ u, h.get? a = some u := by
  cases o with
  | lst xs => obtain ⟨_, _, _, _, e⟩ := x; exact ⟨_, e⟩
  | tup xs => obtain ⟨_, _, _, _, e, _⟩ := x; exact ⟨_, e⟩
  | dK kvs => obtain ⟨_, _, _, _, o, _, _, e, _⟩ := x; exact ⟨_, e⟩
  | dT kvs => obtain ⟨_, _, _, _, o, _, _, e, _⟩ := x; exact ⟨_, e⟩
  | set S n => obtain ⟨o, _, _, _, e, _⟩ := x; exact ⟨_, e⟩
  | ins C dx fs => obtain ⟨_, _, _, e, _⟩ := x; exact ⟨_, e⟩
  | own y => exact x
  | xd fs => obtain ⟨_, ⟨_, _, _, e, _⟩, _⟩ := x; exact ⟨_, e⟩
  | rng lo hi => obtain ⟨_, _, _, e⟩ := x; exact ⟨_, e⟩
  | frz ob u => exact ⟨_, x.1⟩
  | tbl ps => exact ⟨_, x⟩
  | met f y => exact ⟨_, x⟩
  | ext φ => exact x.2.1
theorem Inv.none_of (I : Inv X pins σ H s) {b : Addr} (h : s.heap.get? b = none) : H b = none := by
  cases e : H b with
  | none => rfl
  | some o =>
    obtain ⟨u, hu⟩ := (I.hok b o e).there
    rw [h] at hu
    cases hu
theorem Inv.many {G : Hp} {h' : Heap} {t' : Nat} (I : Inv X pins σ H s) (k : ∀ b u, s.heap.get? b = some u → h'.get? b = some u) (hG : ∀ b o, G b = some o → s.heap.get? b = none)
    (new : ∀ b o, G b = some o → ObjOk X.prog X.w (ext H G) h' b o) : Inv X pins σ (ext H G) { s with heap := h', toks := t' } := by
  refine I.un ⟨fun b u q _ _ _ => k b u q, fun b u q _ _ _ => ⟨u.slots, k b u q⟩, fun b u q n _ => ?_, fun b u q _ => ⟨u, k b u q⟩, fun b xs q => ext_old q, fun b u xs q => ext_old q, fun b ps q => ⟨#[], by rw [ext_old q]; simp⟩⟩ fun b o e => ?_
  · rw [ext_new n]
    cases hg : G b with
    | none => rfl
    | some o => rw [hG b o hg] at q; cases q
  · cases hb : H b with
    | some o' =>
      rw [ext_old hb] at e
      cases e
      exact (I.hok b _ hb).stay (fun c v _ q => k c v q) (fun c q => ext_old q) fun c xs q => ext_old q
    | none =>
      rw [ext_new hb] at e
      exact new b o e
end
section
variable {prog : Program} {w : World} {A : Around} {E : Value → Shared → Prop} {s : Shared}
theorem sh_old {h : Heap} {a b : Addr} {vs : List Value} {out : Array Value} {o : Obj} (hb : b ≠ a) (e : h.get? b = some o) : (sortedHeap h a vs out).get? b = some o := by
  unfold sortedHeap
  rw [Heap.get?_update_ne _ _ _ _ hb]
  exact Heap.get?_push_of_some _ (Heap.get?_push_of_some _ (by rw [Heap.get?_update_ne _ _ _ _ hb]; exact e))
theorem sh_at {h : Heap} {a : Addr} {vs : List Value} {out : Array Value} {xs : Array Value} {n : Nat} (e : h.get? a = some (seqObj "list" xs n)) : ∃ ep, (sortedHeap h a vs out).get? a = some (seqObj "list" out ep) := by
  unfold sortedHeap
  have e1 := get?_update_seq e (fun _ => #[])
  exact ⟨_, get?_update_seq (Heap.get?_push_of_some _ (Heap.get?_push_of_some _ e1)) (fun _ => out)⟩
end
section
variable {X : Cx} {o : Expr} {td : TE} {p pos apos cpos : Pos}
theorem boot_sorted1 : bootBuiltins "sorted" = some (.builtin "sorted") := by decide +kernel
end
end L2
end
section
set_option Elab.async false
set_option linter.all false
set_option maxRecDepth 100000
set_option maxHeartbeats 4000000
namespace L2
open PySem PySem.Spec PyProof.Rows
section
variable {X : Cx} {pos : Pos}
end
end L2
namespace ErP
open PySem PySem.Spec PyProof.Rows L2
open Er (IsK Lt2 okKind kindI cellI rowI bitsK mag valI formI ordI)
open Lw (Fmt fmt)
section
variable {α κ : Type} [DecidableEq α] [DecidableEq κ]
end
section
variable (K : PySem.W.Frag) (C N : Addr)
end
end ErP
end
section
set_option Elab.async false
set_option linter.all false
set_option maxRecDepth 100000
set_option maxHeartbeats 4000000
namespace L2
open PySem PySem.Spec PyProof.Rows
def lexLe (p q : Int × Int) : Prop := p.1 < q.1 ∨ (p.1 = q.1 ∧ p.2 ≤ q.2)
def TupAt (h : Heap) (t : Addr) (p : Int × Int) : Prop := ∃ (o : Obj) (n : Nat) (t1 t2 : Tok), h.get? t = some o ∧ o.cls = .type "tuple" ∧ o.data = .seq #[.int p.1 t1, .int p.2 t2] n
theorem TupAt.inj {h : Heap} {t : Addr} {p q : Int × Int} (a : TupAt h t p) (b : TupAt h t q) : p = q := by
  obtain ⟨o, n, t1, t2, e1, _, d1⟩ := a
  obtain ⟨o', n', u1, u2, e2, _, d2⟩ := b
  rw [e1] at e2
  cases e2
  rw [d1] at d2
  injection d2 with d3 _
  have d4 := congrArg Array.toList d3
  simp at d4
  exact Prod.ext d4.1.1 d4.2.1
theorem TupAt.keep {h h' : Heap} {t : Addr} {p : Int × Int} (k : ∀ o, h.get? t = some o → h'.get? t = some o) (a : TupAt h t p) : TupAt h' t p := by
  obtain ⟨o, n, t1, t2, e1, r⟩ := a
  exact ⟨o, n, t1, t2, k _ e1, r⟩
open Classical in
noncomputable def keyOfT (h : Heap) (t : Addr) : Int × Int := if e : ∃ p, TupAt h t p then e.choose else (0, 0)
theorem keyOfT_eq {h : Heap} {t : Addr} {p : Int × Int} (a : TupAt h t p) : keyOfT h t = p := by
  unfold keyOfT
  rw [dif_pos ⟨p, a⟩]
  exact (Exists.choose_spec (⟨p, a⟩ : ∃ p, TupAt h t p)).inj a
def addrOf : Value → Addr
  | .ref a => a
  | _ => 0
def noTexts : Nat → Bool := fun _ => false
theorem key_tup {h : Heap} {t : Addr} {p : Int × Int} (a : TupAt h t p) : G.tupKeyC h noTexts (.ref t) = some [Sum.inl p.1, Sum.inl p.2] := by
  obtain ⟨o, n, t1, t2, ho, hc, hd⟩ := a
  unfold G.tupKeyC
  rw [if_pos (by simp [G.isTupObj, ho, hc])]
  simp only [tupKey, ho, hd]
  rfl
theorem tups_of {h : Heap} : ∀ {ts : List Addr} {ps : List (Int × Int)}, Paired (TupAt h) ts ps → ∃ fs, TupsOf h noTexts (ts.map Value.ref) fs
  | _, _, .nil => ⟨[], .nil⟩
  | _, _, .cons a r => by
    obtain ⟨fs, hf⟩ := tups_of r
    obtain ⟨o, n, t1, t2, ho, hc, hd⟩ := a
    exact ⟨_ :: fs, .cons ⟨_, o, _, n, rfl, ho, hc, hd, rfl, fun _ => ⟨_, _, rfl⟩, fun z => absurd z (by decide)⟩ hf⟩
theorem lex_le {a b c d : Int} (h : PyProof.Rows.lexLt itemOrd [Sum.inl c, Sum.inl d] [Sum.inl a, Sum.inl b] = false) : lexLe (a, b) (c, d) := by
  have h1 : (decide (c < a) || (!decide (a < c) && (decide (d < b) || (!decide (b < d) && false)))) = false := h
  unfold lexLe
  simp only [Bool.or_eq_false_iff, Bool.and_eq_false_iff, Bool.not_eq_false', decide_eq_false_iff_not, decide_eq_true_eq, Bool.and_false, Bool.or_false] at h1
  omega
theorem tup_keys {h : Heap} {ts : List Addr} {ps : List (Int × Int)} (hp : Paired (TupAt h) ts ps) : ps = ts.map (keyOfT h) ∧ ∀ t ∈ ts, TupAt h t (keyOfT h t) := by
  induction hp with
  | nil => exact ⟨rfl, by simp⟩
  | cons a r ih =>
    refine ⟨by rw [List.map_cons, ← ih.1, keyOfT_eq a], fun t ht => ?_⟩
    rcases List.mem_cons.mp ht with e | e
    · rw [e, keyOfT_eq a]; exact a
    · exact ih.2 t e
theorem tup_out {h : Heap} {ts : List Addr} {ps : List (Int × Int)} (hp : Paired (TupAt h) ts ps) {arr : Array Keyed} (hperm : arr.Perm (pairsOf (ts.map Value.ref))) (hs : SortedToK (G.tupKindC h noTexts) arr (pairsOf (ts.map Value.ref)).size) :
    ∃ (ts' : List Addr) (ps' : List (Int × Int)), arr.map (·.2) = (ts'.map Value.ref).toArray ∧ Paired (TupAt h) ts' ps' ∧ ps'.Perm ps ∧ ps'.Pairwise lexLe ∧ ∀ t ∈ ts', t ∈ ts := by
  obtain ⟨hk1, hk2⟩ := tup_keys hp
  have hl : arr.toList.Perm ((ts.map Value.ref).zip (ts.map Value.ref)) := by
    have e := Array.perm_iff_toList_perm.mp hperm
    rw [pairsOf_toList] at e
    exact e
  have hq : ∀ q ∈ arr.toList, ∃ t ∈ ts, q = (Value.ref t, Value.ref t) := fun q hm => by
    obtain ⟨e1, e2⟩ := mem_zip_self (hl.mem_iff.mp hm)
    obtain ⟨t, ht, e⟩ := List.mem_map.mp e2
    exact ⟨t, ht, Prod.ext e.symm (by rw [← e1]; exact e.symm)⟩
  have hsnd : ((ts.map Value.ref).zip (ts.map Value.ref)).map (fun q => addrOf q.2) = ts := by
    clear hl hs hperm hk1 hk2 hp hq
    induction ts with
    | nil => rfl
    | cons t ts ih => exact congrArg (t :: ·) ih
  refine ⟨arr.toList.map fun q => addrOf q.2, (arr.toList.map fun q => addrOf q.2).map (keyOfT h), ?_, ?_, ?_, ?_, ?_⟩
  · apply Array.ext'
    rw [Array.toList_map, List.toList_toArray, List.map_map]
    apply List.map_congr_left
    intro q hm
    obtain ⟨t, _, rfl⟩ := hq q hm
    rfl
  · refine ErP.paired_of (by simp) fun i t p h1 h2 => ?_
    rw [List.getElem?_map, h1] at h2
    cases Option.some.inj h2
    rw [List.getElem?_map] at h1
    obtain ⟨q, hqi, e⟩ := Option.map_eq_some_iff.mp h1
    obtain ⟨t', ht', rfl⟩ := hq q (List.mem_of_getElem? hqi)
    cases e
    exact hk2 _ ht'
  · rw [hk1]
    refine List.Perm.map _ ?_
    have := hl.map fun q => addrOf q.2
    rw [hsnd] at this
    exact this
  · refine List.pairwise_iff_getElem.mpr fun i j hi hj hij => ?_
    rw [List.length_map, List.length_map] at hi hj
    have ai : arr.toList[i]? = some arr.toList[i] := List.getElem?_eq_getElem hi
    have aj : arr.toList[j]? = some arr.toList[j] := List.getElem?_eq_getElem hj
    obtain ⟨ti, hti, ei⟩ := hq _ (List.mem_of_getElem? ai)
    obtain ⟨tj, htj, ej⟩ := hq _ (List.mem_of_getElem? aj)
    have hz : (pairsOf (ts.map Value.ref)).size = arr.toList.length := by rw [hperm.size_eq.symm, Array.length_toList]
    have ki : KK (G.tupKindC h noTexts) arr i = [Sum.inl (keyOfT h ti).1, Sum.inl (keyOfT h ti).2] := by
      unfold KK
      rw [← Array.getElem?_toList, ai, ei]
      show (G.tupKeyC h noTexts (.ref ti)).getD [] = _
      rw [key_tup (hk2 ti hti)]
      rfl
    have kj : KK (G.tupKindC h noTexts) arr j = [Sum.inl (keyOfT h tj).1, Sum.inl (keyOfT h tj).2] := by
      unfold KK
      rw [← Array.getElem?_toList, aj, ej]
      show (G.tupKeyC h noTexts (.ref tj)).getD [] = _
      rw [key_tup (hk2 tj htj)]
      rfl
    have hle := hs i j (by omega) (by omega)
    rw [ki, kj] at hle
    have := lex_le hle
    simp only [List.getElem_map, ei, ej]
    exact this
  · intro t ht
    obtain ⟨q, hm, e⟩ := List.mem_map.mp ht
    obtain ⟨t', ht', rfl⟩ := hq q hm
    cases e
    exact ht'
section
variable {prog : Program} {w : World} {A : Around} {E : Value → Shared → Prop} {s : Shared}
/-- sorted of what gives pairs of natInts -/
theorem sorted_tups_from {r : Addr} {ps : List (Int × Int)} {Q : Value → Shared → Prop} {Nw Kp : Addr → Prop} (hn : ps.length ≤ sizeLine)
    (hcol : ∀ {R : List Value → Shared → Prop}, (∀ (h' : Heap) (tk : Nat) (ts : List Addr), (∀ b o, Kp b → s.heap.get? b = some o → h'.get? b = some o) → s.heap.objs.size ≤ h'.objs.size → Paired (TupAt h') ts ps → (∀ t ∈ ts, Nw t) → R (ts.map Value.ref) { s with heap := h', toks := tk }) → wpAny (model prog w) A.in1 (collect (.ref r)) R E s)
    (hq : ∀ (D : Addr) (h' : Heap) (tk ep : Nat) (ts' : List Addr) (ps' : List (Int × Int)), s.heap.objs.size ≤ D → (∀ b o, Kp b → s.heap.get? b = some o → h'.get? b = some o) → h'.get? D = some (seqObj "list" (ts'.map Value.ref).toArray ep) → Paired (TupAt h') ts' ps' →
      ps'.Perm ps → ps'.Pairwise lexLe → (∀ t ∈ ts', Nw t ∧ t ≠ D) → Q (.ref D) { s with heap := h', toks := tk }) : wpAny (model prog w) A (call (.builtin "sorted") [.ref r]) Q E s := by
  apply Calls.call_function_entry kind_sorted plain_sorted entry_sorted (args_sorted1 _); unfold Builtin.«sorted»
  refine wpAny_bind (m := checkCount "sorted" 1 1 _) (wpAny_pure (wpAny_bind (hcol fun h1 tk ts k1 hle hP hNw => ?_)))
  have hl : (ts.map Value.ref).length = ps.length := by rw [List.length_map]; exact ErP.paired_len hP
  refine wpAny_bind (wpAny_newList ?_ (by rw [hl]; exact hn))
  have hL : (h1.push (seqObj "list" (ts.map Value.ref).toArray 0)).get? h1.objs.size = some (seqObj "list" (ts.map Value.ref).toArray 0) := Heap.get?_push_size _ rfl
  have hP1 : Paired (TupAt (h1.push (seqObj "list" (ts.map Value.ref).toArray 0))) ts ps := ErP.paired_imp (fun t p a => a.keep fun o e => Heap.get?_push_of_some _ e) hP
  obtain ⟨fs, hfs⟩ := tups_of hP1
  have hk : ∀ v, v ∈ ts.map Value.ref → ∃ l, G.tupKeyC (h1.push (seqObj "list" (ts.map Value.ref).toArray 0)) noTexts v = some l := fun v hv => by
    obtain ⟨t, ht, rfl⟩ := List.mem_map.mp hv
    exact ⟨_, key_tup ((tup_keys hP1).2 t ht)⟩
  have hlt : ∀ t ∈ ts, t ≠ h1.objs.size := fun t ht => by
    obtain ⟨o, _, _, _, e, _⟩ := (tup_keys hP).2 t ht
    exact Nat.ne_of_lt (Heap.lt_size e)
  refine wpAny_bind (wpAny_holding (wpAny_call_entry slot_list_sort ⟨_, hL, rfl⟩ entry_list_sort (G.list_sort_tups hL hfs hk (by rw [hl]; exact hn) fun st' g1 g2 _ => ⟨_, rfl, ?_⟩) (args_list_sort _)))
  obtain ⟨ts', ps', e1, e2, e3, e4, e5⟩ := tup_out hP1 g1 g2
  rw [e1]
  obtain ⟨ep, hep⟩ := sh_at (vs := ts.map Value.ref) (out := (ts'.map Value.ref).toArray) hL
  have e2' : Paired (TupAt (sortedHeap (h1.push (seqObj "list" (ts.map Value.ref).toArray 0)) h1.objs.size (ts.map Value.ref) (ts'.map Value.ref).toArray)) ts' ps' :=
    ErP.paired_of (ErP.paired_len e2) fun i t p h1' h2' => by
      have hm := List.mem_of_getElem? h1'
      obtain ⟨p', hp', ha⟩ := ErP.paired_get e2 h1'
      rw [h2'] at hp'
      cases Option.some.inj hp'
      exact ha.keep fun o e => sh_old (hlt t (e5 t hm)) e
  exact wpAny_pure ⟨_, rfl, hq _ _ tk ep ts' ps' hle (fun b o hb e => sh_old (Nat.ne_of_lt (Heap.lt_size (k1 _ _ hb e))) (Heap.get?_push_of_some _ (k1 _ _ hb e))) hep e2' e3 e4 fun t ht => ⟨hNw t (e5 t ht), hlt t (e5 t ht)⟩⟩
end
end L2
end
section
set_option Elab.async false
set_option linter.all false
set_option maxRecDepth 100000
set_option maxHeartbeats 4000000
namespace L2
open PySem PySem.Spec PyProof.Rows
theorem ad_ne {a b n : Nat} (h : a < n) (h2 : n ≤ b) : b ≠ a := by omega
theorem ints_at_get : ∀ {vs : List Value} {ns : List Int} {i : Nat} {n : Int}, IntsAre vs ns → ns[i]? = some n → ∃ t, vs[i]? = some (.int n t)
  | _, _, _, _, .nil, e => by simp at e
  | _, _, 0, _, .cons m t r, e => by
    simp at e
    subst e
    exact ⟨t, rfl⟩
  | _, _, i + 1, n, .cons m t r, e => by
    obtain ⟨u, hu⟩ := ints_at_get (i := i) (n := n) r (by simpa using e)
    exact ⟨u, by simpa using hu⟩
def ZipObj (h : Heap) (z TI TO : Addr) (f0 : Value) (f1 : Bool) : Prop := h.get? z = some { cls := .type "zip", dict := none, data := .fields #[f0, .bool f1, .bool false, .ref TI, .ref TO], slots := #[] }
section
variable {prog : Program} {w : World} {A : Around} {E : Value → Shared → Prop} {s : Shared}
theorem zip_held_item {z TI TO i1 i2 l1 l2 T : Addr} {k1 k2 : Nat} {xs ys : Array Value} {x y : Value} {f1 : Bool} {oT : Obj} {Q : Option Value → Shared → Prop} (D : ZipApart z TI TO i1 i2 l1 l2)
    (hz : ZipObj s.heap z TI TO (rawInt T) f1) (hT : s.heap.get? T = some oT) (hTI : IsPair s.heap TI (.ref i1) (.ref i2))
    (h1 : s.heap.IsListIter i1 l1 k1) (h2 : s.heap.IsListIter i2 l2 k2) (hl1 : s.heap.IsList l1 xs) (hl2 : s.heap.IsList l2 ys) (hx : xs[k1]? = some x) (hy : ys[k2]? = some y)
    (hQ : ∀ h', ZipObj h' z TI TO (rawInt T) true → h'.IsListIter i1 l1 (k1 + 1) → h'.IsListIter i2 l2 (k2 + 1) → IsPair h' s.heap.objs.size x y → h'.objs.size = s.heap.objs.size + 1 →
      (∀ c o, c ≠ z → c ≠ i1 → c ≠ i2 → s.heap.get? c = some o → h'.get? c = some o) → Q (some (.ref s.heap.objs.size)) { s with heap := h' }) :
    wpAny (model prog w) A (pyNext (.ref z)) Q E s := by
  have hTy : s.TypeIs (.ref z) "zip" := ⟨_, hz, rfl⟩
  unfold pyNext
  refine wpAny_bind (wpAny_attempt (wpAny_callSpecial?_slot (name := Str.ofString "__next__") hTy F.slot_zip_next (wpAny_call_entry F.slot_zip_next hTy F.entry_zip_next ?_ (F.args_zip_next_1 _))))
  show wpAny _ _ (field (.ref z) 2 >>= _) _ _ _; refine wpAny_bind (wpAny_field hz rfl (x := .bool false) rfl ?_)
  show wpAny _ _ (field (.ref z) 3 >>= _) _ _ _; refine wpAny_bind (wpAny_field hz rfl (x := .ref TI) rfl (wpAny_bind (wpAny_seqItems hTI rfl ?_)))
  show wpAny _ _ (Builtin.SmallTypes.ownedTupleIsFree (.ref z) >>= _) _ _ _; refine wpAny_bind ?_
  unfold Builtin.SmallTypes.ownedTupleIsFree
  refine wpAny_bind (wpAny_field hz rfl (x := rawInt T) rfl ?_)
  show wpAny _ _ (loadIfAlive ((T : Int).toNat) >>= _) _ _ _; rw [Int.toNat_natCast]
  refine wpAny_bind (PySem.W.kdx_alive hT ?_)
  simp only [Option.isNone_some, Bool.false_eq_true, if_false]
  refine wpAny_bind (wpAny_field hz rfl (x := .bool f1) rfl ?_)
  cases f1 with
  | true =>
    rw [if_neg (show ¬ ((Value.bool true != Value.bool true) = true) by decide)]
    refine wpAny_pure ?_
    simp only [Bool.false_eq_true, if_false]
    obtain ⟨h₀, hh₀⟩ : ∃ h₀, h₀ = s.heap := ⟨_, rfl⟩
    have hz₀ : ZipObj h₀ z TI TO (rawInt T) true := by rw [hh₀]; exact hz
    have hs₀ : Heap.SameBut z s.heap h₀ := by rw [hh₀]; exact Heap.SameBut.refl _ _
    have es : s = { s with heap := h₀ } := by rw [hh₀]
    rw [es]
    clear es
    have a1 : h₀.IsListIter i1 l1 k1 := h1.extBut hs₀.extBut D.i1z
    have a2 : h₀.IsListIter i2 l2 k2 := h2.extBut hs₀.extBut D.i2z
    have b1 : h₀.IsList l1 xs := hl1.extBut hs₀.extBut D.l1z
    have b2 : h₀.IsList l2 ys := hl2.extBut hs₀.extBut D.l2z
    refine wpAny_bind ?_
    simp only [← Array.forIn_toList, List.forIn_cons, List.forIn_nil]
    refine wpAny_bind (wpAny_bind (wpAny_holding ?_))
    show wpAny _ _ (Builtin.SmallTypes.nextOf (.ref i1) >>= _) _ _ _; refine wpAny_bind (wpAny_nextOf_list_item a1 b1 hx fun h₂ h1₂ hs₂ => wpAny_pure (wpAny_pure ?_))
    refine wpAny_bind (wpAny_bind (wpAny_holding ?_))
    show wpAny _ _ (Builtin.SmallTypes.nextOf (.ref i2) >>= _) _ _ _; refine wpAny_bind (wpAny_nextOf_list_item (a2.extBut hs₂.extBut D.i12.symm) (b2.extBut hs₂.extBut D.l2i1) hy fun h₃ h2₃ hs₃ => wpAny_pure (wpAny_pure (wpAny_pure ?_)))
    refine wpAny_bind (wpAny_newTuple (wpAny_pure ⟨_, rfl, wpAny_pure ?_⟩) (hsz := by show 2 ≤ sizeLine; decide))
    have hsz : h₃.objs.size = s.heap.objs.size := by rw [hs₃.1, hs₂.1, hs₀.1]
    have up : ∀ c o, h₃.get? c = some o → (h₃.push { cls := .type "tuple", data := .seq #[x, y] }).get? c = some o := fun c o e => Heap.get?_push_of_some _ e
    show Q (some (.ref h₃.objs.size)) _
    rw [hsz]
    exact hQ _ (up _ _ (hs₃.extBut _ _ D.i2z.symm (hs₂.extBut _ _ D.i1z.symm hz₀))) ((h1₂.extBut hs₃.extBut D.i12).at fun o e => up _ o e) (h2₃.at fun o e => up _ o e) (by rw [← hsz]; exact Heap.get?_push_size _ rfl)
      (by rw [Heap.size_push, hsz]) fun c o c1 c2 c3 e => up _ _ (hs₃.extBut _ _ c3 (hs₂.extBut _ _ c2 (hs₀.extBut _ _ c1 e)))
  | false =>
    rw [if_pos (show (Value.bool false != Value.bool true) = true by decide)]
    refine wpAny_bind (wpAny_setField_rec hz (by simp) fun h₀ hz₀ hs₀ => wpAny_pure ?_)
    replace hz₀ : ZipObj h₀ z TI TO (rawInt T) true := hz₀
    replace hs₀ : Heap.SameBut z s.heap h₀ := hs₀
    simp only [Bool.false_eq_true, if_false]
    have a1 : h₀.IsListIter i1 l1 k1 := h1.extBut hs₀.extBut D.i1z
    have a2 : h₀.IsListIter i2 l2 k2 := h2.extBut hs₀.extBut D.i2z
    have b1 : h₀.IsList l1 xs := hl1.extBut hs₀.extBut D.l1z
    have b2 : h₀.IsList l2 ys := hl2.extBut hs₀.extBut D.l2z
    refine wpAny_bind ?_
    simp only [← Array.forIn_toList, List.forIn_cons, List.forIn_nil]
    refine wpAny_bind (wpAny_bind (wpAny_holding ?_))
    show wpAny _ _ (Builtin.SmallTypes.nextOf (.ref i1) >>= _) _ _ _; refine wpAny_bind (wpAny_nextOf_list_item a1 b1 hx fun h₂ h1₂ hs₂ => wpAny_pure (wpAny_pure ?_))
    refine wpAny_bind (wpAny_bind (wpAny_holding ?_))
    show wpAny _ _ (Builtin.SmallTypes.nextOf (.ref i2) >>= _) _ _ _; refine wpAny_bind (wpAny_nextOf_list_item (a2.extBut hs₂.extBut D.i12.symm) (b2.extBut hs₂.extBut D.l2i1) hy fun h₃ h2₃ hs₃ => wpAny_pure (wpAny_pure (wpAny_pure ?_)))
    refine wpAny_bind (wpAny_newTuple (wpAny_pure ⟨_, rfl, wpAny_pure ?_⟩) (hsz := by show 2 ≤ sizeLine; decide))
    have hsz : h₃.objs.size = s.heap.objs.size := by rw [hs₃.1, hs₂.1, hs₀.1]
    have up : ∀ c o, h₃.get? c = some o → (h₃.push { cls := .type "tuple", data := .seq #[x, y] }).get? c = some o := fun c o e => Heap.get?_push_of_some _ e
    show Q (some (.ref h₃.objs.size)) _
    rw [hsz]
    exact hQ _ (up _ _ (hs₃.extBut _ _ D.i2z.symm (hs₂.extBut _ _ D.i1z.symm hz₀))) ((h1₂.extBut hs₃.extBut D.i12).at fun o e => up _ o e) (h2₃.at fun o e => up _ o e) (by rw [← hsz]; exact Heap.get?_push_size _ rfl)
      (by rw [Heap.size_push, hsz]) fun c o c1 c2 c3 e => up _ _ (hs₃.extBut _ _ c3 (hs₂.extBut _ _ c2 (hs₀.extBut _ _ c1 e)))
theorem zip_held_end {z TI TO i1 i2 l1 l2 T : Addr} {k1 : Nat} {xs : Array Value} {f1 : Bool} {oT : Obj} {Q : Option Value → Shared → Prop} (hh : A.handled = none) (D : ZipApart z TI TO i1 i2 l1 l2)
    (hz : ZipObj s.heap z TI TO (rawInt T) f1) (hT : s.heap.get? T = some oT) (hTI : IsPair s.heap TI (.ref i1) (.ref i2))
    (h1 : s.heap.IsListIter i1 l1 k1) (hl1 : s.heap.IsList l1 xs) (hx : xs[k1]? = none)
    (hQ : ∀ h', (∀ c o, c ≠ z → c ≠ i1 → s.heap.get? c = some o → h'.get? c = some o) → Q none { s with heap := h' }) :
    wpAny (model prog w) A (pyNext (.ref z)) Q E s := by
  have hTy : s.TypeIs (.ref z) "zip" := ⟨_, hz, rfl⟩
  unfold pyNext
  refine wpAny_bind (wpAny_attempt (wpAny_callSpecial?_slot (name := Str.ofString "__next__") hTy F.slot_zip_next (wpAny_call_entry F.slot_zip_next hTy F.entry_zip_next ?_ (F.args_zip_next_1 _))))
  show wpAny _ _ (field (.ref z) 2 >>= _) _ _ _; refine wpAny_bind (wpAny_field hz rfl (x := .bool false) rfl ?_)
  show wpAny _ _ (field (.ref z) 3 >>= _) _ _ _; refine wpAny_bind (wpAny_field hz rfl (x := .ref TI) rfl (wpAny_bind (wpAny_seqItems hTI rfl ?_)))
  show wpAny _ _ (Builtin.SmallTypes.ownedTupleIsFree (.ref z) >>= _) _ _ _; refine wpAny_bind ?_
  unfold Builtin.SmallTypes.ownedTupleIsFree
  refine wpAny_bind (wpAny_field hz rfl (x := rawInt T) rfl ?_)
  show wpAny _ _ (loadIfAlive ((T : Int).toNat) >>= _) _ _ _; rw [Int.toNat_natCast]
  refine wpAny_bind (PySem.W.kdx_alive hT ?_)
  simp only [Option.isNone_some, Bool.false_eq_true, if_false]
  refine wpAny_bind (wpAny_field hz rfl (x := .bool f1) rfl ?_)
  cases f1 with
  | true =>
    rw [if_neg (show ¬ ((Value.bool true != Value.bool true) = true) by decide)]
    refine wpAny_pure ?_
    simp only [Bool.false_eq_true, if_false]
    refine wpAny_bind ?_
    simp only [← Array.forIn_toList, List.forIn_cons, List.forIn_nil]
    refine wpAny_bind (wpAny_bind (wpAny_holding ?_))
    show wpAny _ _ (Builtin.SmallTypes.nextOf (.ref i1) >>= _) _ _ _; refine wpAny_bind (wpAny_nextOf_list_end hh h1 hl1 hx fun h₂ e hs₂ he => ?_)
    obtain ⟨o, ho, hc⟩ := he
    exact wpAny_bind (wpAny_isInstance (T := "StopIteration") (b := true) ⟨o, ho, hc⟩ isSubtype_stop (wpAny_pure (hQ _ fun c o _ c2 x => hs₂ _ _ c2 x)))
  | false =>
    rw [if_pos (show (Value.bool false != Value.bool true) = true by decide)]
    refine wpAny_bind (wpAny_setField_rec hz (by simp) fun h₀ hz₀ hs₀ => wpAny_pure ?_)
    replace hs₀ : Heap.SameBut z s.heap h₀ := hs₀
    simp only [Bool.false_eq_true, if_false]
    refine wpAny_bind ?_
    simp only [← Array.forIn_toList, List.forIn_cons, List.forIn_nil]
    refine wpAny_bind (wpAny_bind (wpAny_holding ?_))
    show wpAny _ _ (Builtin.SmallTypes.nextOf (.ref i1) >>= _) _ _ _; refine wpAny_bind (wpAny_nextOf_list_end hh (h1.extBut hs₀.extBut D.i1z) (hl1.extBut hs₀.extBut D.l1z) hx fun h₂ e hs₂ he => ?_)
    obtain ⟨o, ho, hc⟩ := he
    exact wpAny_bind (wpAny_isInstance (T := "StopIteration") (b := true) ⟨o, ho, hc⟩ isSubtype_stop (wpAny_pure (hQ _ fun c o c1 c2 x => hs₂ _ _ c2 (hs₀.extBut _ _ c1 x))))
end
structure ZS (h : Heap) (z TI TO i1 i2 la lb n0 : Addr) (vx vy : Array Value) (i : Nat) : Prop where
  zp : IsZip h z TI TO .none ∨ ∃ (T : Addr) (f1 : Bool) (o : Obj), ZipObj h z TI TO (rawInt T) f1 ∧ h.get? T = some o ∧ n0 ≤ T
  ti : IsPair h TI (.ref i1) (.ref i2)
  to : ∃ a b, IsPair h TO a b
  it1 : h.IsListIter i1 la i
  it2 : h.IsListIter i2 lb i
  l1 : h.IsList la vx
  l2 : h.IsList lb vy
theorem ZS.keep {h h' : Heap} {z TI TO i1 i2 la lb n0 : Addr} {vx vy : Array Value} {i : Nat} (a : ZS h z TI TO i1 i2 la lb n0 vx vy i) (hn : z < n0 ∧ TI < n0 ∧ TO < n0 ∧ i1 < n0 ∧ i2 < n0 ∧ la < n0 ∧ lb < n0)
    (k : ∀ b o, b < n0 → h.get? b = some o → h'.get? b = some o) (k2 : ∀ b o, h.get? b = some o → ∃ o', h'.get? b = some o') : ZS h' z TI TO i1 i2 la lb n0 vx vy i := by
  refine ⟨?_, k _ _ hn.2.1 a.ti, ?_, a.it1.at fun o e => k _ _ hn.2.2.2.1 e, a.it2.at fun o e => k _ _ hn.2.2.2.2.1 e, a.l1.at fun o e => k _ _ hn.2.2.2.2.2.1 e, a.l2.at fun o e => k _ _ hn.2.2.2.2.2.2 e⟩
  · rcases a.zp with e | ⟨T, f1, o, e, eT, hT⟩
    · exact .inl (k _ _ hn.1 e)
    · obtain ⟨o', e'⟩ := k2 _ _ eT
      exact .inr ⟨T, f1, o', k _ _ hn.1 e, e', hT⟩
  · obtain ⟨p, q, e⟩ := a.to
    exact ⟨p, q, k _ _ hn.2.2.1 e⟩
section
variable {prog : Program} {w : World} {A : Around} {E : Value → Shared → Prop} {s : Shared} {z TI TO i1 i2 la lb n0 : Addr} {vx vy : Array Value}
theorem zs_next {i : Nat} {x y : Value} {Q : Option Value → Shared → Prop} (D : ZipApart z TI TO i1 i2 la lb) (hn : z < n0 ∧ TI < n0 ∧ TO < n0 ∧ i1 < n0 ∧ i2 < n0 ∧ la < n0 ∧ lb < n0) (hla : la ≠ z ∧ la ≠ TO ∧ la ≠ i1 ∧ la ≠ i2) (hlb : lb ≠ z ∧ lb ≠ TO ∧ lb ≠ i1 ∧ lb ≠ i2) (hsz : n0 ≤ s.heap.objs.size)
    (a : ZS s.heap z TI TO i1 i2 la lb n0 vx vy i) (hx : vx[i]? = some x) (hy : vy[i]? = some y)
    (hQ : ∀ h', ZS h' z TI TO i1 i2 la lb n0 vx vy (i + 1) → IsPair h' s.heap.objs.size x y → h'.objs.size = s.heap.objs.size + 1 → (∀ c o, c ≠ z → c ≠ TO → c ≠ i1 → c ≠ i2 → s.heap.get? c = some o → h'.get? c = some o) →
      Q (some (.ref s.heap.objs.size)) { s with heap := h' }) : wpAny (model prog w) A (pyNext (.ref z)) Q E s := by
  obtain ⟨p, q, hTO⟩ := a.to
  rcases a.zp with hz | ⟨T, f1, o, hz, hT, hTn⟩
  · refine wpAny_pyNext_zip_item D hz a.ti hTO a.it1 a.it2 a.l1 a.l2 hx hy fun h' g1 g2 g3 g4 g5 g6 g7 => hQ h' ⟨.inr ⟨_, false, _, g1, g5, hsz⟩, g7 _ _ D.TIz D.TITO D.TIi1 D.TIi2 a.ti, ⟨_, _, g2⟩, g3, g4, a.l1.at fun o e => g7 _ _ hla.1 hla.2.1 hla.2.2.1 hla.2.2.2 e, a.l2.at fun o e => g7 _ _ hlb.1 hlb.2.1 hlb.2.2.1 hlb.2.2.2 e⟩ g5 g6 g7
  · refine zip_held_item D hz hT a.ti a.it1 a.it2 a.l1 a.l2 hx hy fun h' g1 g3 g4 g5 g6 g7 => hQ h' ⟨.inr ⟨T, true, o, g1, g7 _ _ (ad_ne hn.1 hTn) (ad_ne hn.2.2.2.1 hTn) (ad_ne hn.2.2.2.2.1 hTn) hT, hTn⟩, g7 _ _ D.TIz D.TIi1 D.TIi2 a.ti, ⟨p, q, g7 _ _ D.TOz D.TOi1 D.TOi2 hTO⟩, g3, g4, a.l1.at fun o e => g7 _ _ hla.1 hla.2.2.1 hla.2.2.2 e, a.l2.at fun o e => g7 _ _ hlb.1 hlb.2.2.1 hlb.2.2.2 e⟩ g5 g6 fun c o c1 _ c3 c4 e => g7 c o c1 c3 c4 e
theorem zs_end {i : Nat} {Q : Option Value → Shared → Prop} (hh : A.handled = none) (D : ZipApart z TI TO i1 i2 la lb) (a : ZS s.heap z TI TO i1 i2 la lb n0 vx vy i) (hx : vx[i]? = none)
    (hQ : ∀ h', (∀ c o, c ≠ z → c ≠ TO → c ≠ i1 → c ≠ i2 → s.heap.get? c = some o → h'.get? c = some o) → Q none { s with heap := h' }) : wpAny (model prog w) A (pyNext (.ref z)) Q E s := by
  obtain ⟨p, q, hTO⟩ := a.to
  rcases a.zp with hz | ⟨T, f1, o, hz, hT, hTn⟩
  · exact wpAny_pyNext_zip_end hh D hz a.ti hTO a.it1 a.it2 a.l1 a.l2 (.inl hx) hQ
  · exact zip_held_end hh D hz hT a.ti a.it1 a.l1 hx fun h' k => hQ h' fun c o c1 _ c3 _ e => k c o c1 c3 e
/-- the loop of list.extend over such a zip -/
theorem zip_loop {X Y : List Int} {R : Result → Shared → Prop} (hh : A.handled = none) (D : ZipApart z TI TO i1 i2 la lb) (hn : z < n0 ∧ TI < n0 ∧ TO < n0 ∧ i1 < n0 ∧ i2 < n0 ∧ la < n0 ∧ lb < n0) (hla : la ≠ z ∧ la ≠ TO ∧ la ≠ i1 ∧ la ≠ i2) (hlb : lb ≠ z ∧ lb ≠ TO ∧ lb ≠ i1 ∧ lb ≠ i2)
    (hX : IntsAre vx.toList X) (hY : IntsAre vy.toList Y) (hXY : X.length = Y.length) (hsl : X.length ≤ sizeLine) (res : Value) :
    ∀ (k i : Nat) (s : Shared) (ts : List Addr) (c : Nat), X.length - i = k → i ≤ X.length → n0 < s.heap.objs.size → ZS s.heap z TI TO i1 i2 la lb n0 vx vy i → s.heap.get? n0 = some { cls := .type "list", dict := none, data := .seq (ts.map Value.ref).toArray c, slots := #[] } →
    ts.length = i → Paired (TupAt s.heap) ts ((X.zip Y).take i) → (∀ t ∈ ts, n0 < t) →
    (∀ (h' : Heap) (ts' : List Addr) (c' : Nat), (∀ b o, b ≠ z → b ≠ TO → b ≠ i1 → b ≠ i2 → b ≠ n0 → s.heap.get? b = some o → h'.get? b = some o) → h'.get? n0 = some { cls := .type "list", dict := none, data := .seq (ts'.map Value.ref).toArray c', slots := #[] } →
      Paired (TupAt h') ts' (X.zip Y) → (∀ t ∈ ts', n0 < t) → R (.ok (.ret res)) { s with heap := h' }) →
    codeAny (model prog w) A (.builtin "list.extend.loop" ⟨[.ref n0, .ref z, res], []⟩) R s := by
  intro k
  induction k with
  | zero =>
    intro i s ts c hk hi hsz a hS hlen hP hts hR
    have e : i = X.length := by omega
    subst e
    refine codeAny_builtin F.entry_extend_loop ?_; rw [Around.under_plainId F.plain_extend_loop _]
    show wpAny _ A.in1 (pyNext (.ref z) >>= _) _ _ s; refine wpAny_bind (zs_end hh D a ?_ fun h' kp => ?_)
    · rw [← Array.getElem?_toList, List.getElem?_eq_none (by rw [hX.length]; exact Nat.le_refl _)]
    · have hlt : ∀ {b : Addr}, n0 ≤ b → b ≠ z ∧ b ≠ TO ∧ b ≠ i1 ∧ b ≠ i2 := fun hb => ⟨ad_ne hn.1 hb, ad_ne hn.2.2.1 hb, ad_ne hn.2.2.2.1 hb, ad_ne hn.2.2.2.2.1 hb⟩
      have hfull : (X.zip Y).take X.length = X.zip Y := List.take_of_length_le (by rw [List.length_zip]; omega)
      rw [hfull] at hP
      have q0 := hlt (Nat.le_refl n0)
      refine wpAny_pure (hR h' ts c (fun b o b1 b2 b3 b4 _ e => kp b o b1 b2 b3 b4 e) (kp _ _ q0.1 q0.2.1 q0.2.2.1 q0.2.2.2 hS) (ErP.paired_of (ErP.paired_len hP) fun j t p h1 h2 => ?_) hts)
      obtain ⟨p', hp', ha⟩ := ErP.paired_get hP h1
      rw [h2] at hp'
      cases Option.some.inj hp'
      have q1 := hlt (Nat.le_of_lt (hts t (List.mem_of_getElem? h1)))
      exact ha.keep fun o e => kp _ _ q1.1 q1.2.1 q1.2.2.1 q1.2.2.2 e
  | succ k ih =>
    intro i s ts c hk hi hsz a hS hlen hP hts hR
    have hiX : i < X.length := by omega
    obtain ⟨xi, hxi⟩ : ∃ xi, X[i]? = some xi := ⟨_, List.getElem?_eq_getElem hiX⟩
    obtain ⟨yi, hyi⟩ : ∃ yi, Y[i]? = some yi := ⟨_, List.getElem?_eq_getElem (by omega)⟩
    obtain ⟨t1, hvx⟩ := ints_at_get hX hxi
    obtain ⟨t2, hvy⟩ := ints_at_get hY hyi
    rw [Array.getElem?_toList] at hvx hvy
    refine codeAny_builtin F.entry_extend_loop ?_; rw [Around.under_plainId F.plain_extend_loop _]
    show wpAny _ A.in1 (pyNext (.ref z) >>= _) _ _ s; refine wpAny_bind (zs_next D hn hla hlb (Nat.le_of_lt hsz) a hvx hvy fun h1 a1 hT1 hs1 kp => ?_)
    have hlt : ∀ {b : Addr}, n0 ≤ b → b ≠ z ∧ b ≠ TO ∧ b ≠ i1 ∧ b ≠ i2 := fun hb => ⟨ad_ne hn.1 hb, ad_ne hn.2.2.1 hb, ad_ne hn.2.2.2.1 hb, ad_ne hn.2.2.2.2.1 hb⟩
    have q0 := hlt (Nat.le_refl n0)
    have hS1 := kp _ _ q0.1 q0.2.1 q0.2.2.1 q0.2.2.2 hS
    have hsz2 : (ts.map Value.ref).toArray.size = i := by simp [hlen]
    show wpAny _ A.in1 (updateSeq n0 (·.push (.ref s.heap.objs.size)) >>= _) _ _ _; refine wpAny_bind ?_
    have hnew : (h1.update n0 (Obj.mapSeq (·.push (.ref s.heap.objs.size)))).get? n0 = some _ := Heap.get?_update_self (Obj.mapSeq (·.push (Value.ref s.heap.objs.size))) hS1 rfl
    have hoth : ∀ b o, b ≠ n0 → h1.get? b = some o → (h1.update n0 (Obj.mapSeq (·.push (.ref s.heap.objs.size)))).get? b = some o := fun b o hb e => by rw [Heap.get?_update_ne _ _ _ _ hb]; exact e
    have hal : ∀ b o, h1.get? b = some o → ∃ o', (h1.update n0 (Obj.mapSeq (·.push (.ref s.heap.objs.size)))).get? b = some o' := fun b o e => by
      by_cases hb : b = n0
      · rw [hb]; exact ⟨_, hnew⟩
      · exact ⟨o, hoth b o hb e⟩
    refine wpAny_updateSeq hS1 rfl (wpAny_pure ⟨plainId_quiet F.plain_extend_loop _, ih (i + 1) _ (ts ++ [s.heap.objs.size]) (c + 1) (by omega) hiX ?_ (a1.keep hn (fun b o hb e => hoth b o (Nat.ne_of_lt hb) e) hal) ?_ (by simp [hlen]) ?_ ?_ fun h' ts' c' kp' hS' hP' hts' => ?_⟩) (by rw [hsz2]; omega) (by show ((ts.map Value.ref).toArray.push (.ref s.heap.objs.size)).size ≤ sizeLine + 1; rw [Array.size_push, hsz2]; omega)
    · show n0 < (h1.update n0 _).objs.size
      rw [Heap.size_update, hs1]
      exact Nat.lt_succ_of_lt hsz
    · rw [hnew]
      simp [Obj.mapSeq]
    · have hz : (X.zip Y)[i]? = some (xi, yi) := by rw [List.getElem?_zip_eq_some]; exact ⟨hxi, hyi⟩
      rw [take_snocV hz]
      refine ErP.paired_of (by rw [List.length_append, List.length_append, ErP.paired_len hP]; rfl) fun j t p e1 e2 => ?_
      by_cases hj : j < ts.length
      · rw [List.getElem?_append_left hj] at e1
        rw [List.getElem?_append_left (by rw [← ErP.paired_len hP]; exact hj)] at e2
        obtain ⟨p', hp', ha⟩ := ErP.paired_get hP e1
        rw [e2] at hp'
        cases Option.some.inj hp'
        have hgt := hts t (List.mem_of_getElem? e1)
        have q1 := hlt (Nat.le_of_lt hgt)
        exact ha.keep fun o e => hoth _ _ (Nat.ne_of_gt hgt) (kp _ _ q1.1 q1.2.1 q1.2.2.1 q1.2.2.2 e)
      · rw [List.getElem?_append_right (by omega)] at e1
        rw [List.getElem?_append_right (by rw [← ErP.paired_len hP]; omega), ← ErP.paired_len hP] at e2
        have ej : j - ts.length = 0 := by
          have := (List.getElem?_eq_some_iff.mp e1).1
          simp at this
          omega
        rw [ej] at e1 e2
        cases Option.some.inj e1
        cases Option.some.inj e2
        exact ⟨_, _, t1, t2, hoth _ _ (Nat.ne_of_gt hsz) hT1, rfl, rfl⟩
    · intro t ht
      rcases List.mem_append.mp ht with h | h
      · exact hts t h
      · rw [List.mem_singleton.mp h]; exact hsz
    · exact hR h' ts' c' (fun b o b1 b2 b3 b4 b5 e => kp' b o b1 b2 b3 b4 b5 (hoth b o b5 (kp b o b1 b2 b3 b4 e))) hS' hP' hts'
end
end L2
end
section
set_option Elab.async false
set_option linter.all false
set_option maxRecDepth 100000
set_option maxHeartbeats 4000000
namespace L2
open PySem PySem.Spec PyProof.Rows
theorem zip_noLen : typeLookup (.type "zip") "__len__" = pure none := by rw [typeLookup_type, builtinLookup_eq_fast]; kernel_rfl
theorem zip_noHint : typeLookup (.type "zip") "__length_hint__" = pure none := by rw [typeLookup_type, builtinLookup_eq_fast]; kernel_rfl
section
variable {prog : Program} {w : World} {A : Around} {E : Value → Shared → Prop} {s : Shared} {z TI TO i1 i2 la lb : Addr} {vx vy : Array Value}
theorem zip_collect {X Y : List Int} {R : List Value → Shared → Prop} (hh : A.handled = none) (D : ZipApart z TI TO i1 i2 la lb) (hn : z < s.heap.objs.size ∧ TI < s.heap.objs.size ∧ TO < s.heap.objs.size ∧ i1 < s.heap.objs.size ∧ i2 < s.heap.objs.size ∧ la < s.heap.objs.size ∧ lb < s.heap.objs.size)
    (hla : la ≠ z ∧ la ≠ TO ∧ la ≠ i1 ∧ la ≠ i2) (hlb : lb ≠ z ∧ lb ≠ TO ∧ lb ≠ i1 ∧ lb ≠ i2) (hX : IntsAre vx.toList X) (hY : IntsAre vy.toList Y) (hXY : X.length = Y.length) (hsl : X.length ≤ sizeLine)
    (hz : IsZip s.heap z TI TO .none) (a : ZS s.heap z TI TO i1 i2 la lb s.heap.objs.size vx vy 0)
    (hR : ∀ (h' : Heap) (ts : List Addr), (∀ b o, b ≠ z → b ≠ TO → b ≠ i1 → b ≠ i2 → s.heap.get? b = some o → h'.get? b = some o) → Paired (TupAt h') ts (X.zip Y) → (∀ t ∈ ts, s.heap.objs.size < t) → s.heap.objs.size < h'.objs.size → R (ts.map Value.ref) { s with heap := h' }) :
    wpAny (model prog w) A (collect (.ref z)) R E s := by
  have hTy : ∀ h' : Heap, (∀ o, s.heap.get? z = some o → h'.get? z = some o) → Shared.TypeIs { s with heap := h' } (.ref z) "zip" := fun h' k => ⟨_, k _ hz, rfl⟩
  unfold collect
  refine wpAny_bind (wpAny_runValue (codeAny_builtin F.entry_proto_collect ?_)); rw [Around.under_plainId F.plain_proto_collect _]
  show wpAny _ A.in1 (newList [] >>= fun l => again (.builtin "list.__iadd__" ⟨[l, .ref z], []⟩)) _ _ s; refine wpAny_bind (wpAny_newObj_type ?_)
  refine wpAny_pure ⟨plainId_quiet F.plain_list_iadd _, codeAny_builtin F.entry_list_iadd ?_⟩; rw [Around.under_plainId F.plain_list_iadd _]
  have up : ∀ b o, s.heap.get? b = some o → (s.heap.push { cls := .type "list", data := .seq ([] : List Value).toArray }).get? b = some o := fun b o e => Heap.get?_push_of_some _ e
  have hT1 := hTy _ (fun o e => up z o e)
  have hS1 : (s.heap.push { cls := .type "list", data := .seq ([] : List Value).toArray }).get? s.heap.objs.size = some { cls := .type "list", data := .seq ([] : List Value).toArray } := Heap.get?_push_size _ rfl
  have hne : s.heap.objs.size ≠ z := Nat.ne_of_gt hn.1
  show wpAny _ A.in1 (Builtin.List.listExtendWith (.ref s.heap.objs.size) (.ref z) (.ref s.heap.objs.size)) _ _ _; unfold Builtin.List.listExtendWith
  refine wpAny_bind (wpAny_typeOf hT1 ?_)
  have c1 : Builtin.List.listSameRef (.ref s.heap.objs.size) (.ref z) = false := by simp [Builtin.List.listSameRef, hne]
  have c2 : (Value.type "zip" == Value.type "list") = false := by decide
  have c3 : (Value.type "zip" == Value.type "tuple") = false := by decide
  simp only [c1, c2, c3, Bool.or_false, Bool.false_eq_true, if_false]
  refine wpAny_bind (wpAny_pyIter_zip (up _ _ hz) (wpAny_bind (wpAny_holding ?_)))
  unfold Builtin.List.listLengthHint
  refine wpAny_bind (wpAny_specialOf hT1 zip_noLen ?_)
  show wpAny _ A.in1 (specialOf (Value.ref z) (Str.ofString "__length_hint__") >>= _) _ _ _; refine wpAny_bind (wpAny_specialOf hT1 zip_noHint (wpAny_pure ?_))
  refine wpAny_bind (wpAny_rule (wpAny_bind ?_))
  show wpAny _ A.in1 (updateSeq s.heap.objs.size (·.push .none) >>= fun _ => updateSeq s.heap.objs.size (·.pop)) _ _ _; refine wpAny_bind (wpAny_updateSeq hS1 rfl ?_)
  have hS2 := Heap.get?_update_self (Obj.mapSeq (·.push Value.none)) hS1 rfl
  refine wpAny_updateSeq hS2 rfl ?_
  have hS3 := Heap.get?_update_self (Obj.mapSeq (·.pop)) hS2 rfl
  have oth : ∀ b o, b ≠ s.heap.objs.size → s.heap.get? b = some o → (((s.heap.push { cls := .type "list", data := .seq ([] : List Value).toArray }).update s.heap.objs.size (Obj.mapSeq (·.push Value.none))).update s.heap.objs.size (Obj.mapSeq (·.pop))).get? b = some o := fun b o hb e => by
    rw [Heap.get?_update_ne _ _ _ _ hb, Heap.get?_update_ne _ _ _ _ hb]
    exact up b o e
  refine wpAny_pure ⟨plainId_quiet F.plain_extend_loop _, zip_loop (n0 := s.heap.objs.size) (X := X) (Y := Y) hh D hn hla hlb hX hY hXY hsl _ X.length 0 _ [] _ (by omega) (Nat.zero_le _) ?_ (a.keep hn (fun b o hb e => oth b o (Nat.ne_of_lt hb) e) fun b o e => ⟨o, oth b o (Nat.ne_of_lt (Heap.lt_size e)) e⟩) hS3 rfl (by rw [List.take_zero]; exact .nil) (by simp) fun h' ts' c' kp hS' hP' hts' => ?_⟩
  · show s.heap.objs.size < (Heap.update _ _ _).objs.size
    rw [Heap.size_update, Heap.size_update, Heap.size_push]
    exact Nat.lt_succ_self _
  · show wpAny _ A (load s.heap.objs.size >>= _) _ _ _; refine wpAny_bind (wpAny_load hS' (wpAny_pure ?_))
    refine hR h' ts' (fun b o b1 b2 b3 b4 e => kp b o b1 b2 b3 b4 (Nat.ne_of_lt (Heap.lt_size e)) (oth b o (Nat.ne_of_lt (Heap.lt_size e)) e)) hP' hts' (Heap.lt_size hS')
end
section
variable {X : Cx}
theorem vals_refs : ∀ ts : List Addr, Vals (ts.map V.ref) (ts.map Value.ref)
  | [] => .nil
  | t :: ts => .cons rfl (vals_refs ts)
def tSortZ (K : PySem.W.Frag) (ta : TA) : TE := fun σ H Q => ta σ H fun vs H1 => ∃ (a b : Addr) (xs ys : List Int), vs = [.ref a, .ref b] ∧ SqL K H1 a (xs.map V.int) ∧ SqL K H1 b (ys.map V.int) ∧ xs.length = ys.length ∧
  ∀ (H' : Hp) (L : Addr) (ts : List Addr) (ps : List (Int × Int)), Same H1 H' → ps.Perm (xs.zip ys) → ps.Pairwise lexLe → Paired (fun t (p : Int × Int) => H' t = some (.tup [.int p.1, .int p.2])) ts ps → H' L = some (.lst (ts.map V.ref)) → H1 L = none → Q (.ref L) H'
theorem pe_sortedZip {k : Nat} {e e2 : Expr} {ta : TA} {p pos p2 pos2 : Pos} (hr : Room k X.A) (hg : Gl X "sorted") (hg2 : Gl X "zip") (hm : X.mg "sorted" = none) (hm2 : X.mg "zip" = none) (ha : PA X [e, e2] ta)
    (he : starEach [.Call (.Name "zip" p2) [e, e2] [] pos2] X.env = (false, eval (.Call (.Name "zip" p2) [e, e2] [] pos2) X.env) :: starEach [] X.env := by rfl) (he2 : starEach [] X.env = [] := by rfl)
    (hs : starEach [e, e2] X.env = (false, eval e X.env) :: starEach [e2] X.env := by rfl) (hpl : (backTo pos2 (starEach [e2] X.env)).any (·.1) = false := by rfl) :
    PE X (.Call (.Name "sorted" p) [.Call (.Name "zip" p2) [e, e2] [] pos2] [] pos) (tSortZ X.K ta) := by
  intro pins s σ H Q I h
  refine wpAny_Call_Name_kw (ld_blt I hg hm boot_sorted1 (PyProof.Rows.callWith_builtin1 (args_cons ?_) he (by rw [he2]; rfl)))
  refine Call_ (ld_blt I hg2 hm2 boot_zip5 (PyProof.Rows.callWith_type1 (thn (ha pos2 pins s σ H _ I h) fun us s1 ⟨vs, H1, I1, r1, q1⟩ => ?_) hs hpl))
  obtain ⟨a, b, xs, ys, ex, hqx, hqy, hxy, q⟩ := q1
  subst ex
  cases r1 with
  | cons r rr =>
    cases rr with
    | cons r' rr =>
      cases rr
      cases r
      cases r'
      obtain ⟨ia, rva, pa, hza⟩ := I1.list hqx
      obtain ⟨ib, rvb, pb, hzb⟩ := I1.list hqy
      have hIa := rva.ints
      have hIb := rvb.ints
      have lta : a < s1.heap.objs.size := pa.lt
      have ltb : b < s1.heap.objs.size := pb.lt
      refine call_zip_2 pa.isList pb.isList fun h2 hz hTI hTO h1 h2' hsz hk => args_nil ?_
      have D := PySem.W.ktu_apart s1.heap.objs.size a b lta ltb
      have hn : s1.heap.objs.size + 4 < h2.objs.size ∧ s1.heap.objs.size + 2 < h2.objs.size ∧ s1.heap.objs.size + 3 < h2.objs.size ∧ s1.heap.objs.size < h2.objs.size ∧ s1.heap.objs.size + 1 < h2.objs.size ∧ a < h2.objs.size ∧ b < h2.objs.size := by
        rw [hsz]
        exact ⟨Nat.lt_succ_self _, Nat.add_lt_add_left (by decide) _, Nat.add_lt_add_left (by decide) _, Nat.lt_add_of_pos_right (by decide), Nat.add_lt_add_left (by decide) _, Nat.lt_add_right _ lta, Nat.lt_add_right _ ltb⟩
      have hxl : xs.length ≤ sizeLine := by simpa using hza
      have zs : ZS h2 (s1.heap.objs.size + 4) (s1.heap.objs.size + 2) (s1.heap.objs.size + 3) s1.heap.objs.size (s1.heap.objs.size + 1) a b h2.objs.size ia.toArray ib.toArray 0 :=
        ⟨.inl hz, hTI, ⟨_, _, hTO⟩, h1, h2', pa.isList.at fun o e => hk _ _ e, pb.isList.at fun o e => hk _ _ e⟩
      have old : ∀ b' o, s1.heap.get? b' = some o → b' ≠ s1.heap.objs.size + 4 ∧ b' ≠ s1.heap.objs.size + 3 ∧ b' ≠ s1.heap.objs.size ∧ b' ≠ s1.heap.objs.size + 1 := fun b' o e => by
        have hlt := Heap.lt_size e
        exact ⟨Nat.ne_of_lt (Nat.lt_add_right _ hlt), Nat.ne_of_lt (Nat.lt_add_right _ hlt), Nat.ne_of_lt hlt, Nat.ne_of_lt (Nat.lt_add_right _ hlt)⟩
      refine sorted_tups_from (s := { s1 with heap := h2 }) (Kp := fun b' => b' ≠ s1.heap.objs.size + 4 ∧ b' ≠ s1.heap.objs.size + 3 ∧ b' ≠ s1.heap.objs.size ∧ b' ≠ s1.heap.objs.size + 1) (Nw := fun t => h2.objs.size < t) (ps := xs.zip ys) (by rw [List.length_zip]; omega)
        (fun hR => zip_collect (s := { s1 with heap := h2 }) (A := X.A.in1) (X := xs) (Y := ys) hr.hd D hn ⟨D.l1z, D.l1TO, D.l1i1, D.l1i2⟩ ⟨D.l2z, D.l2TO, D.l2i1, D.l2i2⟩ (by simpa using hIa) (by simpa using hIb) hxy hxl hz zs fun h' ts kp hP hts hlt => hR h' s1.toks ts (fun b' o hb e => kp b' o hb.1 hb.2.1 hb.2.2.1 hb.2.2.2 e) (Nat.le_of_lt hlt) hP hts)
        fun L h' tk ep ts' ps' hL k2 hLl hT' hp hsrt hN => ?_
      have hL0 : h2.objs.size ≤ L := hL
      have hs12 : s1.heap.objs.size ≤ h2.objs.size := by rw [hsz]; exact Nat.le_add_right _ _
      have kk : ∀ b' o, s1.heap.get? b' = some o → h'.get? b' = some o := fun b' o e => k2 b' o (old b' o e) (hk _ _ e)
      have hL1 : s1.heap.get? L = none := Heap.get?_none_of_le (Nat.le_trans hs12 hL0)
      have ht1 : ∀ t ∈ ts', s1.heap.get? t = none := fun t ht => Heap.get?_none_of_le (Nat.le_trans hs12 (Nat.le_of_lt (hN t ht).1))
      obtain ⟨hk1, hk2⟩ := tup_keys hT'
      have hll : (ts'.map V.ref).length ≤ sizeLine := by
        rw [List.length_map, ErP.paired_len hT', hp.length_eq, List.length_zip]
        omega
      have I2 := I1.many (G := fun b' => if b' = L then some (.lst (ts'.map V.ref)) else if b' ∈ ts' then some (.tup [.int (keyOfT h' b').1, .int (keyOfT h' b').2]) else none) (t' := tk) kk (fun b' o ee => by
        by_cases z1 : b' = L
        · rw [z1]; exact hL1
        · rw [if_neg z1] at ee
          by_cases z2 : b' ∈ ts'
          · exact ht1 b' z2
          · rw [if_neg z2] at ee; cases ee) (fun b' o ee => by
        by_cases z1 : b' = L
        · rw [if_pos z1] at ee
          cases ee
          rw [z1]
          exact ⟨hll, ts'.map Value.ref, ep, vals_refs ts', by simpa [seqObj] using hLl⟩
        · rw [if_neg z1] at ee
          by_cases z2 : b' ∈ ts'
          · rw [if_pos z2] at ee
            cases ee
            obtain ⟨oo, n, t1, t2, g1, g2, g3⟩ := hk2 b' z2
            exact ⟨by show 2 ≤ sizeLine; decide, [_, _], .cons ⟨t1, rfl⟩ (.cons ⟨t2, rfl⟩ .nil), oo, g1, g2, n, g3⟩
          · rw [if_neg z2] at ee; cases ee)
      refine ⟨.ref L, _, I2, rfl, q _ L ts' ps' Same.ext hp hsrt (ErP.paired_of (ErP.paired_len hT') fun i t pp e1 e3 => ?_) (by rw [ext_new (I1.none_of hL1), if_pos rfl]) (I1.none_of hL1)⟩
      have hm := List.mem_of_getElem? e1
      rw [ext_new (I1.none_of (ht1 t hm)), if_neg (hN t hm).2, if_pos hm]
      rw [hk1, List.getElem?_map, e1] at e3
      cases Option.some.inj e3
      rfl
end
end L2
end
section
set_option Elab.async false
set_option linter.all false
set_option maxRecDepth 100000
set_option maxHeartbeats 4000000
namespace L2
open PySem PySem.Spec PyProof.Rows
end L2
namespace ErP
open PySem PySem.Spec PyProof.Rows L2
open Er (IsK Lt2 okKind kindI cellI rowI bitsK mag valI formI ordI valKey ordKey nanK nanC vKey oKey cellK kindK)
open Lw (Fmt fmt)
theorem cellI_K {k : Nat} {c : Int} (h : cellI k c = true) : 0 ≤ c ∧ cellK k c.toNat := by
  unfold cellI bitsK at h
  simp only [Bool.and_eq_true, decide_eq_true_eq] at h
  refine ⟨h.1, ?_⟩
  unfold cellK
  have e : ((2 : Int) ^ (8 * Lw.sizeOf k)) = (((2 : Nat) ^ (8 * Lw.sizeOf k) : Nat) : Int) := by rw [Int.natCast_pow]; rfl
  rw [e] at h
  have h2 := h.2
  generalize (2 : Nat) ^ (8 * Lw.sizeOf k) = n at *
  have h3 : c.toNat < n := by omega
  exact h3
theorem ord_same {kind : Int} (hk : kindI kind = true) {a b : Int} (ca : cellI kind.toNat a = true) (cb : cellI kind.toNat b = true) (hv : valI kind.toNat a = valI kind.toNat b) (hab : b ≤ a) : ordI kind.toNat a ≤ ordI kind.toNat b := by
  obtain ⟨a0, cA⟩ := cellI_K ca
  obtain ⟨b0, cB⟩ := cellI_K cb
  unfold ordI valI at *
  unfold valKey at hv
  unfold ordKey
  cases hf : Lw.isFloat kind.toNat
  · rw [hf, if_neg (by decide), if_neg (by decide)] at hv
    rw [if_neg (by decide), if_neg (by decide), hv]
    exact Int.le_refl _
  · rw [hf, if_pos rfl, if_pos rfl] at hv
    rw [if_pos rfl, if_pos rfl]
    have hK := Er.isFloat_isK.mp hf
    cases na : nanC (fmt kind.toNat) a.toNat <;> cases nb : nanC (fmt kind.toNat) b.toNat <;> rw [na, nb] at hv <;> simp only [if_true, if_false, Bool.false_eq_true] at hv ⊢
    · have pa := Er.parts_eq hK cA
      have pb := Er.parts_eq hK cB
      unfold vKey at hv
      unfold oKey
      have hp : 0 < 2 ^ ((fmt kind.toNat).e + (fmt kind.toNat).m) := Nat.two_pow_pos _
      generalize 2 ^ ((fmt kind.toNat).e + (fmt kind.toNat).m) = P at *
      cases sa : Er.sOf (fmt kind.toNat) a.toNat <;> cases sb : Er.sOf (fmt kind.toNat) b.toNat <;> rw [sa] at hv pa <;> rw [sb] at hv pb <;> simp only [if_true, if_false, Bool.false_eq_true] at hv pa pb ⊢ <;> omega
    · have := (Er.keys_lt hK a.toNat).2
      omega
    · have := (Er.keys_lt hK b.toNat).2
      omega
    · exact Int.le_refl _
theorem cell_form {kind : Int} (hk : kindI kind = true) {c : Int} (h : cellI kind.toNat c = true) : cellI kind.toNat (formI kind.toNat c) = true := by
  obtain ⟨h0, hc⟩ := cellI_K h
  have hK := Er.kindI_K hk
  have h1 := Er.cellK_form (by unfold kindK at hK; omega) hc
  unfold cellI formI bitsK
  unfold cellK at h1
  have e : ((2 : Int) ^ (8 * Lw.sizeOf kind.toNat)) = (((2 : Nat) ^ (8 * Lw.sizeOf kind.toNat) : Nat) : Int) := by rw [Int.natCast_pow]; rfl
  rw [e]
  simp only [Bool.and_eq_true, decide_eq_true_eq]
  exact ⟨Int.natCast_nonneg _, Int.ofNat_lt.mpr h1⟩
/-- cells in order: by value, and the greater of two alike first -/
theorem order_of {kind : Int} (hk : kindI kind = true) {l : List Int} (hl : ∀ c ∈ l, cellI kind.toNat c = true) {ps : List (Int × Int)} (hp : ps.Perm ((l.map (valI kind.toNat)).zip (l.map fun c => -c))) (hs : ps.Pairwise lexLe) :
    (ps.map fun p => -p.2).Perm l ∧ (ps.map fun p => -p.2).Pairwise fun a b => ordI kind.toNat a ≤ ordI kind.toNat b := by
  have hz : ∀ l : List Int, ((l.map (valI kind.toNat)).zip (l.map fun c => -c)) = l.map fun c => (valI kind.toNat c, -c) := fun l => by
    induction l with
    | nil => rfl
    | cons c l ih => rw [List.map_cons, List.map_cons, List.map_cons, List.zip_cons_cons, ih]
  rw [hz] at hp
  constructor
  · have := hp.map fun p => -p.2
    rw [List.map_map] at this
    have e : l.map ((fun p : Int × Int => -p.2) ∘ fun c => (valI kind.toNat c, -c)) = l := map_id_of fun c _ => by show - -c = c; omega
    rw [e] at this
    exact this
  · rw [List.pairwise_map]
    have hmem : ∀ p ∈ ps, ∃ c ∈ l, p = (valI kind.toNat c, -c) := fun p h => by
      obtain ⟨c, hc, e⟩ := List.mem_map.mp (hp.mem_iff.mp h)
      exact ⟨c, hc, e.symm⟩
    refine List.Pairwise.imp_of_mem (fun {p q} hp1 hq1 hle => ?_) hs
    obtain ⟨c, hc, rfl⟩ := hmem p hp1
    obtain ⟨d, hd, rfl⟩ := hmem q hq1
    show ordI kind.toNat (- -c) ≤ ordI kind.toNat (- -d)
    rw [Int.neg_neg, Int.neg_neg]
    rcases hle with h | ⟨h1, h2⟩
    · exact Int.le_of_lt (Er.val_ord h)
    · have h2 : -c ≤ -d := h2
      exact ord_same hk (hl c hc) (hl d hd) h1 (by omega)
section
variable (K : PySem.W.Frag) (C N : Addr)
def sp_in_order : Sp := fun vs H Q _ => ∃ (kind : Int) (a : Addr) (x : List Int), vs = [.int kind, .ref a] ∧ kindI kind = true ∧ rowI kind.toNat 4096 x = true ∧ SqL K H a (x.map V.int) ∧
  ∀ (H' : Hp) (q : Addr) (r : List Int), Same H H' → r.Perm (x.map (formI kind.toNat)) → (r.Pairwise fun a b => ordI kind.toNat a ≤ ordI kind.toNat b) → H' q = some (.lst (r.map V.int)) → H q = none → Q (.ref q) H'
end
end ErP
end
section
set_option Elab.async false
set_option linter.all false
set_option maxRecDepth 100000
set_option maxHeartbeats 4000000
namespace L2
open PySem PySem.Spec PyProof.Rows
theorem size_two (m : Nat) : Builtin.Range.rangeSize 0 (((2 * m : Nat) : Nat) : Int) 2 = (m : Int) := by
  unfold Builtin.Range.rangeSize
  rw [if_pos (by decide)]
  split <;> omega
theorem small_two {j n : Int} (h0 : 0 ≤ j) (h1 : j ≤ 17000) (hn : Builtin.Range.rangeSize 0 j 2 = n) (n0 : 0 ≤ n) (n1 : n ≤ 8500) : Builtin.Range.small 0 j 2 = true := by
  unfold Builtin.Range.small
  rw [hn]
  have c : (2 : Int) > 0 := by decide
  unfold Builtin.Range.rangeFitsLong
  simp only [Bool.and_eq_true, Bool.or_eq_true, decide_eq_true_eq]
  rw [if_pos c]
  simp only [Bool.and_eq_true, decide_eq_true_eq]
  omega
theorem rgC_two {m : Nat} (h : m ≤ 8500) : RgC 0 (((2 * m : Nat) : Nat) : Int) 2 m :=
  ⟨by decide, by decide, small_two (by omega) (by omega) (size_two m) (by omega) (by omega), size_two m⟩
/-- [elt for i in range(lo, .., c)], the items told by a relation that stays -/
theorem er_lccR {lo c : Int} {n : Nat} {σ : St} {H : Hp} {Q : VK} {s : Nat} {te : TE} (R : Addr → Nat → V → Hp → Prop)
    (hR1 : ∀ D i y H H', Same H H' → R D i y H → R D i y H') (hR2 : ∀ D i y H l, R D i y H → R D i y (upd H D (.lst l))) (hlen : n < sizeLine)
    (helt : ∀ (D : Addr) (acc : List V) (i : Nat) (H' : Hp) (Q' : VK), i < n → Same H H' → H' D = some (.lst acc) → H D = none → (∀ y H'', Same H' H'' → R D i y H'' → Q' y H'') → te ((wipe σ [s]).set s (some (.int (lo + (i : Nat) * c)))) H' Q')
    (hq : ∀ (H' : Hp) (D : Addr) (ys : List V), Same H H' → ys.length = n → (∀ (i : Nat) y, ys[i]? = some y → R D i y H') → H' D = some (.lst ys) → H D = none → Q (.ref D) H') :
    LcIn (Itc lo c n) (gName s) tYes te [s] σ Q H := by
  intro D hD
  refine ⟨fun i m H' => i + m = n ∧ Same H H' ∧ ∃ ys : List V, ys.length = i ∧ (∀ (j : Nat) y, ys[j]? = some y → R D j y H') ∧ H' D = some (.lst ys), ⟨n, by omega, Same.upd hD, [], rfl, fun j y e => by simp at e, upd_same⟩, ?_⟩
  rintro i m H' ⟨him, sm, ys, hys, hR, hd⟩
  by_cases hi : i < n
  · refine Or.inr ⟨hi, fun H'' => Same H H'' ∧ ∃ ys : List V, ys.length = i + 1 ∧ (∀ (j : Nat) y, ys[j]? = some y → R D j y H'') ∧ H'' D = some (.lst ys), ?_, ?_⟩
    · rintro H'' ⟨s2, d2⟩
      exact ⟨m - 1, by omega, by omega, s2, d2⟩
    · rintro z H2 ⟨rfl, rfl⟩
      refine ⟨?_, ?_⟩
      · show (((σ.set s none).set s (some _)).set s none) = σ.set s none
        rw [List.set_set, List.set_set]
      · refine tYes_ok ?_
        refine helt D ys i H2 _ hi sm hd hD fun y H'' s3 hy => ?_
        refine ⟨ys, s3 _ _ hd, by omega, fun b o e => by rw [upd_ne (ne_of_none e hD)]; exact s3 _ _ (sm _ _ e), ys ++ [y], by simp [hys], ?_, upd_same⟩
        intro j z hz
        by_cases hj : j < ys.length
        · rw [List.getElem?_append_left hj] at hz
          exact hR2 _ _ _ _ _ (hR1 _ _ _ _ _ s3 (hR j z hz))
        · rw [List.getElem?_append_right (by omega)] at hz
          have ej : j - ys.length = 0 := by
            have := (List.getElem?_eq_some_iff.mp hz).1
            simp at this
            omega
          rw [ej] at hz
          have ez : y = z := Option.some.inj hz
          subst ez
          have e2 : j = i := by omega
          subst e2
          exact hR2 _ _ _ _ _ hy
  · refine Or.inl ⟨by show n ≤ i; omega, ?_⟩
    exact hq H' D ys sm (by omega) hR hd hD
end L2
namespace ErP
open PySem PySem.Spec PyProof.Rows L2
open Er (IsK Lt2 rnd depth okKind kindI cellI rowI rowOk refuseV bitsK mag numI unitI valI formI ordI nanC cellK kindK fracs fracsOk fracsRight quantOk quantC quantK)
open Lw (Fmt fmt)
theorem fracs_len : ∀ {m : Nat} {q : List Int}, q.length = 2 * m → (fracs q).length = m
  | 0, [], _ => rfl
  | 0, _ :: _, h => by simp at h
  | m + 1, [], h => by simp at h
  | m + 1, [_], h => by simp at h; omega
  | m + 1, a :: b :: q, h => by
    show (fracs q).length + 1 = m + 1
    rw [fracs_len (m := m) (q := q) (by simp at h; omega)]
theorem fracs_get : ∀ {i : Nat} {q : List Int} {p : Int × Int}, (fracs q)[i]? = some p → q[2 * i]? = some p.1 ∧ q[2 * i + 1]? = some p.2
  | i, [], p, h => by simp [fracs] at h
  | i, [_], p, h => by simp [fracs] at h
  | 0, a :: b :: q, p, h => by
    have e : (a, b) = p := Option.some.inj h
    subst e
    exact ⟨rfl, rfl⟩
  | i + 1, a :: b :: q, p, h => by
    obtain ⟨h1, h2⟩ := fracs_get (i := i) (q := q) (p := p) h
    have e1 : 2 * (i + 1) = 2 * i + 1 + 1 := by omega
    rw [e1]
    exact ⟨h1, h2⟩
theorem fracs_all {g : Int → Bool} : ∀ {m : Nat} {q : List Int}, q.length = 2 * m → ((fracs q).all fun p => g p.1 && g p.2) = q.all g
  | 0, [], _ => rfl
  | 0, _ :: _, h => by simp at h
  | m + 1, [], h => by simp at h
  | m + 1, [_], h => by simp at h; omega
  | m + 1, a :: b :: q, h => by
    show ((g a && g b) && (fracs q).all fun p => g p.1 && g p.2) = (g a && (g b && q.all g))
    rw [fracs_all (m := m) (q := q) (by simp at h; omega), Bool.and_assoc]
def betw (f : Fmt) (x y : Int) : Int := if x = (f.nanBits : Int) ∨ y = (f.nanBits : Int) then (f.nanBits : Int) else if numI f x = true then y else if numI f y = true ∨ x = y then x else (f.nanBits : Int)
def quantR (kind : Int) (x q : List Int) : Int := if quantOk kind x q = true then (if fracsRight (fracs q) = true then (if x.length = 0 then -4 else 0) else -2) else -1
section
variable (K : PySem.W.Frag) (C N : Addr)
def sp_quantile_refusal : Sp := fun vs H Q _ => ∃ (kind : Int) (a b : Addr) (x q : List Int) (m : Nat), vs = [.int kind, .ref a, .ref b] ∧ SqL K H a (x.map V.int) ∧ SqL K H b (q.map V.int) ∧ x.length ≤ 4200 ∧ q.length = 2 * m ∧ m ≤ 4200 ∧ (∀ c ∈ q, 0 ≤ c) ∧ ∀ H' : Hp, Same H H' → Q (.int (quantR kind x q)) H'
def sp_between_no_numbers : Sp := fun vs H Q _ => ∃ (s : Addr) (k : Nat) (x y : Int), vs = [.ref s, .int x, .int y] ∧ ShapeAt C H s k ∧ 0 ≤ x ∧ 0 ≤ y ∧ Q (.int (betw (fmt k) x y)) H
def sp_quantile : Sp := fun vs H Q _ => ∃ (s L : Addr) (k : Nat) (r : List Int) (p : Int × Int), vs = [.ref s, .ref L, .int p.1, .int p.2] ∧ ShapeAt C H s k ∧ SqL K H L (r.map V.int) ∧ 0 < r.length ∧ r.length ≤ 4096 ∧ (∀ c ∈ r, cellI k c = true ∧ formI k c = c) ∧ 0 ≤ p.1 ∧ p.1 ≤ p.2 ∧ 0 < p.2 ∧ p.2 < 2 ^ 32 ∧
  ∀ (H' : Hp) (t : Addr), Same H H' → H' t = some (.lst [.int (quantC k r p).1, .int (quantC k r p).2]) → H t = none → Q (.ref t) H'
def sp_quant : Sp := fun vs H Q _ => ∃ (kind : Int) (a b : Addr) (x q : List Int) (m : Nat), vs = [.int kind, .ref a, .ref b] ∧ SqL K H a (x.map V.int) ∧ SqL K H b (q.map V.int) ∧ x.length ≤ 4200 ∧ q.length = 2 * m ∧ m ≤ 4200 ∧ 0 ≤ kind ∧ (∀ c ∈ x, 0 ≤ c) ∧ (∀ c ∈ q, 0 ≤ c) ∧
  ∀ (H' : Hp) (t : Addr), H' t = some (.lst ((PyWrlwbd.quant kind x q).map V.int)) → Q (.ref t) H'
end
/-- a formed cell that isn't a number: none, or infinite -/
theorem not_num {k : Nat} (hk : IsK k) {c : Int} (hc : cellI k c = true) (hf : formI k c = c) :
    (nanC (fmt k) c.toNat = true ↔ c = ((fmt k).nanBits : Int)) ∧ (numI (fmt k) c = false → nanC (fmt k) c.toNat = false → mag (fmt k) c.toNat = (fmt k).infBits) := by
  obtain ⟨h0, hcK⟩ := cellI_K hc
  rw [form_float hk h0] at hf
  unfold nanC
  constructor
  · rw [decide_eq_true_eq]
    constructor
    · intro z
      rw [if_pos z] at hf
      exact hf.symm
    · intro z
      have hn := (Er.nanBits_lt hk)
      have e : c.toNat = (fmt k).nanBits := by omega
      have e2 : mag (fmt k) (fmt k).nanBits = (fmt k).nanBits := Nat.mod_eq_of_lt hn.1
      rw [e, e2]
      exact hn.2.1
  · intro z1 z2
    have h1 := Er.mag_inf (f := fmt k) c.toNat
    have h2 : (fmt k).infBits ≤ mag (fmt k) c.toNat := h1.mp z1
    have h3 := of_decide_eq_false z2
    omega
theorem betw_eq {k : Nat} (hk : IsK k) {x y : Int} (cx : cellI k x = true) (fx : formI k x = x) (cy : cellI k y = true) (fy : formI k y = y) (hn : ¬ (numI (fmt k) x = true ∧ numI (fmt k) y = true)) :
    (if nanC (fmt k) x.toNat = true ∨ nanC (fmt k) y.toNat = true then (0, ((fmt k).nanBits : Int))
      else if Er.isNum (fmt k) x.toNat = false ∧ Er.isNum (fmt k) y.toNat = false then (if Er.sOf (fmt k) x.toNat = Er.sOf (fmt k) y.toNat then (0, ((x.toNat : Nat) : Int)) else (0, ((fmt k).nanBits : Int)))
      else if Er.isNum (fmt k) x.toNat = false then (0, ((x.toNat : Nat) : Int)) else (0, ((y.toNat : Nat) : Int)) : Int × Int) = (0, betw (fmt k) x y) := by
  obtain ⟨x0, cX⟩ := cellI_K cx
  obtain ⟨y0, cY⟩ := cellI_K cy
  obtain ⟨nx, mx⟩ := not_num hk cx fx
  obtain ⟨ny, my⟩ := not_num hk cy fy
  have ex : ((x.toNat : Nat) : Int) = x := by omega
  have ey : ((y.toNat : Nat) : Int) = y := by omega
  rw [ex, ey]
  by_cases c1 : nanC (fmt k) x.toNat = true ∨ nanC (fmt k) y.toNat = true
  · rw [if_pos c1]
    unfold betw
    rw [if_pos (c1.imp nx.mp ny.mp)]
  · have hb : betw (fmt k) x y = if numI (fmt k) x = true then y else if numI (fmt k) y = true ∨ x = y then x else ((fmt k).nanBits : Int) := by
      unfold betw
      rw [if_neg (fun z => c1 (z.imp nx.mpr ny.mpr))]
    rw [if_neg c1, hb]
    unfold numI at *
    have n1 : nanC (fmt k) x.toNat = false := by
      cases h : nanC (fmt k) x.toNat
      · rfl
      · exact absurd (Or.inl h) c1
    have n2 : nanC (fmt k) y.toNat = false := by
      cases h : nanC (fmt k) y.toNat
      · rfl
      · exact absurd (Or.inr h) c1
    cases hx : Er.isNum (fmt k) x.toNat <;> cases hy : Er.isNum (fmt k) y.toNat
    · have m1 := mx hx n1
      have m2 := my hy n2
      have px := Er.parts_eq hk cX
      have py := Er.parts_eq hk cY
      rw [m1] at px
      rw [m2] at py
      simp only [and_self, if_true, Bool.false_eq_true, if_false, false_or]
      by_cases sg : Er.sOf (fmt k) x.toNat = Er.sOf (fmt k) y.toNat
      · rw [sg, ← py] at px
        rw [if_pos sg, if_pos (show x = y by omega)]
      · rw [if_neg sg, if_neg (fun z => sg (by rw [z]))]
    · simp
    · simp
    · exact absurd ⟨hx, hy⟩ hn
theorem form_idem {kind : Int} (hk : kindI kind = true) {c : Int} (h : cellI kind.toNat c = true) : formI kind.toNat (formI kind.toNat c) = formI kind.toNat c := by
  have hK := Er.kindI_K hk
  unfold formI
  rw [Int.toNat_natCast, Er.form_form (by unfold kindK at hK; omega)]
theorem quantC_flag (k : Nat) (r : List Int) (f : Int × Int) : 0 ≤ (quantC k r f).1 := by
  unfold quantC quantK
  dsimp only
  split
  · exact Int.le_refl _
  · split
    · exact rnd_flag _ _ _
    · split
      · exact Int.le_refl _
      · split
        · split <;> exact Int.le_refl _
        · split <;> exact Int.le_refl _
theorem getD_nats (r : List Int) (i : Nat) : (BdNeutral.nats r).getD i 0 = (r.getD i 0).toNat := by
  unfold BdNeutral.nats
  rw [List.getD_eq_getElem?_getD, List.getD_eq_getElem?_getD, List.getElem?_map]
  cases r[i]? <;> rfl
end ErP
end
section
set_option Elab.async false
set_option linter.all false
set_option maxRecDepth 100000
set_option maxHeartbeats 4000000
namespace ErP
open PySem PySem.Spec PyProof.Rows L2
open Er (IsK Lt2 rnd byP near kept prt mult size rsize small depth cellOk numI unitI rowOk refuseV okKind kindI cellI rowI bitsK mag valI formI ordI fracs fracsOk fracsRight quantOk quantC quantK)
open Lw (Fmt fmt Four turnWord mill millRound drawBelow tried triesFrom W32)
def top (i : Nat) : Stmt := PySem.Challenge.pw_exactrows_s04_quant.main.body.getD i (.Pass ⟨0, 0, 0, 0⟩)
structure Txt (P : Program) (w : World) (K : PySem.W.Frag) (mg : Str → Option Value) (C N : Addr) : Prop where
  cl : Cls K C
  a_m : NoAttr K C "fraction_bits"
  a_s : NoAttr K C "sign"
  a_i : NoAttr K C "infinite"
  a_n : NoAttr K C "none"
  a_l : NoAttr K C "least_power"
  a_u : NoAttr K C "unit_depth"
  n_abs : mg "abs" = none
  n_all : mg "all" = none
  n_any : mg "any" = none
  n_len : mg "len" = none
  n_list : mg "list" = none
  n_max : mg "max" = none
  n_range : mg "range" = none
  n_sorted : mg "sorted" = none
  n_zip : mg "zip" = none
  g_NONE_PLACE : ∃ t, mg "NONE_PLACE" = some (.int 18446744073709551616 t)
  g_TOO_GREAT : ∃ t, mg "TOO_GREAT" = some (.int 4 t)
  g_TOO_SMALL : ∃ t, mg "TOO_SMALL" = some (.int 8 t)
  g_NOT_EXACT : ∃ t, mg "NOT_EXACT" = some (.int 16 t)
  g_MOST_CELLS : ∃ t, mg "MOST_CELLS" = some (.int 4096 t)
  g_MOST_FRACTIONS : ∃ t, mg "MOST_FRACTIONS" = some (.int 4096 t)
  g_WORD_END : ∃ t, mg "WORD_END" = some (.int 4294967296 t)
  g_WRONG_FORM : ∃ t, mg "WRONG_FORM" = some (.int (-1) t)
  g_WRONG_ORDER : ∃ t, mg "WRONG_ORDER" = some (.int (-2) t)
  g_NOTHING_TO_TELL : ∃ t, mg "NOTHING_TO_TELL" = some (.int (-4) t)
  t_S : TabI P w K mg "SIGNED_KINDS" kvS
  t_U : TabI P w K mg "UNSIGNED_KINDS" kvU
  t_F : TabF P w K mg
section
variable {P : Program} {w : World} {K : PySem.W.Frag} {mg : Str → Option Value} {base : Heap} {C N : Addr}
abbrev s_is_floating : Stmt := top 7
theorem sc_is_floating : FnScope ["kind"] ["kind"] (defScope s_is_floating) := ⟨rfl, rfl, rfl, by decide +kernel, rfl, by decide +kernel, by decide +kernel⟩
theorem ok_is_floating {f : Addr} {fd : FuncData} (F : Fun K "is_floating" "is_floating" s_is_floating f fd) (T : Txt P w K mg C N) :
    FnOk P w K mg base CX0 1 f fd ["kind"] (sp_is_floating) := by
  refine F.ok sc_is_floating (fun vs H Q E h => ?_) (fun cdv A outer s H vs Q E hr h => ?_)
  · obtain ⟨kind, rfl, _⟩ := h
    rfl
  · obtain ⟨kind, rfl, q⟩ := h
    obtain ⟨DF, a9, a10, a11, a12, g_FLOATING_KINDS, dF, t9, t10, t11, t12⟩ := T.t_F
    refine ⟨_, (pss_one (ps_ret (pe_cmp (pc_dinK (pv 0) (pe_globR (by rfl) g_FLOATING_KINDS))))), ?_⟩
    refine ⟨_, rfl, DF, _, Sum.inl kind, rfl, rfl, dF, ?_⟩
    try dsimp only
    rw [val_F]
    exact q
abbrev s_bits_of : Stmt := top 9
theorem sc_bits_of : FnScope ["kind", "parts"] ["kind"] (defScope s_bits_of) := ⟨rfl, rfl, rfl, by decide +kernel, rfl, by decide +kernel, by decide +kernel⟩
theorem ok_bits_of {f : Addr} {fd : FuncData} (F : Fun K "bits_of" "bits_of" s_bits_of f fd) (T : Txt P w K mg C N) :
    FnOk P w K mg base CX0 1 f fd ["kind"] (sp_bits_of) := by
  refine F.ok sc_bits_of (fun vs H Q E h => ?_) (fun cdv A outer s H vs Q E hr h => ?_)
  · obtain ⟨kind, rfl, _⟩ := h
    rfl
  · obtain ⟨kind, rfl, hk, q⟩ := h
    obtain ⟨DS, g_SIGNED_KINDS, dS⟩ := T.t_S
    obtain ⟨DU, g_UNSIGNED_KINDS, dU⟩ := T.t_U
    obtain ⟨DF, a9, a10, a11, a12, g_FLOATING_KINDS, dF, t9, t10, t11, t12⟩ := T.t_F
    refine ⟨_, (pss_cons (ps_if (pt_cmp (pc_dinK (pv 0) (pe_globR (by rfl) g_SIGNED_KINDS))) (pss_one (ps_ret (pe_dgetK (pe_globR (by rfl) g_SIGNED_KINDS) (pv 0) (fun _ _ => rfl)))) pss_nil) (pss_cons (ps_if (pt_cmp (pc_dinK (pv 0) (pe_globR (by rfl) g_UNSIGNED_KINDS))) (pss_one (ps_ret (pe_dgetK (pe_globR (by rfl) g_UNSIGNED_KINDS) (pv 0) (fun _ _ => rfl)))) pss_nil) (pss_cons (ps_set (i := 1) sc_bits_of.nd rfl (by first | exact Or.inl rfl | exact Or.inr rfl) (pe_dgetK (pe_globR (by rfl) g_FLOATING_KINDS) (pv 0) (fun _ _ => rfl))) (pss_one (ps_ret (pe_op op_add (pe_op op_add pe_int (pe_ix (show IxR _ (rIxT K) from ix_tup) (pv 1) pe_int (fun _ _ => rfl))) (pe_ix (show IxR _ (rIxT K) from ix_tup) (pv 1) pe_int (fun _ _ => rfl)))))))), ?_⟩
    refine ⟨_, rfl, DS, _, Sum.inl kind, rfl, rfl, dS, ?_⟩
    try dsimp only
    rw [val_S]
    refine ⟨_, rfl, ite2 (fun c => ?_) (fun c => ?_)⟩
    · exact ⟨_, rfl, DS, _, Sum.inl kind, _, rfl, rfl, dS, get_S c, q⟩
    · refine ⟨_, rfl, DU, _, Sum.inl kind, rfl, rfl, dU, ?_⟩
      try dsimp only
      rw [val_U]
      refine ⟨_, rfl, ite2 (fun c2 => ?_) (fun c2 => ?_)⟩
      · exact ⟨_, rfl, DU, _, Sum.inl kind, _, rfl, rfl, dU, get_U c2, q⟩
      · have hf : okKind kind = true := by
          rw [kind_parts] at hk
          unfold wholeK at hk
          simpa [c, c2] using hk
        obtain ⟨ak, hv, hsq⟩ := get_F t9 t10 t11 t12 hf
        refine ⟨_, rfl, DF, _, Sum.inl kind, _, rfl, rfl, dF, hv, ?_⟩
        refine ⟨_, rfl, _, _, _, _, rfl, rfl, hsq _, rfl, _, _, rfl, rfl, _, rfl, _, _, _, _, rfl, rfl, hsq _, rfl, _, _, rfl, rfl, ?_⟩
        try dsimp only
        rw [bits_F hf]
        exact q
abbrev s_are_cells : Stmt := top 10
theorem sc_are_cells : FnScope ["kind", "numbers", "end", "number"] ["kind", "numbers"] (defScope s_are_cells) := ⟨rfl, rfl, rfl, by decide +kernel, rfl, by decide +kernel, by decide +kernel⟩
def lc_are_cells_0 : Scope := { kind := PySem.ScopeKind.function, names := [ (PySem.Str.ofString ".0", PySem.NameKind.local), (PySem.Str.ofString "number", PySem.NameKind.local), (PySem.Str.ofString "end", PySem.NameKind.free)], isGenerator := false, isCoroutine := false, more := [] : PySem.Scope }
theorem blk_lc_are_cells_0 : BlkOk ["kind", "numbers", "end", "number"] (defScope s_are_cells) lc_are_cells_0 [("number", 3)] := ⟨rfl, by decide +kernel, by decide +kernel, by decide +kernel, by decide +kernel⟩
theorem ok_are_cells {f : Addr} {fd : FuncData} (F : Fun K "are_cells" "are_cells" s_are_cells f fd) (T : Txt P w K mg C N)
    (c_bits_of : Callee P w K mg base 1 "bits_of" ["kind"] (sp_bits_of)) :
    FnOk P w K mg base CX0 2 f fd ["kind", "numbers"] (sp_are_cells K) := by
  refine F.ok sc_are_cells (fun vs H Q E h => ?_) (fun cdv A outer s H vs Q E hr h => ?_)
  · obtain ⟨kind, a, x, rfl, _⟩ := h
    rfl
  · obtain ⟨kind, a, x, rfl, hk, hl, hn, q⟩ := h
    refine ⟨_, (pss_cons (ps_set (i := 2) sc_are_cells.nd rfl (by first | exact Or.inl rfl | exact Or.inr rfl) (pe_op op_shlB pe_int (pe_callC c_bits_of (hr.mono (by decide)) (by rfl) (pa_cons (pv 0) pa_nil)))) (pss_one (ps_ret (pe_callB (cr_all rfl) (by rfl) T.n_all boot_all1 (pa_cons (pe_lc rfl sc_are_cells.nd (pi_list (pv 1)) (blk_lc_are_cells_0) (fun _ _ _ _ _ => pg_name (i := 3) sc_are_cells.nd rfl (Or.inl rfl) (by first | exact Or.inl rfl | exact Or.inr rfl)) (fun _ _ _ _ _ => pts_nil) (fun _ _ _ _ _ => (pe_chain op_le op_lt pe_int (pv 3) (pv 2)))) pa_nil))))), ?_⟩
    have hb := bits_le hk
    refine ⟨_, rfl, kind, rfl, hk, _, _, rfl, rfl, ⟨by omega, 1, lt1 1 (by decide), by omega⟩, ?_⟩
    try dsimp only
    rw [Int.one_mul, Int.toNat_natCast]
    try dsimp only [tRet, tCB, tCons, tNil, tSeq, tAsg, gName, tIfS, tNot, tB, tNext, sFld]
    refine tLc_in ?_
    refine ⟨_, rfl, a, rfl, ⟨_, hl⟩, ?_⟩
    refine er_lc (vI fun c => .bl (cellI kind.toNat c)) hl (len_ltM hn) (fun i y H' Q' hi sm q' => ?_) (fun H' D sm hd hD => ?_)
    · obtain ⟨c, hc, rfl⟩ := get_map hi
      have q'' := q' _ (Same.refl _)
      unfold vI cellI at q''
      refine ⟨_, rfl, _, _, rfl, rfl, _, rfl, ite2 (fun c1 => ?_) (fun c1 => ?_)⟩
      · dsimp only at q''
        rw [c1, Bool.true_and] at q''
        exact ⟨_, rfl, _, _, rfl, rfl, q''⟩
      · rw [Bool.not_eq_true] at c1
        dsimp only at q''
        rw [c1, Bool.false_and] at q''
        exact q''
    · rw [map_vI] at hd
      refine ⟨D, x.map (cellI kind.toNat), rfl, SqL.of (by rw [hd, List.map_map]; rfl), ?_⟩
      have e : (x.map (cellI kind.toNat)).all id = x.all (cellI kind.toNat) := by rw [List.all_map]; rfl
      try dsimp only
      rw [e]
      exact q H' sm
abbrev s_cells_refusal : Stmt := top 42
theorem sc_cells_refusal : FnScope ["kind", "cells", "most_cells"] ["kind", "cells", "most_cells"] (defScope s_cells_refusal) := ⟨rfl, rfl, rfl, by decide +kernel, rfl, by decide +kernel, by decide +kernel⟩
theorem ok_cells_refusal {f : Addr} {fd : FuncData} (F : Fun K "cells_refusal" "cells_refusal" s_cells_refusal f fd) (T : Txt P w K mg C N)
    (c_are_cells : Callee P w K mg base 2 "are_cells" ["kind", "numbers"] (sp_are_cells K)) :
    FnOk P w K mg base CX0 3 f fd ["kind", "cells", "most_cells"] (sp_cells_refusal K) := by
  refine F.ok sc_cells_refusal (fun vs H Q E h => ?_) (fun cdv A outer s H vs Q E hr h => ?_)
  · obtain ⟨kind, a, x, most, rfl, _⟩ := h
    rfl
  · obtain ⟨kind, a, x, most, rfl, hk, hl, hn, q⟩ := h
    refine ⟨_, (pss_cons (ps_if (PW.pt (pw_or (pt_cmp (pc_gt (pe_callB call_len_seq (by rfl) T.n_len boot_len1 (pa_cons (pv 1) pa_nil)) (pv 2))) (pw_or1 (pt_not (pt_val (pe_callC c_are_cells (hr.mono (by decide)) (by rfl) (pa_cons (pv 0) (pa_cons (pv 1) pa_nil)))))))) (pss_one (ps_ret (pe_globI (by rfl) T.g_WRONG_FORM))) pss_nil) (pss_one (ps_ret pe_int))), ?_⟩
    unfold rowI at q
    have el : ((x.map V.int).length : Int) = (x.length : Int) := by rw [List.length_map]
    refine ⟨_, rfl, a, _, rfl, Or.inl hl, _, rfl, _, _, rfl, rfl, _, rfl, ite2 (fun c => ?_) (fun c => ?_)⟩
    · have c := of_decide_eq_true c
      rw [if_neg (by
        intro z
        simp only [Bool.and_eq_true, decide_eq_true_eq] at z
        omega)] at q
      exact iteT (q H (Same.refl H))
    · have c : ¬ ((most : Nat) : Int) < ((x.map V.int).length : Int) := fun z => c (decide_eq_true z)
      have e1 : decide (x.length ≤ most) = true := decide_eq_true (by omega)
      rw [e1, Bool.true_and] at q
      refine ⟨_, rfl, _, rfl, kind, a, x, rfl, hk, hl, hn, fun H' sm => ?_⟩
      refine ⟨_, rfl, ite2 (fun c2 => ?_) (fun c2 => ?_)⟩
      · have c2 : ¬ x.all (cellI kind.toNat) = true := by simpa using c2
        rw [if_neg c2] at q
        exact q H' sm
      · have c2 : x.all (cellI kind.toNat) = true := by simpa using c2
        rw [if_pos c2] at q
        exact q H' sm
abbrev s_numbers_refusal : Stmt := top 43
theorem sc_numbers_refusal : FnScope ["kind", "rows", "row"] ["kind", "rows"] (defScope s_numbers_refusal) := ⟨rfl, rfl, rfl, by decide +kernel, rfl, by decide +kernel, by decide +kernel⟩
theorem ok_numbers_refusal {f : Addr} {fd : FuncData} (F : Fun K "numbers_refusal" "numbers_refusal" s_numbers_refusal f fd) (T : Txt P w K mg C N)
    (c_is_floating : Callee P w K mg base 1 "is_floating" ["kind"] (sp_is_floating))
    (c_cells_refusal : Callee P w K mg base 3 "cells_refusal" ["kind", "cells", "most_cells"] (sp_cells_refusal K)) :
    FnOk P w K mg base CX0 4 f fd ["kind", "rows"] (sp_numbers_refusal K) := by
  refine F.ok sc_numbers_refusal (fun vs H Q E h => ?_) (fun cdv A outer s H vs Q E hr h => ?_)
  · obtain ⟨kind, a, as, xss, rfl, _⟩ := h
    rfl
  · obtain ⟨kind, a, as, xss, rfl, hl, hrows, hne, q⟩ := h
    refine ⟨_, (pss_cons (ps_if (pt_not (pt_val (pe_callC c_is_floating (hr.mono (by decide)) (by rfl) (pa_cons (pv 0) pa_nil)))) (pss_one (ps_ret (pe_globI (by rfl) T.g_WRONG_FORM))) pss_nil) (pss_cons (ps_for PassesOwn.never rfl (pi_list (pv 1)) (pg_name (i := 2) sc_numbers_refusal.nd rfl (Or.inl rfl) (by first | exact Or.inl rfl | exact Or.inr rfl)) (pss_one (ps_if (PW.pt (pw_or (pt_cmp (pc_neI (pe_callB call_len_seq (by rfl) T.n_len boot_len1 (pa_cons (pv 2) pa_nil)) (pe_callB call_len_seq (by rfl) T.n_len boot_len1 (pa_cons (pe_ix (show IxR _ (rIxL K) from ix_list) (pv 1) pe_int (fun _ _ => rfl)) pa_nil)))) (pw_or1 (pt_cmp (pc_neI (pe_callC c_cells_refusal (hr.mono (by decide)) (by rfl) (pa_cons (pv 0) (pa_cons (pv 2) (pa_cons (pe_globI (by rfl) T.g_MOST_CELLS) pa_nil)))) pe_int))))) (pss_one (ps_ret (pe_globI (by rfl) T.g_WRONG_FORM))) pss_nil))) (pss_cons (ps_if (pt_cmp (pc_eqI (pe_callB call_len_seq (by rfl) T.n_len boot_len1 (pa_cons (pe_ix (show IxR _ (rIxL K) from ix_list) (pv 1) pe_int (fun _ _ => rfl)) pa_nil)) pe_int)) (pss_one (ps_ret (pe_globI (by rfl) T.g_NOTHING_TO_TELL))) pss_nil) (pss_one (ps_ret pe_int))))), ?_⟩
    unfold refuseV at q
    refine ⟨_, rfl, kind, rfl, _, rfl, ite2 (fun c => ?_) (fun c => ?_)⟩
    · have c : ¬ okKind kind = true := by simpa using c
      rw [if_neg c] at q
      exact q H (Same.refl H)
    · have c : okKind kind = true := by simpa using c
      rw [if_pos c] at q
      have hk := Er.okKind_iff.mp c
      obtain ⟨a0, as', x0, xss', rfl, rfl, h0, hrest⟩ : ∃ a0 as' x0 xss', as = a0 :: as' ∧ xss = x0 :: xss' ∧ (SqL K H a0 (x0.map V.int) ∧ x0.length ≤ 4200) ∧ RowsAt K H as' xss' := by
        cases hrows with
        | nil => exact absurd rfl hne
        | cons h1 h2 => exact ⟨_, _, _, _, rfl, rfl, h1, h2⟩
      rw [List.headD_cons] at q
      refine ⟨_, rfl, a, rfl, ⟨_, hl⟩, for_list (K := K) (a := a) (xs := (a0 :: as').map V.ref) (fun i σ H' => ∃ v3 : Option V, σ = [some (.int kind), some (.ref a), v3] ∧ Same H H' ∧ ((x0 :: xss').take i).all (rowOk (fmt kind.toNat) x0.length) = true)
        ⟨none, rfl, Same.refl _, rfl⟩ (fun i σ H' _ ⟨_, _, s2, _⟩ => s2.seq hl) ?_ ?_⟩
      · rintro i y σ H' hi ⟨v3, rfl, s2, hall⟩
        obtain ⟨ai, xi, rfl, hxi, hsq, hlen⟩ : ∃ ai xi, y = .ref ai ∧ (x0 :: xss')[i]? = some xi ∧ SqL K H ai (xi.map V.int) ∧ xi.length ≤ 4200 := by
          rw [List.getElem?_map] at hi
          obtain ⟨ai, hai, ey⟩ := Option.map_eq_some_iff.mp hi
          obtain ⟨xi, hxi, h1, h2⟩ := rows_get hrows hai
          exact ⟨ai, xi, ey.symm, hxi, h1, h2⟩
        have hq := s2.seq hsq
        have hq0 := s2.seq h0.1
        have fin : ¬ rowOk (fmt kind.toNat) x0.length xi = true → ∀ H'' : Hp, Same H H'' → Q (.int (-1)) H'' := fun hb H'' s3 => by
          have q := q H'' s3
          rw [if_neg] at q
          · exact q
          · intro z
            exact hb (List.all_eq_true.mp z xi (List.mem_of_getElem? hxi))
        have el : ((xi.map V.int).length : Int) = (xi.length : Int) := by rw [List.length_map]
        have el0 : ((x0.map V.int).length : Int) = (x0.length : Int) := by rw [List.length_map]
        have eall : rowI kind.toNat 4096 xi = (decide (xi.length ≤ 4096) && xi.all (cellOk (fmt kind.toNat))) := by
          unfold rowI
          rw [all_cell_eq hk]
        unfold rowOk at fin
        refine ⟨_, rfl, ai, _, rfl, Or.inl hq, _, rfl, a, _, _, _, rfl, rfl, s2.seq hl, at_of (j := 0) rfl rfl, a0, _, rfl, Or.inl hq0, _, _, rfl, rfl, _, rfl, ite2 (fun c2 => ?_) (fun c2 => ?_)⟩
        · refine iteT (fin ?_ H' s2)
          intro z
          simp only [Bool.and_eq_true, decide_eq_true_eq] at z
          simp only [Bool.not_eq_true', decide_eq_false_iff_not] at c2
          omega
        · have c2 : xi.length = x0.length := by
            simp only [Bool.not_eq_true', decide_eq_false_iff_not] at c2
            omega
          refine ⟨_, rfl, _, rfl, kind, ai, xi, 4096, rfl, ok_kindI c, hq, Nat.le_trans hlen (by decide), fun H2 sm => ?_⟩
          rw [eall]
          refine ⟨_, _, rfl, rfl, _, rfl, ite2 (fun c3 => ?_) (fun c3 => ?_)⟩
          · refine fin ?_ H2 (s2.trans sm)
            intro z
            simp only [Bool.and_eq_true, decide_eq_true_eq] at z
            rw [if_pos (by simp only [Bool.and_eq_true, decide_eq_true_eq]; exact ⟨z.1, z.2.2⟩)] at c3
            simp at c3
          · have c3 : (decide (xi.length ≤ 4096) && xi.all (cellOk (fmt kind.toNat))) = true := by
              by_cases h : (decide (xi.length ≤ 4096) && xi.all (cellOk (fmt kind.toNat))) = true
              · exact h
              · rw [if_neg h] at c3
                exact absurd (by decide) c3
            simp only [Bool.and_eq_true, decide_eq_true_eq] at c3
            refine ⟨_, rfl, s2.trans sm, ?_⟩
            rw [take_snocV hxi, List.all_append, hall, Bool.true_and]
            unfold rowOk
            simp only [List.all_cons, List.all_nil, Bool.and_true, Bool.and_eq_true, decide_eq_true_eq]
            exact ⟨c3.1, c2, c3.2⟩
      · rintro σ H' ⟨v3, rfl, s2, hall⟩
        have hlen : ((a0 :: as').map V.ref).length = (x0 :: xss').length := by
          rw [List.length_map]
          exact Paired.length hrows
        rw [hlen, List.take_length] at hall
        rw [if_pos hall] at q
        refine ⟨_, rfl, a, _, _, _, rfl, rfl, s2.seq hl, at_of (j := 0) rfl rfl, a0, _, rfl, Or.inl (s2.seq h0.1), _, _, rfl, rfl, _, rfl, ite2 (fun c1 => ?_) (fun c1 => ?_)⟩
        · have c1 := of_decide_eq_true c1
          rw [List.length_map] at c1
          rw [if_pos (by omega)] at q
          exact q H' s2
        · have c1 : ¬ ((x0.map V.int).length : Int) = 0 := fun z => c1 (decide_eq_true z)
          rw [List.length_map] at c1
          rw [if_neg (by omega)] at q
          exact q H' s2
abbrev s_quantile_refusal : Stmt := top 44
theorem sc_quantile_refusal : FnScope ["kind", "row", "fractions", "refused", "i", "number"] ["kind", "row", "fractions"] (defScope s_quantile_refusal) := ⟨rfl, rfl, rfl, by decide +kernel, rfl, by decide +kernel, by decide +kernel⟩
def lc_quantile_refusal_0 : Scope := { kind := PySem.ScopeKind.function, names := [ (PySem.Str.ofString ".0", PySem.NameKind.local), (PySem.Str.ofString "number", PySem.NameKind.local), (PySem.Str.ofString "WORD_END", PySem.NameKind.globalImplicit)], isGenerator := false, isCoroutine := false, more := [] : PySem.Scope }
theorem blk_lc_quantile_refusal_0 : BlkOk ["kind", "row", "fractions", "refused", "i", "number"] (defScope s_quantile_refusal) lc_quantile_refusal_0 [("number", 5)] := ⟨rfl, by decide +kernel, by decide +kernel, by decide +kernel, by decide +kernel⟩
theorem ok_quantile_refusal {f : Addr} {fd : FuncData} (F : Fun K "quantile_refusal" "quantile_refusal" s_quantile_refusal f fd) (T : Txt P w K mg C N)
    (c_numbers_refusal : Callee P w K mg base 4 "numbers_refusal" ["kind", "rows"] (sp_numbers_refusal K)) :
    FnOk P w K mg base CX0 5 f fd ["kind", "row", "fractions"] (sp_quantile_refusal K) := by
  refine F.ok sc_quantile_refusal (fun vs H Q E h => ?_) (fun cdv A outer s H vs Q E hr h => ?_)
  · obtain ⟨kind, a, b, x, qs, m, rfl, _⟩ := h
    rfl
  · obtain ⟨kind, a, b, x, qs, m, rfl, hl, hl2, hn, hm, hm2, hq0, q⟩ := h
    have e32 : (2 : Int) ^ 32 = 4294967296 := by decide
    have hfl := fracs_len hm
    have el : ((qs.map V.int).length : Int) = (qs.length : Int) := by rw [List.length_map]
    have hall : ((fracs qs).all fun p => decide (p.1 < 2 ^ 32) && decide (p.2 < 2 ^ 32)) = qs.all fun z => decide (z < 2 ^ 32) := fracs_all (g := fun z => decide (z < 2 ^ 32)) hm
    refine ⟨_, (pss_cons (ps_set (i := 3) sc_quantile_refusal.nd rfl (by first | exact Or.inl rfl | exact Or.inr rfl) (pe_callC c_numbers_refusal (hr.mono (by decide)) (by rfl) (pa_cons (pv 0) (pa_cons (pe_lst (pa_cons (pv 1) pa_nil)) pa_nil)))) (pss_cons (ps_if (PW.pt (pw_or (pt_cmp (pc_eqI (pv 3) (pe_globI (by rfl) T.g_WRONG_FORM))) (pw_or1 (pt_cmp (pc_gt (pe_callB call_len_seq (by rfl) T.n_len boot_len1 (pa_cons (pv 2) pa_nil)) (pe_op op_mulB pe_int (pe_globI (by rfl) T.g_MOST_FRACTIONS))))))) (pss_one (ps_ret (pe_globI (by rfl) T.g_WRONG_FORM))) pss_nil) (pss_cons (ps_if (pt_val (pe_callB (cr_any rfl) (by rfl) T.n_any boot_any1 (pa_cons (pe_lc rfl sc_quantile_refusal.nd (pi_list (pv 2)) (blk_lc_quantile_refusal_0) (fun _ _ _ _ _ => pg_name (i := 5) sc_quantile_refusal.nd rfl (Or.inl rfl) (by first | exact Or.inl rfl | exact Or.inr rfl)) (fun _ _ _ _ _ => pts_nil) (fun _ _ _ _ _ => (pe_cmp (pc_ge (pv 5) (pe_globI (by rfl) T.g_WORD_END))))) pa_nil))) (pss_one (ps_ret (pe_globI (by rfl) T.g_WRONG_FORM))) pss_nil) (pss_cons (ps_for PassesOwn.never rfl (pi_range3 (by rfl) T.n_range (pa_cons pe_int (pa_cons (pe_callB call_len_seq (by rfl) T.n_len boot_len1 (pa_cons (pv 2) pa_nil)) (pa_cons pe_int pa_nil)))) (pg_name (i := 4) sc_quantile_refusal.nd rfl (Or.inl rfl) (by first | exact Or.inl rfl | exact Or.inr rfl)) (pss_one (ps_if (PW.pt (pw_or (pt_cmp (pc_eqI (pe_ix (show IxR _ (rIxL K) from ix_list) (pv 2) (pe_op op_add (pv 4) pe_int) (fun _ _ => rfl)) pe_int)) (pw_or1 (pt_cmp (pc_gt (pe_ix (show IxR _ (rIxL K) from ix_list) (pv 2) (pv 4) (fun _ _ => rfl)) (pe_ix (show IxR _ (rIxL K) from ix_list) (pv 2) (pe_op op_add (pv 4) pe_int) (fun _ _ => rfl))))))) (pss_one (ps_ret (pe_globI (by rfl) T.g_WRONG_ORDER))) pss_nil))) (pss_one (ps_ret (pv 3))))))), ?_⟩
    refine ⟨_, rfl, _, rfl, (by show 1 ≤ sizeLine; decide), fun r hr0 => ?_⟩
    have s0 : Same H _ := Same.upd (o := .lst [.ref a]) hr0
    refine ⟨kind, r, [a], [x], rfl, SqL.of upd_same, .cons ⟨s0.seq hl, hn⟩ .nil, by simp, fun H1 s1 => ?_⟩
    have s01 := s0.trans s1
    have hb1 := s01.seq hl2
    unfold quantR quantOk fracsOk at q
    rw [hall] at q
    have bad : ∀ H' : Hp, Same H H' → ¬ (okKind kind = true ∧ rowOk (fmt kind.toNat) x.length x = true ∧ (fracs qs).length ≤ 4096 ∧ (qs.all fun z => decide (z < 2 ^ 32)) = true) → Q (.int (-1)) H' := fun H' sm hb => by
      have q := q H' sm
      rw [if_neg (by
        intro z
        simp only [Bool.and_eq_true, decide_eq_true_eq] at z
        exact hb ⟨z.1, z.2.1, z.2.2.1, z.2.2.2⟩)] at q
      exact q
    refine ⟨_, rfl, _, _, rfl, rfl, _, rfl, ite2 (fun c => ?_) (fun c => ?_)⟩
    · have c := of_decide_eq_true c
      refine iteT (bad H1 s01 fun hb => ?_)
      have hR : refuseV kind [x] ≠ -1 := by
        unfold refuseV
        rw [if_pos hb.1]
        have ea : [x].all (rowOk (fmt kind.toNat) ([x].headD []).length) = true := by
          rw [List.all_cons, List.all_nil, Bool.and_true]
          exact hb.2.1
        rw [if_pos ea]
        split <;> decide
      exact hR c
    have c : refuseV kind [x] ≠ -1 := fun z => c (decide_eq_true z)
    obtain ⟨hk, hrow, hv⟩ := Er.refuse_one (kind := kind) (x := x) c
    refine ⟨_, rfl, b, _, rfl, Or.inl hb1, _, _, rfl, rfl, ⟨2, 13, by unfold Lt2; decide, by unfold Lt2; decide, by decide⟩, _, _, rfl, rfl, _, rfl, ite2 (fun c2 => ?_) (fun c2 => ?_)⟩
    · have c2 := of_decide_eq_true c2
      refine bad H1 s01 fun hb => ?_
      have := hb.2.2.1
      omega
    have c2 : ¬ (2 * 4096 : Int) < ((qs.map V.int).length : Int) := fun z => c2 (decide_eq_true z)
    try dsimp only [tRet, tCB, tCons, tNil, tSeq, tAsg, gName, tIfS, tNot, tB, tNext, sFld]
    refine tLc_in ?_
    refine ⟨_, rfl, b, rfl, ⟨_, hb1⟩, ?_⟩
    refine er_lc (vI fun c => .bl (decide ((4294967296 : Int) ≤ c))) hb1 (len_ltM (by omega)) (fun i y H' Q' hi sm q' => ?_) (fun H2 D s2 hd hD => ?_)
    · obtain ⟨c, hc, rfl⟩ := get_map hi
      exact ⟨_, rfl, _, _, rfl, rfl, q' _ (Same.refl _)⟩
    rw [map_vI] at hd
    refine ⟨D, qs.map (fun c => decide ((4294967296 : Int) ≤ c)), rfl, SqL.of (by rw [hd, List.map_map]; rfl), ?_⟩
    have e : (qs.map (fun c => decide ((4294967296 : Int) ≤ c))).any id = !qs.all (fun w => decide (w < 2 ^ 32)) := by
      rw [List.any_map]
      cases h : qs.all fun w => decide (w < 2 ^ 32)
      · obtain ⟨w, hw, h2⟩ := List.all_eq_false.mp h
        refine List.any_eq_true.mpr ⟨w, hw, decide_eq_true ?_⟩
        have : ¬ w < 2 ^ 32 := by simpa using h2
        omega
      · refine List.any_eq_false.mpr fun w hw => ?_
        have := of_decide_eq_true (List.all_eq_true.mp h w hw)
        show ¬ decide ((4294967296 : Int) ≤ w) = true
        rw [decide_eq_true_eq]
        omega
    try dsimp only
    rw [e]
    have s02 := s01.trans s2
    refine ⟨_, rfl, ite2 (fun c3 => ?_) (fun c3 => ?_)⟩
    · refine bad H2 s02 fun hb => ?_
      rw [hb.2.2.2] at c3
      cases c3
    have c3 : (qs.all fun w => decide (w < 2 ^ 32)) = true := by simpa using c3
    have hb2 := s02.seq hl2
    rw [if_pos (by
      rw [hk, hrow, c3, decide_eq_true (show (fracs qs).length ≤ 4096 by omega)]
      rfl)] at q
    refine ⟨_, rfl, b, _, rfl, Or.inl hb2, ?_⟩
    rw [el, hm]
    refine ⟨_, _, _, _, rfl, rgC_two (by omega), ?_⟩
    refine for_rangeC (n := m) (fun i σ H' => H' = H2 ∧ ∃ v4 : Option V, σ = [some (.int kind), some (.ref a), some (.ref b), some (.int (refuseV kind [x])), v4, none] ∧ ((fracs qs).take i).all (fun p => decide (0 < p.2) && decide (p.1 ≤ p.2)) = true)
      ⟨rfl, none, rfl, rfl⟩ ?_ ?_
    · rintro i σ H' hi ⟨rfl, v4, rfl, hall2⟩
      obtain ⟨p, hp⟩ : ∃ p, (fracs qs)[i]? = some p := ⟨_, List.getElem?_eq_getElem (by omega)⟩
      obtain ⟨g1, g2⟩ := fracs_get hp
      have m1 : (qs.map V.int)[2 * i]? = some (.int p.1) := by rw [List.getElem?_map, g1]; rfl
      have m2 : (qs.map V.int)[2 * i + 1]? = some (.int p.2) := by rw [List.getElem?_map, g2]; rfl
      have n1 := hq0 p.1 (List.mem_of_getElem? g1)
      have n2 := hq0 p.2 (List.mem_of_getElem? g2)
      have wrong : ¬ (0 < p.2 ∧ p.1 ≤ p.2) → Q (.int (-2)) H' := fun hw => by
        have q := q H' s02
        rw [if_neg] at q
        · exact q
        · intro z
          unfold fracsRight at z
          have := List.all_eq_true.mp z p (List.mem_of_getElem? hp)
          simp only [Bool.and_eq_true, decide_eq_true_eq] at this
          exact hw this
      refine ⟨_, rfl, _, rfl, _, _, rfl, rfl, b, _, _, _, rfl, rfl, hb2, at_of (j := 2 * i + 1) (by omega) m2, _, _, rfl, rfl, _, rfl, ite2 (fun c4 => ?_) (fun c4 => ?_)⟩
      · have c4 := of_decide_eq_true c4
        exact iteT (wrong (by omega))
      · have c4 : ¬ p.2 = 0 := fun z => c4 (decide_eq_true z)
        refine ⟨_, rfl, _, rfl, b, _, _, _, rfl, rfl, hb2, at_of (j := 2 * i) (by omega) m1, _, rfl, _, rfl, _, _, rfl, rfl, b, _, _, _, rfl, rfl, hb2, at_of (j := 2 * i + 1) (by omega) m2, _, _, rfl, rfl, _, rfl, ite2 (fun c5 => ?_) (fun c5 => ?_)⟩
        · have c5 := of_decide_eq_true c5
          exact wrong (by omega)
        · have c5 : ¬ p.2 < p.1 := fun z => c5 (decide_eq_true z)
          refine ⟨rfl, _, rfl, ?_⟩
          rw [take_snocV hp, List.all_append, hall2, Bool.true_and]
          simp only [List.all_cons, List.all_nil, Bool.and_true, Bool.and_eq_true, decide_eq_true_eq]
          omega
    · rintro σ H' ⟨rfl, v4, rfl, hall2⟩
      rw [List.take_of_length_le (by omega)] at hall2
      have q := q H' s02
      rw [if_pos (show fracsRight (fracs qs) = true from hall2), ← hv] at q
      exact ⟨_, rfl, q⟩
abbrev s_Shape_init : Stmt := inClass (top 5) 0
theorem sc_Shape_init : FnScope ["self", "exponent_bits", "fraction_bits"] ["self", "exponent_bits", "fraction_bits"] (defScope s_Shape_init) := ⟨rfl, rfl, rfl, by decide +kernel, rfl, by decide +kernel, by decide +kernel⟩
theorem ok_Shape {f : Addr} {fd : FuncData} (F : Fun K "__init__" "Shape.__init__" s_Shape_init f fd) (T : Txt P w K mg C N) :
    FnOk P w K mg base CX0 1 f fd ["self", "exponent_bits", "fraction_bits"] (sp_Shape C) := by
  refine F.ok sc_Shape_init (fun vs H Q E h => ?_) (fun cdv A outer s H vs Q E hr h => ?_)
  · obtain ⟨p, dx, k, rfl, _⟩ := h
    rfl
  · obtain ⟨p, dx, k, rfl, hk, hp, q⟩ := h
    have hb := fmt_few hk
    refine ⟨_, (pss_cons (ps_fld (pv 0) (pv 2) rfl) (pss_cons (ps_fld (pv 0) (pe_op op_shlB pe_int (pe_op op_add (pv 1) (pv 2))) rfl) (pss_cons (ps_fld (pv 0) (pe_op op_shlB (pe_op op_sub (pe_op op_shlB pe_int (pv 1)) pe_int) (pv 2)) rfl) (pss_cons (ps_fld (pv 0) (pe_op op_add (pe_fld (pv 0) rfl) (pe_op op_shlB pe_int (pe_op op_sub (pv 2) pe_int))) rfl) (pss_cons (ps_fld (pv 0) (pe_op op_sub pe_int (pe_op op_shlB pe_int (pe_op op_sub (pv 1) pe_int))) rfl) (pss_one (ps_fld (pv 0) (pe_op op_sub (pv 2) (pe_fld (pv 0) rfl)) rfl))))))), ?_⟩
    refine ⟨_, rfl, _, rfl, p, C, dx, _, rfl, hp, T.cl, T.a_m, (by show 0 < 1000; decide), ?_⟩
    refine ⟨_, rfl, _, rfl, _, _, rfl, rfl, _, _, rfl, rfl, ⟨by omega, 1, lt1 1 (by decide), by omega⟩, _, rfl, p, C, dx, _, rfl, upd_same, T.cl, T.a_s, (by show 1 < 1000; decide), ?_⟩
    refine ⟨_, rfl, _, _, rfl, rfl, ⟨by omega, 1, lt1 1 (by decide), by omega⟩, _, _, rfl, rfl, _, rfl, _, _, rfl, rfl, ⟨by omega, 14, ?_, by omega⟩, _, rfl, p, C, dx, _, rfl, upd_same, T.cl, T.a_i, (by show 2 < 1000; decide), ?_⟩
    · rcases hk with h | h | h | h <;> subst h <;> (unfold Lt2; decide +kernel)
    refine ⟨_, rfl, p, C, dx, _, _, rfl, upd_same, T.cl, T.a_i, rfl, _, rfl, _, _, rfl, rfl, _, _, rfl, rfl, ⟨by omega, 1, lt1 1 (by decide), by omega⟩, _, _, rfl, rfl, _, rfl, p, C, dx, _, rfl, upd_same, T.cl, T.a_n, (by show 3 < 1000; decide), ?_⟩
    refine ⟨_, rfl, _, _, rfl, rfl, _, _, rfl, rfl, ⟨by have := hk.good.e; omega, 1, lt1 1 (by decide), by omega⟩, _, _, rfl, rfl, _, rfl, p, C, dx, _, rfl, upd_same, T.cl, T.a_l, (by show 4 < 1000; decide), ?_⟩
    refine ⟨_, rfl, _, rfl, p, C, dx, _, _, rfl, upd_same, T.cl, T.a_l, rfl, _, _, rfl, rfl, _, rfl, p, C, dx, _, rfl, upd_same, T.cl, T.a_u, (by show 5 < 1000; decide), ?_⟩
    refine q _ ?_ fun b o e hb => by rw [upd_ne hb, upd_ne hb, upd_ne hb, upd_ne hb, upd_ne hb, upd_ne hb]; exact e
    rw [upd_same]
    rcases hk with h | h | h | h <;> subst h <;> rfl
abbrev s_shape_of : Stmt := top 8
theorem sc_shape_of : FnScope ["kind", "bits"] ["kind"] (defScope s_shape_of) := ⟨rfl, rfl, rfl, by decide +kernel, rfl, by decide +kernel, by decide +kernel⟩
theorem ok_shape_of {f : Addr} {fd : FuncData} (F : Fun K "shape_of" "shape_of" s_shape_of f fd) (T : Txt P w K mg C N)
    (c_Shape : Maker P w K mg base C 1 "Shape" ["self", "exponent_bits", "fraction_bits"] (sp_Shape C)) :
    FnOk P w K mg base CX0 3 f fd ["kind"] (sp_shape_of C) := by
  refine F.ok sc_shape_of (fun vs H Q E h => ?_) (fun cdv A outer s H vs Q E hr h => ?_)
  · obtain ⟨kind, rfl, _⟩ := h
    rfl
  · obtain ⟨kind, rfl, hk, q⟩ := h
    obtain ⟨DF, a9, a10, a11, a12, g_FLOATING_KINDS, dF, t9, t10, t11, t12⟩ := T.t_F
    obtain ⟨ak, hv, hsq⟩ := get_F t9 t10 t11 t12 hk
    refine ⟨_, (pss_cons (ps_set (i := 1) sc_shape_of.nd rfl (by first | exact Or.inl rfl | exact Or.inr rfl) (pe_dgetK (pe_globR (by rfl) g_FLOATING_KINDS) (pv 0) (fun _ _ => rfl))) (pss_one (ps_ret (pe_makeC c_Shape (hr.mono (by decide)) (by rfl) (pa_cons (pe_ix (show IxR _ (rIxT K) from ix_tup) (pv 1) pe_int (fun _ _ => rfl)) (pa_cons (pe_ix (show IxR _ (rIxT K) from ix_tup) (pv 1) pe_int (fun _ _ => rfl)) pa_nil)))))), ?_⟩
    refine ⟨_, rfl, DF, _, Sum.inl kind, _, rfl, rfl, dF, hv, ?_⟩
    refine ⟨_, rfl, _, _, _, _, rfl, rfl, hsq _, rfl, _, rfl, _, _, _, _, rfl, rfl, hsq _, rfl, ?_⟩
    intro x dx hx hdx hne
    refine ⟨x, dx, kind.toNat, rfl, Er.okKind_iff.mp hk, upd_same, fun H' e1 e2 => ⟨rfl, ?_⟩⟩
    exact q H' x (Same.made hx hdx e2) ⟨Er.okKind_iff.mp hk, dx, e1⟩
abbrev s_is_whole : Stmt := top 6
theorem sc_is_whole : FnScope ["kind"] ["kind"] (defScope s_is_whole) := ⟨rfl, rfl, rfl, by decide +kernel, rfl, by decide +kernel, by decide +kernel⟩
theorem ok_is_whole {f : Addr} {fd : FuncData} (F : Fun K "is_whole" "is_whole" s_is_whole f fd) (T : Txt P w K mg C N) :
    FnOk P w K mg base CX0 1 f fd ["kind"] (sp_is_whole) := by
  refine F.ok sc_is_whole (fun vs H Q E h => ?_) (fun cdv A outer s H vs Q E hr h => ?_)
  · obtain ⟨kind, rfl, _⟩ := h
    rfl
  · obtain ⟨kind, rfl, q⟩ := h
    obtain ⟨DU, g_UNSIGNED_KINDS, dU⟩ := T.t_U
    obtain ⟨DS, g_SIGNED_KINDS, dS⟩ := T.t_S
    refine ⟨_, (pss_one (ps_ret (pe_or (pe_cmp (pc_dinK (pv 0) (pe_globR (by rfl) g_SIGNED_KINDS))) (pe_one (pe_cmp (pc_dinK (pv 0) (pe_globR (by rfl) g_UNSIGNED_KINDS))))))), ?_⟩
    refine ⟨_, rfl, DS, _, Sum.inl kind, rfl, rfl, dS, ?_⟩
    unfold wholeK at q
    try dsimp only
    rw [val_S]
    refine ⟨_, rfl, ite2 (fun c => ?_) (fun c => ?_)⟩
    · rw [c, Bool.true_or] at q
      exact q
    · have c : sgnK kind = false := by simpa using c
      rw [c, Bool.false_or] at q
      refine ⟨_, rfl, DU, _, Sum.inl kind, rfl, rfl, dU, ?_⟩
      try dsimp only
      rw [val_U]
      exact q
abbrev s_size_bits : Stmt := top 15
theorem sc_size_bits : FnScope ["shape", "cell"] ["shape", "cell"] (defScope s_size_bits) := ⟨rfl, rfl, rfl, by decide +kernel, rfl, by decide +kernel, by decide +kernel⟩
theorem ok_size_bits {f : Addr} {fd : FuncData} (F : Fun K "size_bits" "size_bits" s_size_bits f fd) (T : Txt P w K mg C N) :
    FnOk P w K mg base CX0 1 f fd ["shape", "cell"] (sp_size_bits C) := by
  refine F.ok sc_size_bits (fun vs H Q E h => ?_) (fun cdv A outer s H vs Q E hr h => ?_)
  · obtain ⟨p, k, c, rfl, _⟩ := h
    rfl
  · obtain ⟨p, k, c, rfl, ⟨hk, dx, hp⟩, hc, q⟩ := h
    refine ⟨_, (pss_one (ps_ret (pe_op op_and (pv 1) (pe_op op_sub (pe_fld (pv 0) rfl) pe_int)))), ?_⟩
    refine ⟨_, rfl, _, rfl, p, C, dx, _, _, rfl, hp, T.cl, T.a_s, shp_s _, _, _, rfl, rfl, _, _, rfl, rfl, ?_⟩
    try dsimp only
    rw [mag_and hc]
    exact q
abbrev s_one_form : Stmt := top 14
theorem sc_one_form : FnScope ["kind", "row", "shape", "cell"] ["kind", "row"] (defScope s_one_form) := ⟨rfl, rfl, rfl, by decide +kernel, rfl, by decide +kernel, by decide +kernel⟩
def lc_one_form_0 : Scope := { kind := PySem.ScopeKind.function, names := [ (PySem.Str.ofString ".0", PySem.NameKind.local), (PySem.Str.ofString "cell", PySem.NameKind.local), (PySem.Str.ofString "size_bits", PySem.NameKind.globalImplicit), (PySem.Str.ofString "shape", PySem.NameKind.free)], isGenerator := false, isCoroutine := false, more := [] : PySem.Scope }
theorem blk_lc_one_form_0 : BlkOk ["kind", "row", "shape", "cell"] (defScope s_one_form) lc_one_form_0 [("cell", 3)] := ⟨rfl, by decide +kernel, by decide +kernel, by decide +kernel, by decide +kernel⟩
theorem ok_one_form {f : Addr} {fd : FuncData} (F : Fun K "one_form" "one_form" s_one_form f fd) (T : Txt P w K mg C N)
    (c_is_whole : Callee P w K mg base 1 "is_whole" ["kind"] (sp_is_whole))
    (c_shape_of : Callee P w K mg base 3 "shape_of" ["kind"] (sp_shape_of C))
    (c_size_bits : Callee P w K mg base 1 "size_bits" ["shape", "cell"] (sp_size_bits C)) :
    FnOk P w K mg base CX0 4 f fd ["kind", "row"] (sp_one_form K) := by
  refine F.ok sc_one_form (fun vs H Q E h => ?_) (fun cdv A outer s H vs Q E hr h => ?_)
  · obtain ⟨kind, a, x, rfl, _⟩ := h
    rfl
  · obtain ⟨kind, a, x, rfl, hk, hl, hn, hx, q⟩ := h
    refine ⟨_, (pss_cons (ps_if (pt_val (pe_callC c_is_whole (hr.mono (by decide)) (by rfl) (pa_cons (pv 0) pa_nil))) (pss_one (ps_ret (pe_callTy call_list_of (by rfl) T.n_list boot_list1 (pa_cons (pv 1) pa_nil)))) pss_nil) (pss_cons (ps_set (i := 2) sc_one_form.nd rfl (by first | exact Or.inl rfl | exact Or.inr rfl) (pe_callC c_shape_of (hr.mono (by decide)) (by rfl) (pa_cons (pv 0) pa_nil))) (pss_one (ps_ret (pe_lc rfl sc_one_form.nd (pi_list (pv 1)) (blk_lc_one_form_0) (fun _ _ _ _ _ => pg_name (i := 3) sc_one_form.nd rfl (Or.inl rfl) (by first | exact Or.inl rfl | exact Or.inr rfl)) (fun _ _ _ _ _ => pts_nil) (fun _ _ _ _ _ => (pe_ifExp (pt_cmp (pc_gt (pe_callC c_size_bits (hr.mono (by decide)) (by rfl) (pa_cons (pv 2) (pa_cons (pv 3) pa_nil))) (show PE _ _ (tFld K _ _) from pe_fld (pv 2) rfl))) (show PE _ _ (tFld K _ _) from pe_fld (pv 2) rfl) (pv 3)))))))), ?_⟩
    refine ⟨_, rfl, kind, rfl, _, rfl, ite2 (fun c => ?_) (fun c => ?_)⟩
    · rw [map_id_of fun z hz => form_whole c (hx z hz)] at q
      exact ⟨_, rfl, a, _, rfl, Or.inl hl, fun l hl0 => q _ l (Same.upd hl0) upd_same hl0⟩
    · have c : wholeK kind = false := by simpa using c
      have hf : okKind kind = true := by
        rw [kind_parts, c, Bool.false_or] at hk
        exact hk
      have hK := Er.okKind_iff.mp hf
      refine ⟨_, rfl, kind, rfl, hf, fun H1 p s1 hp => ?_⟩
      have hl1 := s1.seq hl
      try dsimp only [tRet, tCB, tCons, tNil, tSeq, tAsg, gName, tIfS, tNot, tB, tNext, sFld]
      refine tLc_in ?_
      refine ⟨_, rfl, a, rfl, ⟨_, hl1⟩, ?_⟩
      refine er_lc (vI fun c => .int (formI kind.toNat c)) hl1 (len_ltM hn) (fun i y H' Q' hi sm q' => ?_) (fun H' D sm hd hD => ?_)
      · obtain ⟨c, hc, rfl⟩ := get_map hi
        have h0 := hx c (List.mem_of_getElem? hc)
        have q'' := q' _ (Same.refl _)
        unfold vI at q''
        dsimp only at q''
        rw [form_float hK h0] at q''
        obtain ⟨_, dx, hp'⟩ := hp.mono sm
        refine ⟨_, rfl, _, rfl, p, kind.toNat, c, rfl, hp.mono sm, h0, _, rfl, p, C, dx, _, _, rfl, hp', T.cl, T.a_i, shp_i _, _, _, rfl, rfl, _, rfl, ite2 (fun c1 => ?_) (fun c1 => ?_)⟩
        · have c1 := of_decide_eq_true c1
          rw [if_pos (by omega)] at q''
          exact ⟨_, rfl, p, C, dx, _, _, rfl, hp', T.cl, T.a_n, shp_n _, q''⟩
        · have c1 : ¬ ((fmt kind.toNat).infBits : Int) < ((mag (fmt kind.toNat) c.toNat : Nat) : Int) := fun z => c1 (decide_eq_true z)
          rw [if_neg (by omega)] at q''
          exact ⟨_, rfl, q''⟩
      · rw [map_vI] at hd
        refine q H' D (s1.trans sm) ?_ (s1.free hD)
        rw [hd, List.map_map]
        rfl
abbrev s_signed_numbers : Stmt := top 17
theorem sc_signed_numbers : FnScope ["bits", "row", "sign", "cell"] ["bits", "row"] (defScope s_signed_numbers) := ⟨rfl, rfl, rfl, by decide +kernel, rfl, by decide +kernel, by decide +kernel⟩
def lc_signed_numbers_0 : Scope := { kind := PySem.ScopeKind.function, names := [ (PySem.Str.ofString ".0", PySem.NameKind.local), (PySem.Str.ofString "cell", PySem.NameKind.local), (PySem.Str.ofString "sign", PySem.NameKind.free)], isGenerator := false, isCoroutine := false, more := [] : PySem.Scope }
theorem blk_lc_signed_numbers_0 : BlkOk ["bits", "row", "sign", "cell"] (defScope s_signed_numbers) lc_signed_numbers_0 [("cell", 3)] := ⟨rfl, by decide +kernel, by decide +kernel, by decide +kernel, by decide +kernel⟩
theorem ok_signed_numbers {f : Addr} {fd : FuncData} (F : Fun K "signed_numbers" "signed_numbers" s_signed_numbers f fd) (T : Txt P w K mg C N) :
    FnOk P w K mg base CX0 1 f fd ["bits", "row"] (sp_signed_numbers K) := by
  refine F.ok sc_signed_numbers (fun vs H Q E h => ?_) (fun cdv A outer s H vs Q E hr h => ?_)
  · obtain ⟨kind, a, x, rfl, _⟩ := h
    rfl
  · obtain ⟨kind, a, x, rfl, hk, hl, hn, hx, q⟩ := h
    obtain ⟨_, _, _, hb1, hb2⟩ := sgn_facts hk
    refine ⟨_, (pss_cons (ps_set (i := 2) sc_signed_numbers.nd rfl (by first | exact Or.inl rfl | exact Or.inr rfl) (pe_op op_shlB pe_int (pe_op op_sub (pv 0) pe_int))) (pss_one (ps_ret (pe_lc rfl sc_signed_numbers.nd (pi_list (pv 1)) (blk_lc_signed_numbers_0) (fun _ _ _ _ _ => pg_name (i := 3) sc_signed_numbers.nd rfl (Or.inl rfl) (by first | exact Or.inl rfl | exact Or.inr rfl)) (fun _ _ _ _ _ => pts_nil) (fun _ _ _ _ _ => (pe_ifExp (pt_cmp (pc_ge (pv 3) (pv 2))) (pe_op op_sub (pv 3) (pe_op op_mulB pe_int (pv 2))) (pv 3))))))), ?_⟩
    have eb : (((bitsK kind.toNat : Nat) : Int) - 1).toNat = bitsK kind.toNat - 1 := by omega
    refine ⟨_, rfl, _, _, rfl, rfl, _, _, rfl, rfl, ⟨by omega, 1, lt1 1 (by decide), by omega⟩, ?_⟩
    try dsimp only
    rw [Int.one_mul, eb]
    have lsg : Lt2 ((2 : Int) ^ (bitsK kind.toNat - 1)) 64 := (Lt2.two _).mono (by omega)
    try dsimp only [tRet, tCB, tCons, tNil, tSeq, tAsg, gName, tIfS, tNot, tB, tNext, sFld]
    refine tLc_in ?_
    refine ⟨_, rfl, a, rfl, ⟨_, hl⟩, ?_⟩
    refine er_lc (vI fun c => .int (valI kind.toNat c)) hl (len_ltM hn) (fun i y H' Q' hi sm q' => ?_) (fun H' D sm hd hD => ?_)
    · obtain ⟨c, hc, rfl⟩ := get_map hi
      have q'' := q' _ (Same.refl _)
      unfold vI at q''
      dsimp only at q''
      rw [val_sgn hk (hx c (List.mem_of_getElem? hc))] at q''
      refine ⟨_, rfl, _, rfl, _, _, rfl, rfl, _, rfl, ite2 (fun c1 => ?_) (fun c1 => ?_)⟩
      · rw [if_pos (of_decide_eq_true c1)] at q''
        exact ⟨_, rfl, _, rfl, _, _, rfl, rfl, ⟨2, 64, by unfold Lt2; decide, lsg, by decide⟩, _, _, rfl, rfl, q''⟩
      · rw [if_neg (fun z => c1 (decide_eq_true z))] at q''
        exact ⟨_, rfl, q''⟩
    · rw [map_vI] at hd
      refine q H' D sm ?_ hD
      rw [hd, List.map_map]
      rfl
abbrev s_floating_place : Stmt := top 18
theorem sc_floating_place : FnScope ["shape", "cell", "size"] ["shape", "cell"] (defScope s_floating_place) := ⟨rfl, rfl, rfl, by decide +kernel, rfl, by decide +kernel, by decide +kernel⟩
theorem ok_floating_place {f : Addr} {fd : FuncData} (F : Fun K "floating_place" "floating_place" s_floating_place f fd) (T : Txt P w K mg C N)
    (c_size_bits : Callee P w K mg base 1 "size_bits" ["shape", "cell"] (sp_size_bits C)) :
    FnOk P w K mg base CX0 2 f fd ["shape", "cell"] (sp_floating_place C) := by
  refine F.ok sc_floating_place (fun vs H Q E h => ?_) (fun cdv A outer s H vs Q E hr h => ?_)
  · obtain ⟨p, k, c, rfl, _⟩ := h
    rfl
  · obtain ⟨p, k, c, rfl, hs, hc, q⟩ := h
    obtain ⟨hk, dx, hp⟩ := id hs
    refine ⟨_, (pss_cons (ps_set (i := 2) sc_floating_place.nd rfl (by first | exact Or.inl rfl | exact Or.inr rfl) (pe_callC c_size_bits (hr.mono (by decide)) (by rfl) (pa_cons (pv 0) (pa_cons (pv 1) pa_nil)))) (pss_cons (ps_if (pt_cmp (pc_gt (pv 2) (pe_fld (pv 0) rfl))) (pss_one (ps_ret (pe_globI (by rfl) T.g_NONE_PLACE))) pss_nil) (pss_cons (ps_if (pt_cmp (pc_neI (pe_op op_and (pv 1) (pe_fld (pv 0) rfl)) pe_int)) (pss_one (ps_ret (pe_un un_neg (pv 2)))) pss_nil) (pss_one (ps_ret (pv 2)))))), ?_⟩
    rw [val_float hk] at q
    obtain ⟨_, _, esg⟩ := unit_eq (f := fmt k) hc
    refine ⟨_, rfl, _, rfl, p, k, c, rfl, hs, hc, ?_⟩
    refine ⟨_, rfl, _, rfl, p, C, dx, _, _, rfl, hp, T.cl, T.a_i, shp_i _, _, _, rfl, rfl, _, rfl, ite2 (fun c1 => ?_) (fun c1 => ?_)⟩
    · have c1 := of_decide_eq_true c1
      rw [if_pos (by omega)] at q
      exact q
    · have c1 : ¬ ((fmt k).infBits : Int) < ((mag (fmt k) c.toNat : Nat) : Int) := fun z => c1 (decide_eq_true z)
      rw [if_neg (by omega)] at q
      refine ⟨_, rfl, _, rfl, p, C, dx, _, _, rfl, hp, T.cl, T.a_s, shp_s _, _, _, rfl, rfl, _, _, rfl, rfl, _, rfl, ite2 (fun c2 => ?_) (fun c2 => ?_)⟩
      · have c2 : Builtin.bitAnd c ((fmt k).signBit : Int) ≠ 0 := by simpa using c2
        rw [if_pos (esg.mp c2)] at q
        exact ⟨_, rfl, _, rfl, q⟩
      · have c2 : ¬ Builtin.bitAnd c ((fmt k).signBit : Int) ≠ 0 := by simpa using c2
        rw [if_neg (fun z => c2 (esg.mpr z))] at q
        exact ⟨_, rfl, q⟩
abbrev s_value_places : Stmt := top 16
theorem sc_value_places : FnScope ["kind", "row", "shape", "cell"] ["kind", "row"] (defScope s_value_places) := ⟨rfl, rfl, rfl, by decide +kernel, rfl, by decide +kernel, by decide +kernel⟩
def lc_value_places_0 : Scope := { kind := PySem.ScopeKind.function, names := [ (PySem.Str.ofString ".0", PySem.NameKind.local), (PySem.Str.ofString "cell", PySem.NameKind.local), (PySem.Str.ofString "floating_place", PySem.NameKind.globalImplicit), (PySem.Str.ofString "shape", PySem.NameKind.free)], isGenerator := false, isCoroutine := false, more := [] : PySem.Scope }
theorem blk_lc_value_places_0 : BlkOk ["kind", "row", "shape", "cell"] (defScope s_value_places) lc_value_places_0 [("cell", 3)] := ⟨rfl, by decide +kernel, by decide +kernel, by decide +kernel, by decide +kernel⟩
theorem ok_value_places {f : Addr} {fd : FuncData} (F : Fun K "value_places" "value_places" s_value_places f fd) (T : Txt P w K mg C N)
    (c_signed_numbers : Callee P w K mg base 1 "signed_numbers" ["bits", "row"] (sp_signed_numbers K))
    (c_shape_of : Callee P w K mg base 3 "shape_of" ["kind"] (sp_shape_of C))
    (c_floating_place : Callee P w K mg base 2 "floating_place" ["shape", "cell"] (sp_floating_place C)) :
    FnOk P w K mg base CX0 4 f fd ["kind", "row"] (sp_value_places K) := by
  refine F.ok sc_value_places (fun vs H Q E h => ?_) (fun cdv A outer s H vs Q E hr h => ?_)
  · obtain ⟨kind, a, x, rfl, _⟩ := h
    rfl
  · obtain ⟨kind, a, x, rfl, hk, hl, hn, hx, q⟩ := h
    obtain ⟨DU, g_UNSIGNED_KINDS, dU⟩ := T.t_U
    obtain ⟨DS, g_SIGNED_KINDS, dS⟩ := T.t_S
    refine ⟨_, (pss_cons (ps_if (pt_cmp (pc_dinK (pv 0) (pe_globR (by rfl) g_UNSIGNED_KINDS))) (pss_one (ps_ret (pe_callTy call_list_of (by rfl) T.n_list boot_list1 (pa_cons (pv 1) pa_nil)))) pss_nil) (pss_cons (ps_if (pt_cmp (pc_dinK (pv 0) (pe_globR (by rfl) g_SIGNED_KINDS))) (pss_one (ps_ret (pe_callC c_signed_numbers (hr.mono (by decide)) (by rfl) (pa_cons (pe_dgetK (pe_globR (by rfl) g_SIGNED_KINDS) (pv 0) (fun _ _ => rfl)) (pa_cons (pv 1) pa_nil))))) pss_nil) (pss_cons (ps_set (i := 2) sc_value_places.nd rfl (by first | exact Or.inl rfl | exact Or.inr rfl) (pe_callC c_shape_of (hr.mono (by decide)) (by rfl) (pa_cons (pv 0) pa_nil))) (pss_one (ps_ret (pe_lc rfl sc_value_places.nd (pi_list (pv 1)) (blk_lc_value_places_0) (fun _ _ _ _ _ => pg_name (i := 3) sc_value_places.nd rfl (Or.inl rfl) (by first | exact Or.inl rfl | exact Or.inr rfl)) (fun _ _ _ _ _ => pts_nil) (fun _ _ _ _ _ => (pe_callC c_floating_place (hr.mono (by decide)) (by rfl) (pa_cons (pv 2) (pa_cons (pv 3) pa_nil)))))))))), ?_⟩
    refine ⟨_, rfl, DU, _, Sum.inl kind, rfl, rfl, dU, ?_⟩
    try dsimp only
    rw [val_U]
    refine ⟨_, rfl, ite2 (fun c => ?_) (fun c => ?_)⟩
    · rw [map_id_of fun z hz => val_uns c (hx z hz)] at q
      exact ⟨_, rfl, a, _, rfl, Or.inl hl, fun l hl0 => q _ l (Same.upd hl0) upd_same hl0⟩
    · have c : unsK kind = false := by simpa using c
      refine ⟨_, rfl, DS, _, Sum.inl kind, rfl, rfl, dS, ?_⟩
      try dsimp only
      rw [val_S]
      refine ⟨_, rfl, ite2 (fun c2 => ?_) (fun c2 => ?_)⟩
      · exact ⟨_, rfl, DS, _, Sum.inl kind, _, rfl, rfl, dS, get_S c2, _, rfl, kind, a, x, rfl, c2, hl, hn, hx, q⟩
      · have c2 : sgnK kind = false := by simpa using c2
        have hf := wf_kind hk c2 c
        refine ⟨_, rfl, kind, rfl, hf, fun H1 p s1 hp => ?_⟩
        have hl1 := s1.seq hl
        try dsimp only [tRet, tCB, tCons, tNil, tSeq, tAsg, gName, tIfS, tNot, tB, tNext, sFld]
        refine tLc_in ?_
        refine ⟨_, rfl, a, rfl, ⟨_, hl1⟩, ?_⟩
        refine er_lc (vI fun c => .int (valI kind.toNat c)) hl1 (len_ltM hn) (fun i y H' Q' hi sm q' => ?_) (fun H' D sm hd hD => ?_)
        · obtain ⟨c, hc, rfl⟩ := get_map hi
          exact ⟨_, rfl, _, rfl, p, kind.toNat, c, rfl, hp.mono sm, hx c (List.mem_of_getElem? hc), q' _ (Same.refl _)⟩
        · rw [map_vI] at hd
          refine q H' D (s1.trans sm) ?_ (s1.free hD)
          rw [hd, List.map_map]
          rfl
abbrev s_in_order : Stmt := top 32
theorem sc_in_order : FnScope ["kind", "row", "cells", "ordered", "cell", "pair"] ["kind", "row"] (defScope s_in_order) := ⟨rfl, rfl, rfl, by decide +kernel, rfl, by decide +kernel, by decide +kernel⟩
def lc_in_order_0 : Scope := { kind := PySem.ScopeKind.function, names := [(PySem.Str.ofString ".0", PySem.NameKind.local), (PySem.Str.ofString "cell", PySem.NameKind.local)], isGenerator := false, isCoroutine := false, more := [] : PySem.Scope }
theorem blk_lc_in_order_0 : BlkOk ["kind", "row", "cells", "ordered", "cell", "pair"] (defScope s_in_order) lc_in_order_0 [("cell", 4)] := ⟨rfl, by decide +kernel, by decide +kernel, by decide +kernel, by decide +kernel⟩
def lc_in_order_1 : Scope := { kind := PySem.ScopeKind.function, names := [(PySem.Str.ofString ".0", PySem.NameKind.local), (PySem.Str.ofString "pair", PySem.NameKind.local)], isGenerator := false, isCoroutine := false, more := [] : PySem.Scope }
theorem blk_lc_in_order_1 : BlkOk ["kind", "row", "cells", "ordered", "cell", "pair"] (defScope s_in_order) lc_in_order_1 [("pair", 5)] := ⟨rfl, by decide +kernel, by decide +kernel, by decide +kernel, by decide +kernel⟩
theorem ok_in_order {f : Addr} {fd : FuncData} (F : Fun K "in_order" "in_order" s_in_order f fd) (T : Txt P w K mg C N)
    (c_one_form : Callee P w K mg base 4 "one_form" ["kind", "row"] (sp_one_form K))
    (c_value_places : Callee P w K mg base 4 "value_places" ["kind", "row"] (sp_value_places K)) :
    FnOk P w K mg base CX0 5 f fd ["kind", "row"] (sp_in_order K) := by
  refine F.ok sc_in_order (fun vs H Q E h => ?_) (fun cdv A outer s H vs Q E hr h => ?_)
  · obtain ⟨kind, a, x, rfl, _⟩ := h
    rfl
  · obtain ⟨kind, a, x, rfl, hk, hrow, hl, q⟩ := h
    have hrow' := hrow
    unfold rowI at hrow'
    simp only [Bool.and_eq_true, decide_eq_true_eq] at hrow'
    obtain ⟨hx1, hxc⟩ := hrow'
    have hxc := List.all_eq_true.mp hxc
    have hx : ∀ c ∈ x, 0 ≤ c := fun c h => (cellI_K (hxc c h)).1
    refine ⟨_, (pss_cons (ps_set (i := 2) sc_in_order.nd rfl (by first | exact Or.inl rfl | exact Or.inr rfl) (pe_callC c_one_form (hr.mono (by decide)) (by rfl) (pa_cons (pv 0) (pa_cons (pv 1) pa_nil)))) (pss_cons (ps_set (i := 3) sc_in_order.nd rfl (by first | exact Or.inl rfl | exact Or.inr rfl) (pe_sortedZip hr (by rfl) (by rfl) T.n_sorted T.n_zip (pa_cons (pe_callC c_value_places (hr.mono (by decide)) (by rfl) (pa_cons (pv 0) (pa_cons (pv 2) pa_nil))) (pa_cons (pe_lc rfl sc_in_order.nd (pi_list (pv 2)) (blk_lc_in_order_0) (fun _ _ _ _ _ => pg_name (i := 4) sc_in_order.nd rfl (Or.inl rfl) (by first | exact Or.inl rfl | exact Or.inr rfl)) (fun _ _ _ _ _ => pts_nil) (fun _ _ _ _ _ => (pe_un un_neg (pv 4)))) pa_nil)))) (pss_one (ps_ret (pe_lc rfl sc_in_order.nd (pi_list (pv 3)) (blk_lc_in_order_1) (fun _ _ _ _ _ => pg_name (i := 5) sc_in_order.nd rfl (Or.inl rfl) (by first | exact Or.inl rfl | exact Or.inr rfl)) (fun _ _ _ _ _ => pts_nil) (fun _ _ _ _ _ => (pe_un un_neg (pe_ix (show IxR _ (rIxT K) from ix_tup) (pv 5) pe_int (fun _ _ => rfl))))))))), ?_⟩
    refine ⟨_, rfl, _, rfl, kind, a, x, rfl, hk, hl, Nat.le_trans hx1 (by decide), hx, fun H1 c1 s1 h1 hf1 => ?_⟩
    have hlf : (x.map (formI kind.toNat)).length = x.length := List.length_map ..
    have hcf : ∀ c ∈ x.map (formI kind.toNat), cellI kind.toNat c = true := fun c h => by
      obtain ⟨d, hd, rfl⟩ := List.mem_map.mp h
      exact cell_form hk (hxc d hd)
    generalize x.map (formI kind.toNat) = l at *
    have hl0 : ∀ c ∈ l, 0 ≤ c := fun c h => (cellI_K (hcf c h)).1
    refine ⟨_, rfl, _, rfl, kind, c1, l, rfl, hk, SqL.of h1, by rw [hlf]; exact Nat.le_trans hx1 (by decide), hl0, fun H2 v1 s2 h2 hf2 => ?_⟩
    have h12 := s2 _ _ h1
    try dsimp only [tRet, tCB, tCons, tNil, tSeq, tAsg, gName, tIfS, tNot, tB, tNext, sFld]
    refine tLc_in ?_
    refine ⟨_, rfl, c1, rfl, ⟨_, SqL.of h12⟩, ?_⟩
    refine er_lc (vI fun c => .int (-c)) (SqL.of h12) (len_lt (by rw [hlf]; exact Nat.le_trans hx1 (by decide))) (fun i y H' Q' hi sm q' => ?_) (fun H3 D3 s3 hd3 hD3 => ?_)
    · obtain ⟨c, hc, rfl⟩ := get_map hi
      exact ⟨_, rfl, _, rfl, q' _ (Same.refl _)⟩
    have hd3 : H3 D3 = some (.lst ((l.map fun c => -c).map V.int)) := by rw [hd3, map_vI, List.map_map]; rfl
    refine ⟨v1, D3, l.map (valI kind.toNat), l.map (fun c => -c), rfl, SqL.of (s3 _ _ h2), SqL.of hd3, by simp, fun H4 L ts ps s4 hp hs hT hL hLf => ?_⟩
    obtain ⟨hperm, hord⟩ := order_of hk hcf hp hs
    have htl : ts.length = ps.length := paired_len hT
    have hpl : ps.length = x.length := by
      have := hperm.length_eq
      rw [List.length_map] at this
      omega
    have s04 := s1.trans (s2.trans (s3.trans s4))
    try dsimp only [tRet, tCB, tCons, tNil, tSeq, tAsg, gName, tIfS, tNot, tB, tNext, sFld]
    refine tLc_in ?_
    refine ⟨_, rfl, L, rfl, ⟨_, SqL.of hL⟩, ?_⟩
    refine er_lcG (ys := (ps.map fun p => -p.2).map V.int) (SqL.of hL) (by rw [List.length_map, htl, hpl]; exact Nat.lt_of_le_of_lt hx1 (by decide)) (by simp [htl]) (fun i y z H' Q' hi hz sm q' => ?_) (fun H5 D5 s5 hd5 hD5 => ?_)
    · obtain ⟨t, ht, rfl⟩ := refs_get hi
      obtain ⟨p, hp', htup⟩ := paired_get hT ht
      rw [List.getElem?_map, List.getElem?_map, hp'] at hz
      cases Option.some.inj hz
      exact ⟨_, rfl, t, _, _, _, rfl, rfl, SqT.of (sm _ _ htup), rfl, _, rfl, q' _ (Same.refl _)⟩
    · exact q H5 D5 _ (s04.trans s5) hperm hord hd5 (s04.free hD5)
abbrev s_is_number : Stmt := top 11
theorem sc_is_number : FnScope ["shape", "cell"] ["shape", "cell"] (defScope s_is_number) := ⟨rfl, rfl, rfl, by decide +kernel, rfl, by decide +kernel, by decide +kernel⟩
theorem ok_is_number {f : Addr} {fd : FuncData} (F : Fun K "is_number" "is_number" s_is_number f fd) (T : Txt P w K mg C N) :
    FnOk P w K mg base CX0 1 f fd ["shape", "cell"] (sp_is_number C) := by
  refine F.ok sc_is_number (fun vs H Q E h => ?_) (fun cdv A outer s H vs Q E hr h => ?_)
  · obtain ⟨p, k, c, rfl, _⟩ := h
    rfl
  · obtain ⟨p, k, c, rfl, ⟨hk, dx, hp⟩, hc, q⟩ := h
    refine ⟨_, (pss_one (ps_ret (pe_cmp (pc_neI (pe_op op_and (pv 1) (pe_fld (pv 0) rfl)) (pe_fld (pv 0) rfl))))), ?_⟩
    refine ⟨_, rfl, _, rfl, p, C, dx, _, _, rfl, hp, T.cl, T.a_i, shp_i _, _, _, rfl, rfl, _, rfl, p, C, dx, _, _, rfl, hp, T.cl, T.a_i, shp_i _, _, _, rfl, rfl, ?_⟩
    try dsimp only
    rw [num_eq hc]
    exact q
abbrev s_between_no_numbers : Stmt := top 34
theorem sc_between_no_numbers : FnScope ["shape", "low", "high"] ["shape", "low", "high"] (defScope s_between_no_numbers) := ⟨rfl, rfl, rfl, by decide +kernel, rfl, by decide +kernel, by decide +kernel⟩
theorem ok_between_no_numbers {f : Addr} {fd : FuncData} (F : Fun K "between_no_numbers" "between_no_numbers" s_between_no_numbers f fd) (T : Txt P w K mg C N)
    (c_is_number : Callee P w K mg base 1 "is_number" ["shape", "cell"] (sp_is_number C)) :
    FnOk P w K mg base CX0 2 f fd ["shape", "low", "high"] (sp_between_no_numbers C) := by
  refine F.ok sc_between_no_numbers (fun vs H Q E h => ?_) (fun cdv A outer s H vs Q E hr h => ?_)
  · obtain ⟨s, k, x, y, rfl, _⟩ := h
    rfl
  · obtain ⟨s, k, x, y, rfl, hs, hx, hy, q⟩ := h
    obtain ⟨hk, dx, hp⟩ := id hs
    refine ⟨_, (pss_cons (ps_if (PW.pt (pw_or (pt_cmp (pc_eqI (pv 1) (pe_fld (pv 0) rfl))) (pw_or1 (pt_cmp (pc_eqI (pv 2) (pe_fld (pv 0) rfl)))))) (pss_one (ps_ret (pe_fld (pv 0) rfl))) pss_nil) (pss_cons (ps_if (pt_val (pe_callC c_is_number (hr.mono (by decide)) (by rfl) (pa_cons (pv 0) (pa_cons (pv 1) pa_nil)))) (pss_one (ps_ret (pv 2))) pss_nil) (pss_cons (ps_if (PW.pt (pw_or (pt_val (pe_callC c_is_number (hr.mono (by decide)) (by rfl) (pa_cons (pv 0) (pa_cons (pv 2) pa_nil)))) (pw_or1 (pt_cmp (pc_eqI (pv 1) (pv 2)))))) (pss_one (ps_ret (pv 1))) pss_nil) (pss_one (ps_ret (pe_fld (pv 0) rfl)))))), ?_⟩
    unfold betw at q
    refine ⟨_, rfl, _, rfl, s, C, dx, _, _, rfl, hp, T.cl, T.a_n, shp_n _, _, _, rfl, rfl, _, rfl, ite2 (fun c => ?_) (fun c => ?_)⟩
    · rw [if_pos (Or.inl (of_decide_eq_true c))] at q
      refine iteT ?_
      exact ⟨_, rfl, s, C, dx, _, _, rfl, hp, T.cl, T.a_n, shp_n _, q⟩
    have c : ¬ x = ((fmt k).nanBits : Int) := fun z => c (decide_eq_true z)
    refine ⟨_, rfl, _, rfl, s, C, dx, _, _, rfl, hp, T.cl, T.a_n, shp_n _, _, _, rfl, rfl, _, rfl, ite2 (fun c2 => ?_) (fun c2 => ?_)⟩
    · rw [if_pos (Or.inr (of_decide_eq_true c2))] at q
      exact ⟨_, rfl, s, C, dx, _, _, rfl, hp, T.cl, T.a_n, shp_n _, q⟩
    have c2 : ¬ y = ((fmt k).nanBits : Int) := fun z => c2 (decide_eq_true z)
    rw [if_neg (fun z => z.elim c c2)] at q
    refine ⟨_, rfl, _, rfl, s, k, x, rfl, hs, hx, _, rfl, ite2 (fun c3 => ?_) (fun c3 => ?_)⟩
    · rw [if_pos c3] at q
      exact ⟨_, rfl, q⟩
    rw [if_neg c3] at q
    refine ⟨_, rfl, _, rfl, s, k, y, rfl, hs, hy, _, rfl, ite2 (fun c4 => ?_) (fun c4 => ?_)⟩
    · rw [if_pos (Or.inl c4)] at q
      refine iteT ?_
      exact ⟨_, rfl, q⟩
    refine ⟨_, rfl, _, rfl, _, _, rfl, rfl, _, rfl, ite2 (fun c5 => ?_) (fun c5 => ?_)⟩
    · rw [if_pos (Or.inr (of_decide_eq_true c5))] at q
      exact ⟨_, rfl, q⟩
    · rw [if_neg (fun z => z.elim c4 fun w => c5 (decide_eq_true w))] at q
      exact ⟨_, rfl, s, C, dx, _, _, rfl, hp, T.cl, T.a_n, shp_n _, q⟩
abbrev s_number_parts : Stmt := top 12
theorem sc_number_parts : FnScope ["shape", "cell", "hidden", "size", "exponent"] ["shape", "cell"] (defScope s_number_parts) := ⟨rfl, rfl, rfl, by decide +kernel, rfl, by decide +kernel, by decide +kernel⟩
theorem ok_number_parts {f : Addr} {fd : FuncData} (F : Fun K "number_parts" "number_parts" s_number_parts f fd) (T : Txt P w K mg C N) :
    FnOk P w K mg base CX0 1 f fd ["shape", "cell"] (sp_number_parts C) := by
  refine F.ok sc_number_parts (fun vs H Q E h => ?_) (fun cdv A outer s H vs Q E hr h => ?_)
  · obtain ⟨p, k, c, rfl, _⟩ := h
    rfl
  · obtain ⟨p, k, c, rfl, ⟨hk, dx, hp⟩, hc, q⟩ := h
    refine ⟨_, (pss_cons (ps_set (i := 2) sc_number_parts.nd rfl (by first | exact Or.inl rfl | exact Or.inr rfl) (pe_op op_shlB pe_int (pe_fld (pv 0) rfl))) (pss_cons (ps_set (i := 3) sc_number_parts.nd rfl (by first | exact Or.inl rfl | exact Or.inr rfl) (pe_op op_and (pv 1) (pe_op op_sub (pv 2) pe_int))) (pss_cons (ps_set (i := 4) sc_number_parts.nd rfl (by first | exact Or.inl rfl | exact Or.inr rfl) (pe_op op_shr (pe_op op_and (pv 1) (pe_fld (pv 0) rfl)) (pe_fld (pv 0) rfl))) (pss_cons (ps_if (pt_cmp (pc_gt (pv 4) pe_int)) (pss_one (ps_set (i := 3) sc_number_parts.nd rfl (by first | exact Or.inl rfl | exact Or.inr rfl) (pe_op op_add (pv 2) (pv 3)))) pss_nil) (pss_cons (ps_if (pt_cmp (pc_neI (pe_op op_and (pv 1) (pe_fld (pv 0) rfl)) pe_int)) (pss_one (ps_set (i := 3) sc_number_parts.nd rfl (by first | exact Or.inl rfl | exact Or.inr rfl) (pe_un un_neg (pv 3)))) pss_nil) (pss_one (ps_ret (pe_tup (pa_cons (pv 3) (pa_cons (pe_callB (call_max2 rfl) (by rfl) T.n_max boot_max1 (pa_cons (pe_op op_sub (pv 4) pe_int) (pa_cons pe_int pa_nil))) pa_nil)))))))))), ?_⟩
    have hf := fmt_few hk
    obtain ⟨er, ex, esg⟩ := unit_eq (f := fmt k) hc
    refine ⟨_, rfl, p, C, dx, _, _, rfl, hp, T.cl, T.a_m, shp_m _, _, _, rfl, rfl, ⟨by omega, 1, lt1 1 (by decide), by omega⟩, ?_⟩
    try dsimp only
    rw [Int.one_mul, Int.toNat_natCast]
    refine ⟨_, rfl, _, rfl, _, _, rfl, rfl, _, _, rfl, rfl, ?_⟩
    try dsimp only
    rw [er]
    refine ⟨_, rfl, _, rfl, p, C, dx, _, _, rfl, hp, T.cl, T.a_i, shp_i _, _, _, rfl, rfl, _, rfl, p, C, dx, _, _, rfl, hp, T.cl, T.a_m, shp_m _, _, _, rfl, rfl, by omega, ?_⟩
    try dsimp only
    rw [Int.toNat_natCast, ex]
    have emx : (if (0 : Int) > (Er.xOf (fmt k) c.toNat : Int) - 1 then (0 : Int) else (Er.xOf (fmt k) c.toNat : Int) - 1) = ((partB (fmt k) c : Nat) : Int) := by
      unfold partB
      split <;> omega
    unfold partA at q
    have fin : ∀ z : Int, (∀ (H' : Hp) (q : Addr), Same H H' → H' q = some (.tup [.int z, .int ((partB (fmt k) c : Nat) : Int)]) → H q = none → Q (.ref q) H') → ∀ t : Addr, H t = none → Q (.ref t) (upd H t (.tup [.int z, .int (if (0 : Int) > (Er.xOf (fmt k) c.toNat : Int) - 1 then (0 : Int) else (Er.xOf (fmt k) c.toNat : Int) - 1)])) := fun z qz t ht => by
      rw [emx]
      exact qz _ t (Same.upd ht) upd_same ht
    refine ⟨_, rfl, _, _, rfl, rfl, _, rfl, ite2 (fun c1 => ?_) (fun c1 => ?_)⟩
    · have c1 : 0 < Er.xOf (fmt k) c.toNat := by have := of_decide_eq_true c1; omega
      simp only [if_pos c1] at q
      have e3 : (2 : Int) ^ (fmt k).m + (Er.rOf (fmt k) c.toNat : Int) = ((2 ^ (fmt k).m + Er.rOf (fmt k) c.toNat : Nat) : Int) := by rw [Int.natCast_add, Int.natCast_pow]; rfl
      refine ⟨_, rfl, _, rfl, _, _, rfl, rfl, ?_⟩
      try dsimp only
      rw [e3]
      refine ⟨_, rfl, _, rfl, p, C, dx, _, _, rfl, hp, T.cl, T.a_s, shp_s _, _, _, rfl, rfl, _, _, rfl, rfl, _, rfl, ite2 (fun c2 => ?_) (fun c2 => ?_)⟩
      · have c2 : Builtin.bitAnd c ((fmt k).signBit : Int) ≠ 0 := by simpa using c2
        rw [if_pos (esg.mp c2)] at q
        exact ⟨_, rfl, _, rfl, _, rfl, _, rfl, _, _, rfl, rfl, _, _, rfl, (by show 2 ≤ sizeLine; decide), fin _ q⟩
      · have c2 : ¬ Builtin.bitAnd c ((fmt k).signBit : Int) ≠ 0 := by simpa using c2
        rw [if_neg (fun z => c2 (esg.mpr z))] at q
        exact ⟨_, rfl, _, rfl, _, _, rfl, rfl, _, _, rfl, (by show 2 ≤ sizeLine; decide), fin _ q⟩
    · have c1 : ¬ 0 < Er.xOf (fmt k) c.toNat := fun z => c1 (decide_eq_true (by omega))
      simp only [if_neg c1] at q
      refine ⟨_, rfl, _, rfl, p, C, dx, _, _, rfl, hp, T.cl, T.a_s, shp_s _, _, _, rfl, rfl, _, _, rfl, rfl, _, rfl, ite2 (fun c2 => ?_) (fun c2 => ?_)⟩
      · have c2 : Builtin.bitAnd c ((fmt k).signBit : Int) ≠ 0 := by simpa using c2
        rw [if_pos (esg.mp c2)] at q
        exact ⟨_, rfl, _, rfl, _, rfl, _, rfl, _, _, rfl, rfl, _, _, rfl, (by show 2 ≤ sizeLine; decide), fin _ q⟩
      · have c2 : ¬ Builtin.bitAnd c ((fmt k).signBit : Int) ≠ 0 := by simpa using c2
        rw [if_neg (fun z => c2 (esg.mpr z))] at q
        exact ⟨_, rfl, _, rfl, _, _, rfl, rfl, _, _, rfl, (by show 2 ≤ sizeLine; decide), fin _ q⟩
abbrev s_units_of : Stmt := top 13
theorem sc_units_of : FnScope ["shape", "cell", "parts"] ["shape", "cell"] (defScope s_units_of) := ⟨rfl, rfl, rfl, by decide +kernel, rfl, by decide +kernel, by decide +kernel⟩
theorem ok_units_of {f : Addr} {fd : FuncData} (F : Fun K "units_of" "units_of" s_units_of f fd) (T : Txt P w K mg C N)
    (c_number_parts : Callee P w K mg base 1 "number_parts" ["shape", "cell"] (sp_number_parts C)) :
    FnOk P w K mg base CX0 2 f fd ["shape", "cell"] (sp_units_of C) := by
  refine F.ok sc_units_of (fun vs H Q E h => ?_) (fun cdv A outer s H vs Q E hr h => ?_)
  · obtain ⟨p, k, c, rfl, _⟩ := h
    rfl
  · obtain ⟨p, k, c, rfl, hs, hc, q⟩ := h
    refine ⟨_, (pss_cons (ps_set (i := 2) sc_units_of.nd rfl (by first | exact Or.inl rfl | exact Or.inr rfl) (pe_callC c_number_parts (hr.mono (by decide)) (by rfl) (pa_cons (pv 0) (pa_cons (pv 1) pa_nil)))) (pss_one (ps_ret (pe_op op_shlB (pe_ix (show IxR _ (rIxT K) from ix_tup) (pv 2) pe_int (fun _ _ => rfl)) (pe_ix (show IxR _ (rIxT K) from ix_tup) (pv 2) pe_int (fun _ _ => rfl)))))), ?_⟩
    refine ⟨_, rfl, _, rfl, p, k, c, rfl, hs, hc, fun H' t sm ht _ => ?_⟩
    have hB := partB_lt hs.1 c
    refine ⟨_, rfl, _, _, _, _, rfl, rfl, SqT.of ht, rfl, _, rfl, _, _, _, _, rfl, rfl, SqT.of ht, rfl, _, _, rfl, rfl, ⟨by omega, 54, partA_lt hs.1 c, by omega⟩, ?_⟩
    try dsimp only
    rw [Int.toNat_natCast, ← part_unit]
    exact q H' sm
abbrev s_by_power : Stmt := top 24
theorem sc_by_power : FnScope ["above", "below", "power"] ["above", "below", "power"] (defScope s_by_power) := ⟨rfl, rfl, rfl, by decide +kernel, rfl, by decide +kernel, by decide +kernel⟩
theorem ok_by_power {f : Addr} {fd : FuncData} (F : Fun K "by_power" "by_power" s_by_power f fd) (T : Txt P w K mg C N) :
    FnOk P w K mg base CX0 1 f fd ["above", "below", "power"] (sp_by_power) := by
  refine F.ok sc_by_power (fun vs H Q E h => ?_) (fun cdv A outer s H vs Q E hr h => ?_)
  · obtain ⟨a, b, p, rfl, _⟩ := h
    rfl
  · obtain ⟨a, b, p, rfl, la, lb, h1, h2, q⟩ := h
    refine ⟨_, (pss_cons (ps_if (pt_cmp (pc_lt (pv 2) pe_int)) (pss_one (ps_ret (pe_tup (pa_cons (pe_op op_shlB (pv 0) (pe_un un_neg (pv 2))) (pa_cons (pv 1) pa_nil))))) pss_nil) (pss_one (ps_ret (pe_tup (pa_cons (pv 0) (pa_cons (pe_op op_shlB (pv 1) (pv 2)) pa_nil)))))), ?_⟩
    unfold byP at q
    refine ⟨_, rfl, _, _, rfl, rfl, _, rfl, ite2 (fun c => ?_) (fun c => ?_)⟩
    · have c := of_decide_eq_true c
      rw [if_pos c] at q
      exact ⟨_, rfl, _, rfl, _, rfl, _, _, rfl, rfl, ⟨by omega, 20000, la, by omega⟩, _, rfl, (by show 2 ≤ sizeLine; decide), fun t ht => q _ t (Same.upd ht) upd_same⟩
    · have c : ¬ p < 0 := fun z => c (decide_eq_true z)
      rw [if_neg c] at q
      exact ⟨_, rfl, _, rfl, _, rfl, _, _, rfl, rfl, ⟨by omega, 20000, lb, by omega⟩, (by show 2 ≤ sizeLine; decide), fun t ht => q _ t (Same.upd ht) upd_same⟩
abbrev s_floor_power : Stmt := top 23
theorem sc_floor_power : FnScope ["above", "below", "power", "parts"] ["above", "below"] (defScope s_floor_power) := ⟨rfl, rfl, rfl, by decide +kernel, rfl, by decide +kernel, by decide +kernel⟩
theorem ok_floor_power {f : Addr} {fd : FuncData} (F : Fun K "floor_power" "floor_power" s_floor_power f fd) (T : Txt P w K mg C N)
    (c_by_power : Callee P w K mg base 1 "by_power" ["above", "below", "power"] (sp_by_power)) :
    FnOk P w K mg base CX0 2 f fd ["above", "below"] (sp_floor_power) := by
  refine F.ok sc_floor_power (fun vs H Q E h => ?_) (fun cdv A outer s H vs Q E hr h => ?_)
  · obtain ⟨a, b, rfl, _⟩ := h
    rfl
  · obtain ⟨a, b, rfl, ha, hb, la, lb, q⟩ := h
    refine ⟨_, (pss_cons (ps_set (i := 2) sc_floor_power.nd rfl (by first | exact Or.inl rfl | exact Or.inr rfl) (pe_op op_sub (pe_bm0 PySem.F.plainAttrs_int slot_int_bit_length type_int_bit_length mt_bits (pv 0)) (pe_bm0 PySem.F.plainAttrs_int slot_int_bit_length type_int_bit_length mt_bits (pv 1)))) (pss_cons (ps_set (i := 3) sc_floor_power.nd rfl (by first | exact Or.inl rfl | exact Or.inr rfl) (pe_callC c_by_power (hr.mono (by decide)) (by rfl) (pa_cons (pv 0) (pa_cons (pv 1) (pa_cons (pv 2) pa_nil))))) (pss_cons (ps_if (pt_cmp (pc_lt (pe_ix (show IxR _ (rIxT K) from ix_tup) (pv 3) pe_int (fun _ _ => rfl)) (pe_ix (show IxR _ (rIxT K) from ix_tup) (pv 3) pe_int (fun _ _ => rfl)))) (pss_one (ps_ret (pe_op op_sub (pv 2) pe_int))) pss_nil) (pss_one (ps_ret (pv 2)))))), ?_⟩
    obtain ⟨l, el, l1, l2⟩ := bits_pos ha
    obtain ⟨m, em, m1, m2⟩ := bits_pos hb
    have bl := bits_of la
    have bm := bits_of lb
    have key := Er.floorP ha hb l1 l2 m1 m2
    refine ⟨_, rfl, rfl, _, rfl, rfl, _, rfl, rfl, _, rfl, rfl, _, _, rfl, rfl, ?_⟩
    have e : ((Builtin.Int.intBits a : Nat) : Int) - ((Builtin.Int.intBits b : Nat) : Int) = (l : Int) - m := by omega
    try dsimp only
    rw [e]
    refine ⟨_, rfl, _, rfl, _, rfl, a, b, (l : Int) - m, rfl, la.mono (by decide), lb.mono (by decide), by omega, by omega, fun H' t sm ht => ?_⟩
    refine ⟨_, rfl, _, _, _, _, rfl, rfl, SqT.of ht, rfl, _, rfl, _, _, _, _, rfl, rfl, SqT.of ht, rfl, _, _, rfl, rfl, _, rfl, ite2 (fun c => ?_) (fun c => ?_)⟩
    · have c := of_decide_eq_true c
      rw [if_pos c] at key
      refine ⟨_, rfl, _, _, rfl, rfl, ?_⟩
      try dsimp only
      rw [key]
      exact q H' sm
    · rw [if_neg (fun z => c (decide_eq_true z))] at key
      refine ⟨_, rfl, ?_⟩
      try dsimp only
      rw [key]
      exact q H' sm
abbrev s_nearest : Stmt := top 25
theorem sc_nearest : FnScope ["above", "below", "whole", "twice_left"] ["above", "below"] (defScope s_nearest) := ⟨rfl, rfl, rfl, by decide +kernel, rfl, by decide +kernel, by decide +kernel⟩
theorem ok_nearest {f : Addr} {fd : FuncData} (F : Fun K "nearest" "nearest" s_nearest f fd) (T : Txt P w K mg C N) :
    FnOk P w K mg base CX0 1 f fd ["above", "below"] (sp_nearest) := by
  refine F.ok sc_nearest (fun vs H Q E h => ?_) (fun cdv A outer s H vs Q E hr h => ?_)
  · obtain ⟨a, b, rfl, _⟩ := h
    rfl
  · obtain ⟨a, b, rfl, ha, hb, la, lb, q⟩ := h
    refine ⟨_, (pss_cons (ps_set (i := 2) sc_nearest.nd rfl (by first | exact Or.inl rfl | exact Or.inr rfl) (pe_op op_fdivB (pv 0) (pv 1))) (pss_cons (ps_set (i := 3) sc_nearest.nd rfl (by first | exact Or.inl rfl | exact Or.inr rfl) (pe_op op_mulB pe_int (pe_op op_mod (pv 0) (pv 1)))) (pss_cons (ps_if (PW.pt (pw_or (pt_cmp (pc_gt (pv 3) (pv 1))) (pw_or1 (PW.pt (pw_and (pt_cmp (pc_eqI (pv 3) (pv 1))) (pw_and1 (pt_cmp (pc_eqI (pe_op op_mod (pv 2) pe_int) pe_int)))))))) (pss_one (ps_ret (pe_op op_add (pv 2) pe_int))) pss_nil) (pss_one (ps_ret (pv 2)))))), ?_⟩
    have h1 := Int.emod_nonneg a (show b ≠ 0 by omega)
    have h2 := Int.emod_lt_of_pos a hb
    have lr : Lt2 (a % b) 9000 := Lt2.of_lt h1 (Int.lt_trans h2 lb.lt)
    refine ⟨_, rfl, _, rfl, _, _, rfl, rfl, ⟨hb, lb⟩, ?_⟩
    refine ⟨_, rfl, _, rfl, _, _, rfl, rfl, hb, _, _, rfl, rfl, ⟨2, 9000, by unfold Lt2; decide, lr, by decide⟩, ?_⟩
    unfold near at q
    refine ⟨_, rfl, _, rfl, _, _, rfl, rfl, _, rfl, ite2 (fun c => ?_) (fun c => ?_)⟩
    · rw [if_pos (Or.inl (of_decide_eq_true c))] at q
      refine iteT ?_
      exact ⟨_, rfl, _, _, rfl, rfl, q⟩
    · have c : ¬ b < 2 * (a % b) := fun z => c (decide_eq_true z)
      refine ⟨_, rfl, _, rfl, _, _, rfl, rfl, _, rfl, ite2 (fun c2 => ?_) (fun c2 => ?_)⟩
      · have c2 := of_decide_eq_true c2
        refine ⟨_, rfl, _, _, rfl, rfl, (by show (0 : Int) < 2; decide), _, _, rfl, rfl, _, rfl, ite2 (fun c3 => ?_) (fun c3 => ?_)⟩
        · have c3 := of_decide_eq_true c3
          rw [if_pos (Or.inr ⟨c2, c3⟩)] at q
          exact ⟨_, rfl, _, _, rfl, rfl, q⟩
        · rw [if_neg (fun z => z.elim c fun z => c3 (decide_eq_true z.2))] at q
          exact ⟨_, rfl, q⟩
      · rw [if_neg (fun z => z.elim c fun z => c2 (decide_eq_true z.1))] at q
        refine iteF ?_
        exact ⟨_, rfl, q⟩
abbrev s_stays_small : Stmt := top 28
theorem sc_stays_small : FnScope ["shape", "above", "below", "power", "parts"] ["shape", "above", "below", "power"] (defScope s_stays_small) := ⟨rfl, rfl, rfl, by decide +kernel, rfl, by decide +kernel, by decide +kernel⟩
theorem ok_stays_small {f : Addr} {fd : FuncData} (F : Fun K "stays_small" "stays_small" s_stays_small f fd) (T : Txt P w K mg C N)
    (c_by_power : Callee P w K mg base 1 "by_power" ["above", "below", "power"] (sp_by_power))
    (c_nearest : Callee P w K mg base 1 "nearest" ["above", "below"] (sp_nearest)) :
    FnOk P w K mg base CX0 2 f fd ["shape", "above", "below", "power"] (sp_stays_small C) := by
  refine F.ok sc_stays_small (fun vs H Q E h => ?_) (fun cdv A outer s H vs Q E hr h => ?_)
  · obtain ⟨p, k, a, b, rfl, _⟩ := h
    rfl
  · obtain ⟨p, k, a, b, rfl, ⟨hk, dx, hp⟩, ha, hb, la, lb, q⟩ := h
    refine ⟨_, (pss_cons (ps_if (pt_cmp (pc_ge (pv 3) (pe_fld (pv 0) rfl))) (pss_one (ps_ret pe_bl)) pss_nil) (pss_cons (ps_set (i := 4) sc_stays_small.nd rfl (by first | exact Or.inl rfl | exact Or.inr rfl) (pe_callC c_by_power (hr.mono (by decide)) (by rfl) (pa_cons (pv 1) (pa_cons (pv 2) (pa_cons (pe_op op_sub (pv 3) (pe_fld (pv 0) rfl)) pa_nil))))) (pss_one (ps_ret (pe_cmp (pc_lt (pe_callC c_nearest (hr.mono (by decide)) (by rfl) (pa_cons (pe_ix (show IxR _ (rIxT K) from ix_tup) (pv 4) pe_int (fun _ _ => rfl)) (pa_cons (pe_ix (show IxR _ (rIxT K) from ix_tup) (pv 4) pe_int (fun _ _ => rfl)) pa_nil))) (pe_op op_shlB pe_int (pe_op op_add (pe_op op_sub (pe_fld (pv 0) rfl) (pv 3)) (pe_fld (pv 0) rfl))))))))), ?_⟩
    have hL := Er.log2_bounds ha hb la lb
    have hf := fmt_few hk
    have hl := hk.least
    have hl0 := Er.least_neg hk.good
    unfold small at q
    refine ⟨_, rfl, _, rfl, p, C, dx, _, _, rfl, hp, T.cl, T.a_l, shp_l _, _, _, rfl, rfl, _, rfl, ite2 (fun c => ?_) (fun c => ?_)⟩
    · rw [if_pos (of_decide_eq_true c)] at q
      exact q H (Same.refl H)
    · have c : ¬ (fmt k).least ≤ Lw.log2 ((a : Rat) / (b : Rat)) := fun z => c (decide_eq_true z)
      rw [if_neg c] at q
      refine ⟨_, rfl, _, rfl, _, rfl, _, rfl, p, C, dx, _, _, rfl, hp, T.cl, T.a_m, shp_m _, _, _, rfl, rfl, a, b, _, rfl, la.mono (by decide), lb.mono (by decide), by omega, by omega, fun H' t sm ht => ?_⟩
      have hpos := Er.byP_pos (p := Lw.log2 ((a : Rat) / (b : Rat)) - ((fmt k).m : Int)) ha hb
      have hlt := Er.byP_lt (j := 20000) (p := Lw.log2 ((a : Rat) / (b : Rat)) - ((fmt k).m : Int)) la lb (by omega) (by omega)
      have hsn := Er.byP_snd (p := Lw.log2 ((a : Rat) / (b : Rat)) - ((fmt k).m : Int)) ha hb la lb (Or.inr (by omega))
      refine ⟨_, rfl, _, _, _, _, rfl, rfl, SqT.of ht, rfl, _, rfl, _, _, _, _, rfl, rfl, SqT.of ht, rfl, _, _, rfl, Int.le_of_lt hpos.1, hpos.2, hlt.1.mono (by decide), hsn.mono (by decide), ?_⟩
      refine ⟨_, rfl, p, C, dx, _, _, rfl, sm _ _ hp, T.cl, T.a_l, shp_l _, _, rfl, _, _, rfl, rfl, _, rfl, p, C, dx, _, _, rfl, sm _ _ hp, T.cl, T.a_m, shp_m _, _, _, rfl, rfl, _, _, rfl, rfl, ⟨by omega, 1, lt1 1 (by decide), by omega⟩, _, _, rfl, rfl, ?_⟩
      have q := q H' sm
      try dsimp only
      rw [Int.one_mul]
      exact q
abbrev s_rounded_size : Stmt := top 27
theorem sc_rounded_size : FnScope ["shape", "above", "below", "sign", "power", "kept_power", "parts", "multiple", "size"] ["shape", "above", "below", "sign"] (defScope s_rounded_size) := ⟨rfl, rfl, rfl, by decide +kernel, rfl, by decide +kernel, by decide +kernel⟩
theorem ok_rounded_size {f : Addr} {fd : FuncData} (F : Fun K "rounded_size" "rounded_size" s_rounded_size f fd) (T : Txt P w K mg C N)
    (c_floor_power : Callee P w K mg base 2 "floor_power" ["above", "below"] (sp_floor_power))
    (c_by_power : Callee P w K mg base 1 "by_power" ["above", "below", "power"] (sp_by_power))
    (c_nearest : Callee P w K mg base 1 "nearest" ["above", "below"] (sp_nearest))
    (c_stays_small : Callee P w K mg base 2 "stays_small" ["shape", "above", "below", "power"] (sp_stays_small C)) :
    FnOk P w K mg base CX0 3 f fd ["shape", "above", "below", "sign"] (sp_rounded_size C) := by
  refine F.ok sc_rounded_size (fun vs H Q E h => ?_) (fun cdv A outer s H vs Q E hr h => ?_)
  · obtain ⟨p, k, a, b, sg, rfl, _⟩ := h
    rfl
  · obtain ⟨p, k, a, b, sg, rfl, ⟨hk, dx, hp⟩, ha, hb, la, lb, q⟩ := h
    refine ⟨_, (pss_cons (ps_set (i := 4) sc_rounded_size.nd rfl (by first | exact Or.inl rfl | exact Or.inr rfl) (pe_callC c_floor_power (hr.mono (by decide)) (by rfl) (pa_cons (pv 1) (pa_cons (pv 2) pa_nil)))) (pss_cons (ps_set (i := 5) sc_rounded_size.nd rfl (by first | exact Or.inl rfl | exact Or.inr rfl) (pe_callB (call_max2 rfl) (by rfl) T.n_max boot_max1 (pa_cons (pv 4) (pa_cons (pe_fld (pv 0) rfl) pa_nil)))) (pss_cons (ps_set (i := 6) sc_rounded_size.nd rfl (by first | exact Or.inl rfl | exact Or.inr rfl) (pe_callC c_by_power (hr.mono (by decide)) (by rfl) (pa_cons (pv 1) (pa_cons (pv 2) (pa_cons (pe_op op_sub (pv 5) (pe_fld (pv 0) rfl)) pa_nil))))) (pss_cons (ps_set (i := 7) sc_rounded_size.nd rfl (by first | exact Or.inl rfl | exact Or.inr rfl) (pe_callC c_nearest (hr.mono (by decide)) (by rfl) (pa_cons (pe_ix (show IxR _ (rIxT K) from ix_tup) (pv 6) pe_int (fun _ _ => rfl)) (pa_cons (pe_ix (show IxR _ (rIxT K) from ix_tup) (pv 6) pe_int (fun _ _ => rfl)) pa_nil)))) (pss_cons (ps_set (i := 8) sc_rounded_size.nd rfl (by first | exact Or.inl rfl | exact Or.inr rfl) (pe_op op_add (pe_op op_shlB (pe_op op_sub (pv 5) (pe_fld (pv 0) rfl)) (pe_fld (pv 0) rfl)) (pv 7))) (pss_cons (ps_if (pt_cmp (pc_ge (pv 8) (pe_fld (pv 0) rfl))) (pss_one (ps_ret (pe_lst (pa_cons (pe_op op_add (pe_globI (by rfl) T.g_TOO_GREAT) (pe_globI (by rfl) T.g_NOT_EXACT)) (pa_cons (pe_op op_add (pv 3) (pe_fld (pv 0) rfl)) pa_nil))))) pss_nil) (pss_cons (ps_if (pt_cmp (pc_eqI (pe_ix (show IxR _ (rIxT K) from ix_tup) (pv 6) pe_int (fun _ _ => rfl)) (pe_op op_mulB (pv 7) (pe_ix (show IxR _ (rIxT K) from ix_tup) (pv 6) pe_int (fun _ _ => rfl))))) (pss_one (ps_ret (pe_lst (pa_cons pe_int (pa_cons (pe_op op_add (pv 3) (pv 8)) pa_nil))))) pss_nil) (pss_cons (ps_if (pt_val (pe_callC c_stays_small (hr.mono (by decide)) (by rfl) (pa_cons (pv 0) (pa_cons (pv 1) (pa_cons (pv 2) (pa_cons (pv 4) pa_nil)))))) (pss_one (ps_ret (pe_lst (pa_cons (pe_op op_add (pe_globI (by rfl) T.g_TOO_SMALL) (pe_globI (by rfl) T.g_NOT_EXACT)) (pa_cons (pe_op op_add (pv 3) (pv 8)) pa_nil))))) pss_nil) (pss_one (ps_ret (pe_lst (pa_cons (pe_globI (by rfl) T.g_NOT_EXACT) (pa_cons (pe_op op_add (pv 3) (pv 8)) pa_nil))))))))))))), ?_⟩
    have hL := Er.log2_bounds ha hb la lb
    have hf := fmt_few hk
    have hl := hk.least
    have hl0 := Er.least_neg hk.good
    have hkb := Er.kept_bounds hk ha hb la lb
    have hlk := Er.least_le_kept (f := fmt k) (a := a) (b := b)
    refine ⟨_, rfl, _, rfl, a, b, rfl, ha, hb, la, lb, fun H1 s1 => ?_⟩
    refine ⟨_, rfl, _, rfl, p, C, dx, _, _, rfl, s1 _ _ hp, T.cl, T.a_l, shp_l _, _, _, rfl, ?_⟩
    have ek : (if (fmt k).least > Lw.log2 ((a : Rat) / (b : Rat)) then (fmt k).least else Lw.log2 ((a : Rat) / (b : Rat))) = kept (fmt k) a b := by
      unfold kept
      split <;> omega
    try dsimp only
    rw [ek]
    refine ⟨_, rfl, _, rfl, _, rfl, _, rfl, p, C, dx, _, _, rfl, s1 _ _ hp, T.cl, T.a_m, shp_m _, _, _, rfl, rfl, a, b, _, rfl, la.mono (by decide), lb.mono (by decide), by omega, by omega, fun H2 t s2 ht => ?_⟩
    have hpos := Er.prt_pos (f := fmt k) ha hb
    have hlt := Er.byP_lt (j := 20000) (p := kept (fmt k) a b - ((fmt k).m : Int)) la lb (by omega) (by omega)
    have hsn := Er.prt_snd hk ha hb la lb
    have hml := Er.mult_lt hk ha hb
    have s12 := s1.trans s2
    refine ⟨_, rfl, _, _, _, _, rfl, rfl, SqT.of ht, rfl, _, rfl, _, _, _, _, rfl, rfl, SqT.of ht, rfl, _, _, rfl, Int.le_of_lt hpos.1, hpos.2, hlt.1.mono (by decide), hsn.mono (by decide), ?_⟩
    refine ⟨_, rfl, _, rfl, p, C, dx, _, _, rfl, s12 _ _ hp, T.cl, T.a_l, shp_l _, _, _, rfl, rfl, _, rfl, p, C, dx, _, _, rfl, s12 _ _ hp, T.cl, T.a_m, shp_m _, _, _, rfl, rfl, ⟨by omega, 14, Lt2.of_lt (by omega) (by show _ < ((2 : Int) ^ 14); omega), by omega⟩, _, rfl, _, _, rfl, rfl, ?_⟩
    have es : (kept (fmt k) a b - (fmt k).least) * 2 ^ ((fmt k).m : Int).toNat + near (byP a b (kept (fmt k) a b - ((fmt k).m : Int))).1 (byP a b (kept (fmt k) a b - ((fmt k).m : Int))).2 = size (fmt k) a b := by
      try dsimp only
      rw [Int.toNat_natCast]
      rfl
    try dsimp only
    rw [es]
    unfold rsize at q
    refine ⟨_, rfl, _, rfl, p, C, dx, _, _, rfl, s12 _ _ hp, T.cl, T.a_i, shp_i _, _, _, rfl, rfl, _, rfl, ite2 (fun c => ?_) (fun c => ?_)⟩
    · rw [if_pos (of_decide_eq_true c)] at q
      exact ⟨_, _, rfl, rfl, _, rfl, _, rfl, p, C, dx, _, _, rfl, s12 _ _ hp, T.cl, T.a_i, shp_i _, _, _, rfl, rfl, (by show 2 ≤ sizeLine; decide), fun l hl => q _ l (s12.trans (Same.upd hl)) upd_same (s12.free hl)⟩
    · rw [if_neg (fun z => c (decide_eq_true z))] at q
      refine ⟨_, rfl, _, _, _, _, rfl, rfl, SqT.of ht, rfl, _, rfl, _, rfl, _, _, _, _, rfl, rfl, SqT.of ht, rfl, _, _, rfl, rfl, ⟨54, 9000, hml, hsn.mono (by decide), by decide⟩, _, _, rfl, rfl, _, rfl, ite2 (fun c2 => ?_) (fun c2 => ?_)⟩
      · have c2 : (prt (fmt k) a b).1 = mult (fmt k) a b * (prt (fmt k) a b).2 := of_decide_eq_true c2
        rw [if_pos c2] at q
        exact ⟨_, rfl, _, rfl, _, _, rfl, rfl, (by show 2 ≤ sizeLine; decide), fun l hl => q _ l (s12.trans (Same.upd hl)) upd_same (s12.free hl)⟩
      · have c2 : ¬ (prt (fmt k) a b).1 = mult (fmt k) a b * (prt (fmt k) a b).2 := fun z => c2 (decide_eq_true z)
        rw [if_neg c2] at q
        refine ⟨_, rfl, _, rfl, _, rfl, _, rfl, p, k, a, b, rfl, ⟨hk, dx, s12 _ _ hp⟩, ha, hb, la, lb, fun H3 s3 => ?_⟩
        have s13 := s12.trans s3
        refine ⟨_, rfl, ite2 (fun c3 => ?_) (fun c3 => ?_)⟩
        · rw [if_pos c3] at q
          exact ⟨_, _, rfl, rfl, _, rfl, _, rfl, _, _, rfl, rfl, (by show 2 ≤ sizeLine; decide), fun l hl => q _ l (s13.trans (Same.upd hl)) upd_same (s13.free hl)⟩
        · rw [if_neg c3] at q
          exact ⟨_, rfl, _, rfl, _, _, rfl, rfl, (by show 2 ≤ sizeLine; decide), fun l hl => q _ l (s13.trans (Same.upd hl)) upd_same (s13.free hl)⟩
abbrev s_rounded : Stmt := top 26
theorem sc_rounded : FnScope ["shape", "above", "below", "sign"] ["shape", "above", "below"] (defScope s_rounded) := ⟨rfl, rfl, rfl, by decide +kernel, rfl, by decide +kernel, by decide +kernel⟩
theorem ok_rounded {f : Addr} {fd : FuncData} (F : Fun K "rounded" "rounded" s_rounded f fd) (T : Txt P w K mg C N)
    (c_rounded_size : Callee P w K mg base 3 "rounded_size" ["shape", "above", "below", "sign"] (sp_rounded_size C)) :
    FnOk P w K mg base CX0 4 f fd ["shape", "above", "below"] (sp_rounded C) := by
  refine F.ok sc_rounded (fun vs H Q E h => ?_) (fun cdv A outer s H vs Q E hr h => ?_)
  · obtain ⟨p, k, a, b, rfl, _⟩ := h
    rfl
  · obtain ⟨p, k, a, b, rfl, ⟨hk, dx, hp⟩, hb, la, lb, q⟩ := h
    refine ⟨_, (pss_cons (ps_if (pt_cmp (pc_eqI (pv 1) pe_int)) (pss_one (ps_ret (pe_lst (pa_cons pe_int (pa_cons pe_int pa_nil))))) pss_nil) (pss_cons (ps_set (i := 3) sc_rounded.nd rfl (by first | exact Or.inl rfl | exact Or.inr rfl) (pe_ifExp (pt_cmpR op_ne (pe_cmp (pc_lt (pv 1) pe_int)) (pe_cmp (pc_lt (pv 2) pe_int)) (nomark _)) (pe_fld (pv 0) rfl) pe_int)) (pss_one (ps_ret (pe_callC c_rounded_size (hr.mono (by decide)) (by rfl) (pa_cons (pv 0) (pa_cons (pe_callB call_abs (by rfl) T.n_abs boot_abs1 (pa_cons (pv 1) pa_nil)) (pa_cons (pe_callB call_abs (by rfl) T.n_abs boot_abs1 (pa_cons (pv 2) pa_nil)) (pa_cons (pv 3) pa_nil))))))))), ?_⟩
    unfold rnd at q
    refine ⟨_, rfl, _, _, rfl, rfl, _, rfl, ite2 (fun c => ?_) (fun c => ?_)⟩
    · rw [if_pos (of_decide_eq_true c)] at q
      exact ⟨(by show 2 ≤ sizeLine; decide), fun l hl => q _ l (Same.upd hl) upd_same hl⟩
    · have c : ¬ a = 0 := fun z => c (decide_eq_true z)
      rw [if_neg c] at q
      have hA : 0 < (if a < 0 then -a else a) := by split <;> omega
      have hB : 0 < (if b < 0 then -b else b) := by split <;> omega
      have edec : (!decide (V.bl (decide (a < 0)) = V.bl (decide (b < 0)))) = (decide (a < 0) != decide (b < 0)) := by
        rw [dec_bl]; rfl
      refine ⟨_, rfl, _, _, rfl, rfl, _, rfl, _, _, rfl, rfl, rfl, _, rfl, ?_⟩
      try dsimp only
      rw [edec]
      refine ite2 (fun c2 => ?_) (fun c2 => ?_)
      · rw [if_pos c2] at q
        exact ⟨_, rfl, p, C, dx, _, _, rfl, hp, T.cl, T.a_s, shp_s _, _, rfl, _, rfl, _, rfl, _, rfl, _, rfl, _, rfl, p, k, _, _, _, rfl, ⟨hk, dx, hp⟩, hA, hB, la.abs, lb.abs, q⟩
      · rw [if_neg c2] at q
        exact ⟨_, rfl, _, rfl, _, rfl, _, rfl, _, rfl, _, rfl, p, k, _, _, _, rfl, ⟨hk, dx, hp⟩, hA, hB, la.abs, lb.abs, q⟩
abbrev s_rounded_units : Stmt := top 29
theorem sc_rounded_units : FnScope ["shape", "above", "below", "degree"] ["shape", "above", "below", "degree"] (defScope s_rounded_units) := ⟨rfl, rfl, rfl, by decide +kernel, rfl, by decide +kernel, by decide +kernel⟩
theorem ok_rounded_units {f : Addr} {fd : FuncData} (F : Fun K "rounded_units" "rounded_units" s_rounded_units f fd) (T : Txt P w K mg C N)
    (c_rounded : Callee P w K mg base 4 "rounded" ["shape", "above", "below"] (sp_rounded C)) :
    FnOk P w K mg base CX0 5 f fd ["shape", "above", "below", "degree"] (sp_rounded_units C) := by
  refine F.ok sc_rounded_units (fun vs H Q E h => ?_) (fun cdv A outer s H vs Q E hr h => ?_)
  · obtain ⟨p, k, a, b, d, rfl, _⟩ := h
    rfl
  · obtain ⟨p, k, a, b, d, rfl, ⟨hk, dx, hp⟩, hb, la, lb, hd, q⟩ := h
    refine ⟨_, (pss_one (ps_ret (pe_callC c_rounded (hr.mono (by decide)) (by rfl) (pa_cons (pv 0) (pa_cons (pv 1) (pa_cons (pe_op op_shlB (pv 2) (pe_op op_mulB (pv 3) (pe_fld (pv 0) rfl))) pa_nil)))))), ?_⟩
    have hdep := hk.depth
    have hl0 := Er.least_neg hk.good
    have e1 : ((fmt k).m : Int) - (fmt k).least = (depth (fmt k) : Int) := by unfold depth; omega
    have e2 : ((d : Int) * (depth (fmt k) : Int)) = ((d * depth (fmt k) : Nat) : Int) := by rw [Int.natCast_mul]
    have hle : d * depth (fmt k) ≤ 4 * 1074 := Nat.mul_le_mul hd hdep
    have ld : Lt2 (d : Int) 13 := Lt2.len (by omega)
    have lD : Lt2 (depth (fmt k) : Int) 13 := Lt2.len (by omega)
    refine ⟨_, rfl, _, rfl, _, rfl, _, rfl, _, rfl, p, C, dx, _, _, rfl, hp, T.cl, T.a_u, shp_u _, _, _, rfl, rfl, ?_⟩
    try dsimp only
    rw [e1]
    refine ⟨⟨13, 13, ld, lD, by decide⟩, _, _, rfl, rfl, ?_⟩
    try dsimp only
    rw [e2]
    refine ⟨⟨by omega, 4400, lb, by omega⟩, p, k, _, _, rfl, ⟨hk, dx, hp⟩, ?_, la, ?_, ?_⟩
    · rw [Int.toNat_natCast]
      exact Int.mul_ne_zero hb (Er.pow_ne (by decide) _)
    · rw [Int.toNat_natCast]
      exact (Lt2.shl lb).mono (by omega)
    · rw [Int.toNat_natCast]
      exact q
abbrev s_quantile : Stmt := top 33
theorem sc_quantile : FnScope ["shape", "ordered", "a", "b", "reach", "low", "rest", "high", "start", "way"] ["shape", "ordered", "a", "b"] (defScope s_quantile) := ⟨rfl, rfl, rfl, by decide +kernel, rfl, by decide +kernel, by decide +kernel⟩
theorem ok_quantile {f : Addr} {fd : FuncData} (F : Fun K "quantile" "quantile" s_quantile f fd) (T : Txt P w K mg C N)
    (c_is_number : Callee P w K mg base 1 "is_number" ["shape", "cell"] (sp_is_number C))
    (c_between_no_numbers : Callee P w K mg base 2 "between_no_numbers" ["shape", "low", "high"] (sp_between_no_numbers C))
    (c_units_of : Callee P w K mg base 2 "units_of" ["shape", "cell"] (sp_units_of C))
    (c_rounded_units : Callee P w K mg base 5 "rounded_units" ["shape", "above", "below", "degree"] (sp_rounded_units C)) :
    FnOk P w K mg base CX0 6 f fd ["shape", "ordered", "a", "b"] (sp_quantile K C) := by
  refine F.ok sc_quantile (fun vs H Q E h => ?_) (fun cdv A outer s H vs Q E hr h => ?_)
  · obtain ⟨s, L, k, r, p, rfl, _⟩ := h
    rfl
  · obtain ⟨s, L, k, r, p, rfl, hs, hl, hr0, hr1, hform, ha0, hab, hb0, hb1, q⟩ := h
    have hK := hs.1
    have e32 : (2 : Int) ^ 32 = 4294967296 := by decide
    obtain ⟨pa, pb⟩ := p
    dsimp only at ha0 hab hb0 hb1 q ⊢
    obtain ⟨a, rfl⟩ := Int.eq_ofNat_of_zero_le ha0
    obtain ⟨b, rfl⟩ := Int.eq_ofNat_of_zero_le (Int.le_of_lt hb0)
    have hbn : 0 < b := by omega
    have habn : a ≤ b := by omega
    have el : ((r.map V.int).length : Int) - 1 = ((r.length - 1 : Nat) : Int) := by rw [List.length_map]; omega
    refine ⟨_, (pss_cons (ps_set (i := 4) sc_quantile.nd rfl (by first | exact Or.inl rfl | exact Or.inr rfl) (pe_op op_mulB (pe_op op_sub (pe_callB call_len_seq (by rfl) T.n_len boot_len1 (pa_cons (pv 1) pa_nil)) pe_int) (pv 2))) (pss_cons (ps_set (i := 5) sc_quantile.nd rfl (by first | exact Or.inl rfl | exact Or.inr rfl) (pe_ix (show IxR _ (rIxL K) from ix_list) (pv 1) (pe_op op_fdivB (pv 4) (pv 3)) (fun _ _ => rfl))) (pss_cons (ps_set (i := 6) sc_quantile.nd rfl (by first | exact Or.inl rfl | exact Or.inr rfl) (pe_op op_mod (pv 4) (pv 3))) (pss_cons (ps_if (pt_cmp (pc_eqI (pv 6) pe_int)) (pss_one (ps_ret (pe_lst (pa_cons pe_int (pa_cons (pv 5) pa_nil))))) pss_nil) (pss_cons (ps_set (i := 7) sc_quantile.nd rfl (by first | exact Or.inl rfl | exact Or.inr rfl) (pe_ix (show IxR _ (rIxL K) from ix_list) (pv 1) (pe_op op_add (pe_op op_fdivB (pv 4) (pv 3)) pe_int) (fun _ _ => rfl))) (pss_cons (ps_if (pt_not (PW.pt (pw_and (pt_val (pe_callC c_is_number (hr.mono (by decide)) (by rfl) (pa_cons (pv 0) (pa_cons (pv 5) pa_nil)))) (pw_and1 (pt_val (pe_callC c_is_number (hr.mono (by decide)) (by rfl) (pa_cons (pv 0) (pa_cons (pv 7) pa_nil)))))))) (pss_one (ps_ret (pe_lst (pa_cons pe_int (pa_cons (pe_callC c_between_no_numbers (hr.mono (by decide)) (by rfl) (pa_cons (pv 0) (pa_cons (pv 5) (pa_cons (pv 7) pa_nil)))) pa_nil))))) pss_nil) (pss_cons (ps_set (i := 8) sc_quantile.nd rfl (by first | exact Or.inl rfl | exact Or.inr rfl) (pe_callC c_units_of (hr.mono (by decide)) (by rfl) (pa_cons (pv 0) (pa_cons (pv 5) pa_nil)))) (pss_cons (ps_set (i := 9) sc_quantile.nd rfl (by first | exact Or.inl rfl | exact Or.inr rfl) (pe_op op_sub (pe_callC c_units_of (hr.mono (by decide)) (by rfl) (pa_cons (pv 0) (pa_cons (pv 7) pa_nil))) (pv 8))) (pss_one (ps_ret (pe_callC c_rounded_units (hr.mono (by decide)) (by rfl) (pa_cons (pv 0) (pa_cons (pe_op op_add (pe_op op_mulB (pv 8) (pv 3)) (pe_op op_mulB (pv 9) (pv 6))) (pa_cons (pv 3) (pa_cons pe_int pa_nil))))))))))))))), ?_⟩
    refine ⟨_, rfl, L, _, rfl, Or.inl hl, _, _, rfl, rfl, _, rfl, _, _, rfl, rfl, ?_⟩
    try dsimp only
    rw [el]
    refine ⟨⟨13, 32, Lt2.len (by omega), Lt2.of_lt (by omega) (by omega), by decide⟩, ?_⟩
    obtain ⟨t, ht⟩ : ∃ t, t = (r.length - 1) * a := ⟨_, rfl⟩
    have et : ((r.length - 1 : Nat) : Int) * (a : Int) = (t : Int) := by rw [ht, Int.natCast_mul]
    try dsimp only
    rw [et]
    have htb : t ≤ (r.length - 1) * b := by rw [ht]; exact Nat.mul_le_mul_left _ habn
    have ed : (t : Int) / (b : Int) = ((t / b : Nat) : Int) := by rw [Int.natCast_ediv]
    have em : (t : Int) % (b : Int) = ((t % b : Nat) : Int) := by rw [Int.natCast_emod]
    have hi : t / b ≤ r.length - 1 := by
      have := Nat.div_le_div_right (c := b) htb
      rw [Nat.mul_div_cancel _ hbn] at this
      exact this
    have lb : Lt2 ((b : Nat) : Int) 32 := Lt2.of_lt (by omega) (by omega)
    refine ⟨_, rfl, _, rfl, _, rfl, _, _, rfl, rfl, ⟨by omega, lb.mono (by decide)⟩, ?_⟩
    try dsimp only
    rw [ed]
    refine ⟨L, _, _, _, rfl, rfl, hl, at_of (j := t / b) rfl (getI_at (by omega)), ?_⟩
    refine ⟨_, rfl, _, rfl, _, _, rfl, rfl, by omega, ?_⟩
    try dsimp only
    rw [em]
    have hq0 : quantC k r ((a : Int), (b : Int)) = quantK k (BdNeutral.nats r) a b := by
      unfold quantC
      simp only [Int.toNat_natCast]
    unfold quantK at hq0
    have hnl : (BdNeutral.nats r).length = r.length := Er.nats_len r
    rw [hnl, ← ht] at hq0
    dsimp only at hq0
    rw [getD_nats, getD_nats] at hq0
    have hmi : r.getD (t / b) 0 ∈ r := by
      rw [List.getD_eq_getElem?_getD, List.getElem?_eq_getElem (by omega)]
      exact List.getElem_mem ..
    obtain ⟨cx, fx⟩ := hform _ hmi
    obtain ⟨x0, _⟩ := cellI_K cx
    generalize hx : r.getD (t / b) 0 = x at *
    have ex : ((x.toNat : Nat) : Int) = x := by omega
    refine ⟨_, rfl, _, _, rfl, rfl, _, rfl, ite2 (fun c => ?_) (fun c => ?_)⟩
    · have c := of_decide_eq_true c
      rw [if_pos (by omega), ex] at hq0
      rw [hq0] at q
      exact ⟨_, rfl, (by show 2 ≤ sizeLine; decide), fun l hl => q _ l (Same.upd hl) upd_same hl⟩
    have c : ¬ ((t % b : Nat) : Int) = 0 := fun z => c (decide_eq_true z)
    rw [if_neg (by omega)] at hq0
    have hi2 : t / b + 1 ≤ r.length - 1 := by
      by_cases z : t / b < r.length - 1
      · omega
      · have e1 : t / b = r.length - 1 := by omega
        have e2 := Nat.div_add_mod t b
        rw [e1, Nat.mul_comm] at e2
        omega
    have hmj : r.getD (t / b + 1) 0 ∈ r := by
      rw [List.getD_eq_getElem?_getD, List.getElem?_eq_getElem (by omega)]
      exact List.getElem_mem ..
    obtain ⟨cy, fy⟩ := hform _ hmj
    obtain ⟨y0, _⟩ := cellI_K cy
    refine ⟨_, rfl, _, rfl, _, rfl, _, _, rfl, rfl, ⟨by omega, lb.mono (by decide)⟩, ?_⟩
    try dsimp only
    rw [ed]
    refine ⟨_, _, rfl, rfl, L, _, _, _, rfl, rfl, hl, at_of (j := t / b + 1) (by rw [Int.natCast_add]; rfl) (getI_at (by omega)), ?_⟩
    generalize r.getD (t / b + 1) 0 = y at *
    have ey : ((y.toNat : Nat) : Int) = y := by omega
    obtain ⟨hk, dx, hp⟩ := id hs
    have betwc : ¬ (numI (fmt k) x = true ∧ numI (fmt k) y = true) → ∀ l : Addr, H l = none → Q (.ref l) (upd H l (.lst [.int 0, .int (betw (fmt k) x y)])) := fun hn l hl => by
      rw [if_neg (show ¬ (Er.isNum (fmt k) x.toNat = true ∧ Er.isNum (fmt k) y.toNat = true) from hn), betw_eq hK cx fx cy fy hn] at hq0
      rw [hq0] at q
      exact q _ l (Same.upd hl) upd_same hl
    refine ⟨_, rfl, _, rfl, s, k, x, rfl, hs, x0, _, rfl, ite2 (fun c1 => ?_) (fun c1 => ?_)⟩
    · refine ⟨_, rfl, _, rfl, s, k, y, rfl, hs, y0, _, rfl, ite2 (fun c2 => ?_) (fun c2 => ?_)⟩
      · have c2 : ¬ numI (fmt k) y = true := by simpa using c2
        exact ⟨_, rfl, _, rfl, _, rfl, s, k, x, y, rfl, hs, x0, y0, (by show 2 ≤ sizeLine; decide), betwc fun z => c2 z.2⟩
      · have c2 : numI (fmt k) y = true := by simpa using c2
        rw [if_pos (show Er.isNum (fmt k) x.toNat = true ∧ Er.isNum (fmt k) y.toNat = true from ⟨c1, c2⟩)] at hq0
        have ux := Er.unit_lt hK x
        have uy := Er.unit_lt hK y
        have lm : Lt2 ((t % b : Nat) : Int) 32 := Lt2.of_lt (by omega) (by have := Nat.mod_lt t hbn; omega)
        refine ⟨_, rfl, _, rfl, s, k, x, rfl, hs, x0, fun H1 s1 => ?_⟩
        refine ⟨_, rfl, _, rfl, s, k, y, rfl, hs.mono s1, y0, fun H2 s2 => ⟨_, rfl, _, _, rfl, rfl, ?_⟩⟩
        refine ⟨_, rfl, _, rfl, _, rfl, _, _, rfl, rfl, ⟨2100, 32, ux, lb, by decide⟩, _, rfl, _, rfl, _, _, rfl, rfl, ⟨2101, 32, uy.sub ux, lm, by decide⟩, _, _, rfl, rfl, _, rfl, s, k, _, _, 1, rfl, hs.mono (s1.trans s2), by omega, Lt2.mono (Lt2.add ((ux.mul lb).mono (m := 2133) (by decide)) ((uy.sub ux).mul lm)) (by decide), lb.mono (by decide), by decide, fun H3 l s3 hl3 hf3 => ?_⟩
        refine q H3 l (s1.trans (s2.trans s3)) ?_ ((s1.trans s2).free hf3)
        rw [hl3, hq0]
        rfl
    · have c1 : ¬ numI (fmt k) x = true := c1
      refine iteT ?_
      exact ⟨_, rfl, _, rfl, _, rfl, s, k, x, y, rfl, hs, x0, y0, (by show 2 ≤ sizeLine; decide), betwc fun z => c1 z.1⟩
abbrev s_one_answer : Stmt := top 30
theorem sc_one_answer : FnScope ["results", "flags", "result"] ["results"] (defScope s_one_answer) := ⟨rfl, rfl, rfl, by decide +kernel, rfl, by decide +kernel, by decide +kernel⟩
def lc_one_answer_0 : Scope := { kind := PySem.ScopeKind.function, names := [(PySem.Str.ofString ".0", PySem.NameKind.local), (PySem.Str.ofString "result", PySem.NameKind.local)], isGenerator := false, isCoroutine := false, more := [] : PySem.Scope }
theorem blk_lc_one_answer_0 : BlkOk ["results", "flags", "result"] (defScope s_one_answer) lc_one_answer_0 [("result", 2)] := ⟨rfl, by decide +kernel, by decide +kernel, by decide +kernel, by decide +kernel⟩
theorem ok_one_answer {f : Addr} {fd : FuncData} (F : Fun K "one_answer" "one_answer" s_one_answer f fd) (T : Txt P w K mg C N) :
    FnOk P w K mg base CX0 1 f fd ["results"] (sp_one_answer K) := by
  refine F.ok sc_one_answer (fun vs H Q E h => ?_) (fun cdv A outer s H vs Q E hr h => ?_)
  · obtain ⟨a, as, rs, rfl, _⟩ := h
    rfl
  · obtain ⟨a, as, rs, rfl, hl, hres, hlen, q⟩ := h
    refine ⟨_, (pss_cons (ps_set (i := 1) sc_one_answer.nd rfl (by first | exact Or.inl rfl | exact Or.inr rfl) pe_int) (pss_cons (ps_for PassesOwn.never rfl (pi_list (pv 0)) (pg_name (i := 2) sc_one_answer.nd rfl (Or.inl rfl) (by first | exact Or.inl rfl | exact Or.inr rfl)) (pss_one (ps_set (i := 1) sc_one_answer.nd rfl (by first | exact Or.inl rfl | exact Or.inr rfl) (pe_op op_or (pv 1) (pe_ix (show IxR _ (rIxL K) from ix_list) (pv 2) pe_int (fun _ _ => rfl)))))) (pss_one (ps_ret (pe_op op_cat (pe_lst (pa_cons (pv 1) pa_nil)) (pe_lc rfl sc_one_answer.nd (pi_list (pv 0)) (blk_lc_one_answer_0) (fun _ _ _ _ _ => pg_name (i := 2) sc_one_answer.nd rfl (Or.inl rfl) (by first | exact Or.inl rfl | exact Or.inr rfl)) (fun _ _ _ _ _ => pts_nil) (fun _ _ _ _ _ => (pe_ix (show IxR _ (rIxL K) from ix_list) (pv 2) pe_int (fun _ _ => rfl))))))))), ?_⟩
    have hlr : as.length = rs.length := Paired.length hres
    refine ⟨_, rfl, a, rfl, ⟨_, hl⟩, for_list (K := K) (a := a) (xs := as.map V.ref) (fun i σ H' => H' = H ∧ ∃ v2 : Option V, σ = [some (.ref a), some (.int (flagsOf (rs.take i))), v2])
      ⟨rfl, none, rfl⟩ (fun i σ H' _ ⟨e, _⟩ => e ▸ hl) ?_ ?_⟩
    · rintro i y σ H' hi ⟨rfl, v2, rfl⟩
      rw [List.getElem?_map] at hi
      obtain ⟨ai, hai, rfl⟩ := Option.map_eq_some_iff.mp hi
      obtain ⟨r, hr1, hsq, hr0⟩ := res_get hres hai
      refine ⟨_, rfl, _, rfl, ai, _, _, _, rfl, rfl, hsq, rfl, _, _, rfl, rfl, ?_⟩
      refine ⟨rfl, some (.ref ai), ?_⟩
      rw [take_snocV hr1, flags_snoc]
      show [some (V.ref a), some (V.int (Builtin.bitOr (flagsOf (rs.take i)) r.1)), some (V.ref ai)] = _
      rw [Bits.bitOr_pp (flags_nonneg _) hr0]
      rfl
    · rintro σ H' ⟨rfl, v2, rfl⟩
      rw [List.length_map, hlr, List.take_length]
      refine ⟨_, rfl, (by show 1 ≤ sizeLine; decide), fun l1 h1 => ?_⟩
      have s1 : Same H' _ := Same.upd (o := .lst [.int (flagsOf rs)]) h1
      have hl1 := s1.seq hl
      dsimp only [tRet, tCB, tCons, tNil, tSeq, tAsg, gName, tIfS, tNot, tB, tNext]
      refine tLc_in ?_
      refine ⟨_, rfl, a, rfl, ⟨_, hl1⟩, ?_⟩
      refine er_lcG (ys := (rs.map fun r => r.2).map V.int) hl1 (by rw [List.length_map]; exact Nat.lt_of_le_of_lt hlen (by decide)) (by rw [List.length_map, List.length_map, List.length_map, hlr]) (fun i y z H2 Q' hi hz sm q' => ?_) (fun H2 D sm hd hD => ?_)
      · rw [List.getElem?_map] at hi
        obtain ⟨ai, hai, rfl⟩ := Option.map_eq_some_iff.mp hi
        obtain ⟨r, hr1, hsq, hr0⟩ := res_get hres hai
        rw [List.getElem?_map, List.getElem?_map, hr1] at hz
        cases Option.some.inj hz
        exact ⟨_, rfl, ai, _, _, _, rfl, rfl, sm.seq (s1.seq hsq), rfl, q' _ (Same.refl _)⟩
      · refine ⟨l1, D, _, _, rfl, rfl, sm _ _ upd_same, hd, ?_, fun l4 h4 => ?_⟩
        · rw [List.length_map, List.length_map, ← hlr]
          show 1 + as.length ≤ sizeLine
          exact Nat.le_trans (Nat.add_le_add_left hlen 1) (by decide)
        · refine q _ l4 (s1.trans (sm.trans (Same.upd h4))) ?_
          rw [upd_same]
          rfl
abbrev s_quant : Stmt := top 46
theorem sc_quant : FnScope ["kind", "x", "fractions", "refused", "shape", "ordered", "results", "i"] ["kind", "x", "fractions"] (defScope s_quant) := ⟨rfl, rfl, rfl, by decide +kernel, rfl, by decide +kernel, by decide +kernel⟩
def lc_quant_0 : Scope := { kind := PySem.ScopeKind.function, names := [ (PySem.Str.ofString ".0", PySem.NameKind.local), (PySem.Str.ofString "i", PySem.NameKind.local), (PySem.Str.ofString "quantile", PySem.NameKind.globalImplicit), (PySem.Str.ofString "fractions", PySem.NameKind.free), (PySem.Str.ofString "ordered", PySem.NameKind.free), (PySem.Str.ofString "shape", PySem.NameKind.free)], isGenerator := false, isCoroutine := false, more := [] : PySem.Scope }
theorem blk_lc_quant_0 : BlkOk ["kind", "x", "fractions", "refused", "shape", "ordered", "results", "i"] (defScope s_quant) lc_quant_0 [("i", 7)] := ⟨rfl, by decide +kernel, by decide +kernel, by decide +kernel, by decide +kernel⟩
theorem ok_quant {f : Addr} {fd : FuncData} (F : Fun K "quant" "quant" s_quant f fd) (T : Txt P w K mg C N)
    (c_quantile_refusal : Callee P w K mg base 5 "quantile_refusal" ["kind", "row", "fractions"] (sp_quantile_refusal K))
    (c_shape_of : Callee P w K mg base 3 "shape_of" ["kind"] (sp_shape_of C))
    (c_in_order : Callee P w K mg base 5 "in_order" ["kind", "row"] (sp_in_order K))
    (c_quantile : Callee P w K mg base 6 "quantile" ["shape", "ordered", "a", "b"] (sp_quantile K C))
    (c_one_answer : Callee P w K mg base 1 "one_answer" ["results"] (sp_one_answer K)) :
    FnOk P w K mg base CX0 7 f fd ["kind", "x", "fractions"] (sp_quant K) := by
  refine F.ok sc_quant (fun vs H Q E h => ?_) (fun cdv A outer s H vs Q E hr h => ?_)
  · obtain ⟨kind, a, b, x, qs, m, rfl, _⟩ := h
    rfl
  · obtain ⟨kind, a, b, x, qs, m, rfl, hl, hl2, hn, hm, hm2, hk0, hx, hq0, q⟩ := h
    have hfl := fracs_len hm
    refine ⟨_, (pss_cons (ps_set (i := 3) sc_quant.nd rfl (by first | exact Or.inl rfl | exact Or.inr rfl) (pe_callC c_quantile_refusal (hr.mono (by decide)) (by rfl) (pa_cons (pv 0) (pa_cons (pv 1) (pa_cons (pv 2) pa_nil))))) (pss_cons (ps_if (pt_cmp (pc_neI (pv 3) pe_int)) (pss_one (ps_ret (pe_lst (pa_cons (pv 3) pa_nil)))) pss_nil) (pss_cons (ps_set (i := 4) sc_quant.nd rfl (by first | exact Or.inl rfl | exact Or.inr rfl) (pe_callC c_shape_of (hr.mono (by decide)) (by rfl) (pa_cons (pv 0) pa_nil))) (pss_cons (ps_set (i := 5) sc_quant.nd rfl (by first | exact Or.inl rfl | exact Or.inr rfl) (pe_callC c_in_order (hr.mono (by decide)) (by rfl) (pa_cons (pv 0) (pa_cons (pv 1) pa_nil)))) (pss_cons (ps_setLc (i := 6) rfl sc_quant.nd rfl rfl rfl (pi_range3 (by rfl) T.n_range (pa_cons pe_int (pa_cons (pe_callB call_len_seq (by rfl) T.n_len boot_len1 (pa_cons (pv 2) pa_nil)) (pa_cons pe_int pa_nil)))) (blk_lc_quant_0) (fun _ _ _ _ _ => pg_name (i := 7) sc_quant.nd rfl (Or.inl rfl) (by first | exact Or.inl rfl | exact Or.inr rfl)) (fun _ _ _ _ _ => pts_nil) (fun _ _ _ _ _ => (pe_callC c_quantile (hr.mono (by decide)) (by rfl) (pa_cons (pv 4) (pa_cons (pv 5) (pa_cons (pe_ix (show IxR _ (rIxL K) from ix_list) (pv 2) (pv 7) (fun _ _ => rfl)) (pa_cons (pe_ix (show IxR _ (rIxL K) from ix_list) (pv 2) (pe_op op_add (pv 7) pe_int) (fun _ _ => rfl)) pa_nil))))))) (pss_one (ps_ret (pe_callC c_one_answer (hr.mono (by decide)) (by rfl) (pa_cons (pv 6) pa_nil))))))))), ?_⟩
    refine ⟨_, rfl, _, rfl, _, rfl, kind, a, b, x, qs, m, rfl, hl, hl2, hn, hm, hm2, hq0, fun H1 s1 => ?_⟩
    unfold quantR
    cases c0 : quantOk kind x qs
    · rw [if_neg (by decide)]
      rw [Er.quant_bad hk0 hx hq0 c0] at q
      refine ⟨_, rfl, _, _, rfl, rfl, _, rfl, ite2 (fun c => ?_) (fun c => ?_)⟩
      · exact ⟨_, rfl, (by show 1 ≤ sizeLine; decide), fun l hl => q _ l upd_same⟩
      · exact absurd (by decide) c
    rw [if_pos rfl]
    cases c1 : fracsRight (fracs qs)
    · rw [if_neg (by decide)]
      rw [Er.quant_wrong hk0 hx hq0 c0 c1] at q
      refine ⟨_, rfl, _, _, rfl, rfl, _, rfl, ite2 (fun c => ?_) (fun c => ?_)⟩
      · exact ⟨_, rfl, (by show 1 ≤ sizeLine; decide), fun l hl => q _ l upd_same⟩
      · exact absurd (by decide) c
    rw [if_pos rfl]
    by_cases z : x.length = 0
    · rw [if_pos z]
      have ex : x = [] := List.length_eq_zero_iff.mp z
      subst ex
      rw [Er.quant_none hk0 hq0 c0 c1] at q
      refine ⟨_, rfl, _, _, rfl, rfl, _, rfl, ite2 (fun c => ?_) (fun c => ?_)⟩
      · exact ⟨_, rfl, (by show 1 ≤ sizeLine; decide), fun l hl => q _ l upd_same⟩
      · exact absurd (by decide) c
    rw [if_neg z]
    refine ⟨_, rfl, _, _, rfl, rfl, _, rfl, ite2 (fun c => ?_) (fun c => ?_)⟩
    · exact absurd c (by decide)
    have c0' := c0
    unfold quantOk fracsOk at c0'
    simp only [Bool.and_eq_true, decide_eq_true_eq] at c0'
    obtain ⟨hk, hrow, hfl2, hfa⟩ := c0'
    have hK := Er.okKind_iff.mp hk
    have hkI := ok_kindI hk
    have hrow' := hrow
    unfold rowOk at hrow'
    simp only [Bool.and_eq_true, decide_eq_true_eq] at hrow'
    have hrI : rowI kind.toNat 4096 x = true := by
      unfold rowI
      rw [all_cell_eq hK, hrow'.2.2, decide_eq_true hrow'.1]
      rfl
    have hxc : ∀ c ∈ x, cellI kind.toNat c = true := by
      unfold rowI at hrI
      simp only [Bool.and_eq_true] at hrI
      exact List.all_eq_true.mp hrI.2
    refine ⟨_, rfl, kind, rfl, hk, fun H2 p s2 hp => ?_⟩
    have s02 := s1.trans s2
    refine ⟨_, rfl, _, rfl, kind, a, x, rfl, hkI, hrI, s02.seq hl, fun H3 L r s3 hperm hord hL hLf => ?_⟩
    have s03 := s02.trans s3
    rw [Er.quant_ok hk0 hq0 c0 c1 (fun e => z (by rw [e]; rfl)) hperm hord] at q
    have hrl : r.length = x.length := by rw [hperm.length_eq, List.length_map]
    have hrf : ∀ c ∈ r, cellI kind.toNat c = true ∧ formI kind.toNat c = c := fun c hc => by
      obtain ⟨d, hd, rfl⟩ := List.mem_map.mp (hperm.mem_iff.mp hc)
      exact ⟨cell_form hkI (hxc d hd), form_idem hkI (hxc d hd)⟩
    have hb3 := s03.seq hl2
    try dsimp only [tRet, tCB, tCons, tNil, tSeq, tAsg, gName, tIfS, tNot, tB, tNext, sFld]
    refine tLc_in ?_
    refine ⟨_, rfl, b, _, rfl, Or.inl hb3, ?_⟩
    have el : ((qs.map V.int).length : Int) = ((2 * m : Nat) : Int) := by rw [List.length_map, hm]
    try dsimp only
    rw [el]
    refine ⟨_, _, _, _, rfl, rgC_two (by omega), ?_⟩
    refine er_lccR (n := m) (fun D i y H' => ∃ (t : Addr) (f : Int × Int), y = .ref t ∧ t ≠ D ∧ (fracs qs)[i]? = some f ∧ H' t = some (.lst [.int (quantC kind.toNat r f).1, .int (quantC kind.toNat r f).2]))
      (fun D i y H H' sm ⟨t, f, e1, e2, e3, e4⟩ => ⟨t, f, e1, e2, e3, sm _ _ e4⟩) (fun D i y H l ⟨t, f, e1, e2, e3, e4⟩ => ⟨t, f, e1, e2, e3, by rw [upd_ne e2]; exact e4⟩) (Nat.lt_of_le_of_lt hm2 (by decide)) (fun D acc i H' Q' hi sm hd hD q' => ?_) (fun H4 D ys s4 hys hR hd hD => ?_)
    · obtain ⟨f, hf⟩ : ∃ f, (fracs qs)[i]? = some f := ⟨_, List.getElem?_eq_getElem (by omega)⟩
      obtain ⟨g1, g2⟩ := fracs_get hf
      have m1 : (qs.map V.int)[2 * i]? = some (.int f.1) := by rw [List.getElem?_map, g1]; rfl
      have m2 : (qs.map V.int)[2 * i + 1]? = some (.int f.2) := by rw [List.getElem?_map, g2]; rfl
      have hr2 := List.all_eq_true.mp c1 f (List.mem_of_getElem? hf)
      simp only [Bool.and_eq_true, decide_eq_true_eq] at hr2
      have hf2 := List.all_eq_true.mp hfa f (List.mem_of_getElem? hf)
      simp only [Bool.and_eq_true, decide_eq_true_eq] at hf2
      have n1 := hq0 f.1 (List.mem_of_getElem? g1)
      refine ⟨_, rfl, _, rfl, _, rfl, _, rfl, b, _, _, _, rfl, rfl, sm.seq hb3, at_of (j := 2 * i) (by omega) m1, _, rfl, _, rfl, _, _, rfl, rfl, b, _, _, _, rfl, rfl, sm.seq hb3, at_of (j := 2 * i + 1) (by omega) m2, p, L, kind.toNat, r, f, rfl, (hp.mono s3).mono sm, SqL.of (sm _ _ hL), by omega, by omega, hrf, n1, hr2.2, hr2.1, hf2.2, fun H'' t s'' ht hft => q' _ H'' s'' ⟨t, f, rfl, fun e => ne_of_none hd hft e.symm, hf, ht⟩⟩
    · obtain ⟨ts, rfl⟩ := refs_of (ys := ys) fun i y hy => let ⟨t, _, e, _⟩ := hR i y hy; ⟨t, e⟩
      have htl : ts.length = m := by simpa using hys
      have hres : ResAt K H4 ts ((fracs qs).map (quantC kind.toNat r)) := paired_of (by rw [List.length_map, hfl, htl]) fun i t v h1 h2 => by
        obtain ⟨t', f, e1, e2, e3, e4⟩ := hR i (.ref t) (by rw [List.getElem?_map, h1]; rfl)
        cases e1
        rw [List.getElem?_map, e3] at h2
        cases Option.some.inj h2
        exact ⟨SqL.of e4, quantC_flag _ _ _⟩
      exact ⟨_, rfl, D, ts, _, rfl, SqL.of hd, hres, by omega, fun H5 l5 _ h5 => q H5 l5 h5⟩
end
end ErP
end
set_option Elab.async false
set_option linter.all false
set_option maxRecDepth 100000
set_option maxHeartbeats 4000000
namespace ErP
open PySem PySem.Spec PyProof.Rows L2
open Er (IsK Lt2 rnd byP near kept prt mult size rsize small depth cellOk numI unitI rowOk refuseV okKind kindI cellI rowI bitsK mag valI formI ordI fracs fracsOk fracsRight quantOk quantC quantK)
open Lw (Fmt fmt Four turnWord mill millRound drawBelow tried triesFrom W32)
theorem all_mk {P : Program} {w : World} {K : PySem.W.Frag} {h : Heap} {mg : Str → Option Value} {fa : Addr} {C : Addr} (X : K.In h) (G : h.Ns mainGlobals mg) (hfa : mg "quant" = some (.ref fa))
    {f_Shape : Addr} {od_Shape an_Shape : Option Addr} {sl_Shape : Array (Option Value)} {oc_Shape kV_Shape dc_Shape pm_Shape cd_Shape ct_Shape : Value}
    {f_is_whole : Addr} {od_is_whole an_is_whole : Option Addr} {sl_is_whole : Array (Option Value)} {oc_is_whole kV_is_whole dc_is_whole pm_is_whole cd_is_whole ct_is_whole : Value}
    {f_is_floating : Addr} {od_is_floating an_is_floating : Option Addr} {sl_is_floating : Array (Option Value)} {oc_is_floating kV_is_floating dc_is_floating pm_is_floating cd_is_floating ct_is_floating : Value}
    {f_shape_of : Addr} {od_shape_of an_shape_of : Option Addr} {sl_shape_of : Array (Option Value)} {oc_shape_of kV_shape_of dc_shape_of pm_shape_of cd_shape_of ct_shape_of : Value}
    {f_bits_of : Addr} {od_bits_of an_bits_of : Option Addr} {sl_bits_of : Array (Option Value)} {oc_bits_of kV_bits_of dc_bits_of pm_bits_of cd_bits_of ct_bits_of : Value}
    {f_are_cells : Addr} {od_are_cells an_are_cells : Option Addr} {sl_are_cells : Array (Option Value)} {oc_are_cells kV_are_cells dc_are_cells pm_are_cells cd_are_cells ct_are_cells : Value}
    {f_is_number : Addr} {od_is_number an_is_number : Option Addr} {sl_is_number : Array (Option Value)} {oc_is_number kV_is_number dc_is_number pm_is_number cd_is_number ct_is_number : Value}
    {f_number_parts : Addr} {od_number_parts an_number_parts : Option Addr} {sl_number_parts : Array (Option Value)} {oc_number_parts kV_number_parts dc_number_parts pm_number_parts cd_number_parts ct_number_parts : Value}
    {f_units_of : Addr} {od_units_of an_units_of : Option Addr} {sl_units_of : Array (Option Value)} {oc_units_of kV_units_of dc_units_of pm_units_of cd_units_of ct_units_of : Value}
    {f_one_form : Addr} {od_one_form an_one_form : Option Addr} {sl_one_form : Array (Option Value)} {oc_one_form kV_one_form dc_one_form pm_one_form cd_one_form ct_one_form : Value}
    {f_size_bits : Addr} {od_size_bits an_size_bits : Option Addr} {sl_size_bits : Array (Option Value)} {oc_size_bits kV_size_bits dc_size_bits pm_size_bits cd_size_bits ct_size_bits : Value}
    {f_value_places : Addr} {od_value_places an_value_places : Option Addr} {sl_value_places : Array (Option Value)} {oc_value_places kV_value_places dc_value_places pm_value_places cd_value_places ct_value_places : Value}
    {f_signed_numbers : Addr} {od_signed_numbers an_signed_numbers : Option Addr} {sl_signed_numbers : Array (Option Value)} {oc_signed_numbers kV_signed_numbers dc_signed_numbers pm_signed_numbers cd_signed_numbers ct_signed_numbers : Value}
    {f_floating_place : Addr} {od_floating_place an_floating_place : Option Addr} {sl_floating_place : Array (Option Value)} {oc_floating_place kV_floating_place dc_floating_place pm_floating_place cd_floating_place ct_floating_place : Value}
    {f_floor_power : Addr} {od_floor_power an_floor_power : Option Addr} {sl_floor_power : Array (Option Value)} {oc_floor_power kV_floor_power dc_floor_power pm_floor_power cd_floor_power ct_floor_power : Value}
    {f_by_power : Addr} {od_by_power an_by_power : Option Addr} {sl_by_power : Array (Option Value)} {oc_by_power kV_by_power dc_by_power pm_by_power cd_by_power ct_by_power : Value}
    {f_nearest : Addr} {od_nearest an_nearest : Option Addr} {sl_nearest : Array (Option Value)} {oc_nearest kV_nearest dc_nearest pm_nearest cd_nearest ct_nearest : Value}
    {f_rounded : Addr} {od_rounded an_rounded : Option Addr} {sl_rounded : Array (Option Value)} {oc_rounded kV_rounded dc_rounded pm_rounded cd_rounded ct_rounded : Value}
    {f_rounded_size : Addr} {od_rounded_size an_rounded_size : Option Addr} {sl_rounded_size : Array (Option Value)} {oc_rounded_size kV_rounded_size dc_rounded_size pm_rounded_size cd_rounded_size ct_rounded_size : Value}
    {f_stays_small : Addr} {od_stays_small an_stays_small : Option Addr} {sl_stays_small : Array (Option Value)} {oc_stays_small kV_stays_small dc_stays_small pm_stays_small cd_stays_small ct_stays_small : Value}
    {f_rounded_units : Addr} {od_rounded_units an_rounded_units : Option Addr} {sl_rounded_units : Array (Option Value)} {oc_rounded_units kV_rounded_units dc_rounded_units pm_rounded_units cd_rounded_units ct_rounded_units : Value}
    {f_one_answer : Addr} {od_one_answer an_one_answer : Option Addr} {sl_one_answer : Array (Option Value)} {oc_one_answer kV_one_answer dc_one_answer pm_one_answer cd_one_answer ct_one_answer : Value}
    {f_in_order : Addr} {od_in_order an_in_order : Option Addr} {sl_in_order : Array (Option Value)} {oc_in_order kV_in_order dc_in_order pm_in_order cd_in_order ct_in_order : Value}
    {f_quantile : Addr} {od_quantile an_quantile : Option Addr} {sl_quantile : Array (Option Value)} {oc_quantile kV_quantile dc_quantile pm_quantile cd_quantile ct_quantile : Value}
    {f_between_no_numbers : Addr} {od_between_no_numbers an_between_no_numbers : Option Addr} {sl_between_no_numbers : Array (Option Value)} {oc_between_no_numbers kV_between_no_numbers dc_between_no_numbers pm_between_no_numbers cd_between_no_numbers ct_between_no_numbers : Value}
    {f_cells_refusal : Addr} {od_cells_refusal an_cells_refusal : Option Addr} {sl_cells_refusal : Array (Option Value)} {oc_cells_refusal kV_cells_refusal dc_cells_refusal pm_cells_refusal cd_cells_refusal ct_cells_refusal : Value}
    {f_numbers_refusal : Addr} {od_numbers_refusal an_numbers_refusal : Option Addr} {sl_numbers_refusal : Array (Option Value)} {oc_numbers_refusal kV_numbers_refusal dc_numbers_refusal pm_numbers_refusal cd_numbers_refusal ct_numbers_refusal : Value}
    {f_quantile_refusal : Addr} {od_quantile_refusal an_quantile_refusal : Option Addr} {sl_quantile_refusal : Array (Option Value)} {oc_quantile_refusal kV_quantile_refusal dc_quantile_refusal pm_quantile_refusal cd_quantile_refusal ct_quantile_refusal : Value}
    {f_quant : Addr} {od_quant an_quant : Option Addr} {sl_quant : Array (Option Value)} {oc_quant kV_quant dc_quant pm_quant cd_quant ct_quant : Value}
    {t_NONE_PLACE : Tok}
    {t_TOO_GREAT : Tok}
    {t_TOO_SMALL : Tok}
    {t_NOT_EXACT : Tok}
    {t_MOST_CELLS : Tok}
    {t_MOST_FRACTIONS : Tok}
    {t_WORD_END : Tok}
    {t_WRONG_FORM : Tok}
    {t_WRONG_ORDER : Tok}
    {t_NOTHING_TO_TELL : Tok}
    {DS : Addr} {epS : Nat} {k1 b1 k2 b2 k3 b3 k4 b4 : Tok}
    {DU : Addr} {epU : Nat} {k5 b5 k6 b6 k7 b7 k8 b8 : Tok}
    {DF a9 a10 a11 a12 : Addr} {u9 u10 u11 u12 : Tok} {ep n9 n10 n11 n12 : Nat} {v9 w9 v10 w10 v11 w11 v12 w12 : Tok}
    (aC_Shape : PySem.W.nsIn K mainGlobals "Shape" = some (some (.ref C)))
    (a_Shape : PySem.W.findIn K (.ref C) "__init__" = some (some (.ref f_Shape)))
    (i_Shape : PySem.W.isFn K (.ref f_Shape) = true)
    (l_Shape : K.lookup f_Shape = some ⟨oc_Shape, od_Shape, .func (PySem.W.fnOf "__init__" "Shape.__init__" (defArgs s_Shape_init) (defBody s_Shape_init) (defScope s_Shape_init) .none kV_Shape dc_Shape pm_Shape an_Shape cd_Shape ct_Shape), sl_Shape⟩)
    (c_Shape : PySem.W.codeIn K cd_Shape "Shape.__init__" = true)
    (k_Shape : PySem.W.keepIn K (.ref f_Shape) = true)
    (a_is_whole : PySem.W.nsIn K mainGlobals "is_whole" = some (some (.ref f_is_whole)))
    (l_is_whole : K.lookup f_is_whole = some ⟨oc_is_whole, od_is_whole, .func (PySem.W.fnOf "is_whole" "is_whole" (defArgs s_is_whole) (defBody s_is_whole) (defScope s_is_whole) .none kV_is_whole dc_is_whole pm_is_whole an_is_whole cd_is_whole ct_is_whole), sl_is_whole⟩)
    (c_is_whole : PySem.W.codeIn K cd_is_whole "is_whole" = true)
    (k_is_whole : PySem.W.keepIn K (.ref f_is_whole) = true)
    (a_is_floating : PySem.W.nsIn K mainGlobals "is_floating" = some (some (.ref f_is_floating)))
    (l_is_floating : K.lookup f_is_floating = some ⟨oc_is_floating, od_is_floating, .func (PySem.W.fnOf "is_floating" "is_floating" (defArgs s_is_floating) (defBody s_is_floating) (defScope s_is_floating) .none kV_is_floating dc_is_floating pm_is_floating an_is_floating cd_is_floating ct_is_floating), sl_is_floating⟩)
    (c_is_floating : PySem.W.codeIn K cd_is_floating "is_floating" = true)
    (k_is_floating : PySem.W.keepIn K (.ref f_is_floating) = true)
    (a_shape_of : PySem.W.nsIn K mainGlobals "shape_of" = some (some (.ref f_shape_of)))
    (l_shape_of : K.lookup f_shape_of = some ⟨oc_shape_of, od_shape_of, .func (PySem.W.fnOf "shape_of" "shape_of" (defArgs s_shape_of) (defBody s_shape_of) (defScope s_shape_of) .none kV_shape_of dc_shape_of pm_shape_of an_shape_of cd_shape_of ct_shape_of), sl_shape_of⟩)
    (c_shape_of : PySem.W.codeIn K cd_shape_of "shape_of" = true)
    (k_shape_of : PySem.W.keepIn K (.ref f_shape_of) = true)
    (a_bits_of : PySem.W.nsIn K mainGlobals "bits_of" = some (some (.ref f_bits_of)))
    (l_bits_of : K.lookup f_bits_of = some ⟨oc_bits_of, od_bits_of, .func (PySem.W.fnOf "bits_of" "bits_of" (defArgs s_bits_of) (defBody s_bits_of) (defScope s_bits_of) .none kV_bits_of dc_bits_of pm_bits_of an_bits_of cd_bits_of ct_bits_of), sl_bits_of⟩)
    (c_bits_of : PySem.W.codeIn K cd_bits_of "bits_of" = true)
    (k_bits_of : PySem.W.keepIn K (.ref f_bits_of) = true)
    (a_are_cells : PySem.W.nsIn K mainGlobals "are_cells" = some (some (.ref f_are_cells)))
    (l_are_cells : K.lookup f_are_cells = some ⟨oc_are_cells, od_are_cells, .func (PySem.W.fnOf "are_cells" "are_cells" (defArgs s_are_cells) (defBody s_are_cells) (defScope s_are_cells) .none kV_are_cells dc_are_cells pm_are_cells an_are_cells cd_are_cells ct_are_cells), sl_are_cells⟩)
    (c_are_cells : PySem.W.codeIn K cd_are_cells "are_cells" = true)
    (k_are_cells : PySem.W.keepIn K (.ref f_are_cells) = true)
    (a_is_number : PySem.W.nsIn K mainGlobals "is_number" = some (some (.ref f_is_number)))
    (l_is_number : K.lookup f_is_number = some ⟨oc_is_number, od_is_number, .func (PySem.W.fnOf "is_number" "is_number" (defArgs s_is_number) (defBody s_is_number) (defScope s_is_number) .none kV_is_number dc_is_number pm_is_number an_is_number cd_is_number ct_is_number), sl_is_number⟩)
    (c_is_number : PySem.W.codeIn K cd_is_number "is_number" = true)
    (k_is_number : PySem.W.keepIn K (.ref f_is_number) = true)
    (a_number_parts : PySem.W.nsIn K mainGlobals "number_parts" = some (some (.ref f_number_parts)))
    (l_number_parts : K.lookup f_number_parts = some ⟨oc_number_parts, od_number_parts, .func (PySem.W.fnOf "number_parts" "number_parts" (defArgs s_number_parts) (defBody s_number_parts) (defScope s_number_parts) .none kV_number_parts dc_number_parts pm_number_parts an_number_parts cd_number_parts ct_number_parts), sl_number_parts⟩)
    (c_number_parts : PySem.W.codeIn K cd_number_parts "number_parts" = true)
    (k_number_parts : PySem.W.keepIn K (.ref f_number_parts) = true)
    (a_units_of : PySem.W.nsIn K mainGlobals "units_of" = some (some (.ref f_units_of)))
    (l_units_of : K.lookup f_units_of = some ⟨oc_units_of, od_units_of, .func (PySem.W.fnOf "units_of" "units_of" (defArgs s_units_of) (defBody s_units_of) (defScope s_units_of) .none kV_units_of dc_units_of pm_units_of an_units_of cd_units_of ct_units_of), sl_units_of⟩)
    (c_units_of : PySem.W.codeIn K cd_units_of "units_of" = true)
    (k_units_of : PySem.W.keepIn K (.ref f_units_of) = true)
    (a_one_form : PySem.W.nsIn K mainGlobals "one_form" = some (some (.ref f_one_form)))
    (l_one_form : K.lookup f_one_form = some ⟨oc_one_form, od_one_form, .func (PySem.W.fnOf "one_form" "one_form" (defArgs s_one_form) (defBody s_one_form) (defScope s_one_form) .none kV_one_form dc_one_form pm_one_form an_one_form cd_one_form ct_one_form), sl_one_form⟩)
    (c_one_form : PySem.W.codeIn K cd_one_form "one_form" = true)
    (k_one_form : PySem.W.keepIn K (.ref f_one_form) = true)
    (a_size_bits : PySem.W.nsIn K mainGlobals "size_bits" = some (some (.ref f_size_bits)))
    (l_size_bits : K.lookup f_size_bits = some ⟨oc_size_bits, od_size_bits, .func (PySem.W.fnOf "size_bits" "size_bits" (defArgs s_size_bits) (defBody s_size_bits) (defScope s_size_bits) .none kV_size_bits dc_size_bits pm_size_bits an_size_bits cd_size_bits ct_size_bits), sl_size_bits⟩)
    (c_size_bits : PySem.W.codeIn K cd_size_bits "size_bits" = true)
    (k_size_bits : PySem.W.keepIn K (.ref f_size_bits) = true)
    (a_value_places : PySem.W.nsIn K mainGlobals "value_places" = some (some (.ref f_value_places)))
    (l_value_places : K.lookup f_value_places = some ⟨oc_value_places, od_value_places, .func (PySem.W.fnOf "value_places" "value_places" (defArgs s_value_places) (defBody s_value_places) (defScope s_value_places) .none kV_value_places dc_value_places pm_value_places an_value_places cd_value_places ct_value_places), sl_value_places⟩)
    (c_value_places : PySem.W.codeIn K cd_value_places "value_places" = true)
    (k_value_places : PySem.W.keepIn K (.ref f_value_places) = true)
    (a_signed_numbers : PySem.W.nsIn K mainGlobals "signed_numbers" = some (some (.ref f_signed_numbers)))
    (l_signed_numbers : K.lookup f_signed_numbers = some ⟨oc_signed_numbers, od_signed_numbers, .func (PySem.W.fnOf "signed_numbers" "signed_numbers" (defArgs s_signed_numbers) (defBody s_signed_numbers) (defScope s_signed_numbers) .none kV_signed_numbers dc_signed_numbers pm_signed_numbers an_signed_numbers cd_signed_numbers ct_signed_numbers), sl_signed_numbers⟩)
    (c_signed_numbers : PySem.W.codeIn K cd_signed_numbers "signed_numbers" = true)
    (k_signed_numbers : PySem.W.keepIn K (.ref f_signed_numbers) = true)
    (a_floating_place : PySem.W.nsIn K mainGlobals "floating_place" = some (some (.ref f_floating_place)))
    (l_floating_place : K.lookup f_floating_place = some ⟨oc_floating_place, od_floating_place, .func (PySem.W.fnOf "floating_place" "floating_place" (defArgs s_floating_place) (defBody s_floating_place) (defScope s_floating_place) .none kV_floating_place dc_floating_place pm_floating_place an_floating_place cd_floating_place ct_floating_place), sl_floating_place⟩)
    (c_floating_place : PySem.W.codeIn K cd_floating_place "floating_place" = true)
    (k_floating_place : PySem.W.keepIn K (.ref f_floating_place) = true)
    (a_floor_power : PySem.W.nsIn K mainGlobals "floor_power" = some (some (.ref f_floor_power)))
    (l_floor_power : K.lookup f_floor_power = some ⟨oc_floor_power, od_floor_power, .func (PySem.W.fnOf "floor_power" "floor_power" (defArgs s_floor_power) (defBody s_floor_power) (defScope s_floor_power) .none kV_floor_power dc_floor_power pm_floor_power an_floor_power cd_floor_power ct_floor_power), sl_floor_power⟩)
    (c_floor_power : PySem.W.codeIn K cd_floor_power "floor_power" = true)
    (k_floor_power : PySem.W.keepIn K (.ref f_floor_power) = true)
    (a_by_power : PySem.W.nsIn K mainGlobals "by_power" = some (some (.ref f_by_power)))
    (l_by_power : K.lookup f_by_power = some ⟨oc_by_power, od_by_power, .func (PySem.W.fnOf "by_power" "by_power" (defArgs s_by_power) (defBody s_by_power) (defScope s_by_power) .none kV_by_power dc_by_power pm_by_power an_by_power cd_by_power ct_by_power), sl_by_power⟩)
    (c_by_power : PySem.W.codeIn K cd_by_power "by_power" = true)
    (k_by_power : PySem.W.keepIn K (.ref f_by_power) = true)
    (a_nearest : PySem.W.nsIn K mainGlobals "nearest" = some (some (.ref f_nearest)))
    (l_nearest : K.lookup f_nearest = some ⟨oc_nearest, od_nearest, .func (PySem.W.fnOf "nearest" "nearest" (defArgs s_nearest) (defBody s_nearest) (defScope s_nearest) .none kV_nearest dc_nearest pm_nearest an_nearest cd_nearest ct_nearest), sl_nearest⟩)
    (c_nearest : PySem.W.codeIn K cd_nearest "nearest" = true)
    (k_nearest : PySem.W.keepIn K (.ref f_nearest) = true)
    (a_rounded : PySem.W.nsIn K mainGlobals "rounded" = some (some (.ref f_rounded)))
    (l_rounded : K.lookup f_rounded = some ⟨oc_rounded, od_rounded, .func (PySem.W.fnOf "rounded" "rounded" (defArgs s_rounded) (defBody s_rounded) (defScope s_rounded) .none kV_rounded dc_rounded pm_rounded an_rounded cd_rounded ct_rounded), sl_rounded⟩)
    (c_rounded : PySem.W.codeIn K cd_rounded "rounded" = true)
    (k_rounded : PySem.W.keepIn K (.ref f_rounded) = true)
    (a_rounded_size : PySem.W.nsIn K mainGlobals "rounded_size" = some (some (.ref f_rounded_size)))
    (l_rounded_size : K.lookup f_rounded_size = some ⟨oc_rounded_size, od_rounded_size, .func (PySem.W.fnOf "rounded_size" "rounded_size" (defArgs s_rounded_size) (defBody s_rounded_size) (defScope s_rounded_size) .none kV_rounded_size dc_rounded_size pm_rounded_size an_rounded_size cd_rounded_size ct_rounded_size), sl_rounded_size⟩)
    (c_rounded_size : PySem.W.codeIn K cd_rounded_size "rounded_size" = true)
    (k_rounded_size : PySem.W.keepIn K (.ref f_rounded_size) = true)
    (a_stays_small : PySem.W.nsIn K mainGlobals "stays_small" = some (some (.ref f_stays_small)))
    (l_stays_small : K.lookup f_stays_small = some ⟨oc_stays_small, od_stays_small, .func (PySem.W.fnOf "stays_small" "stays_small" (defArgs s_stays_small) (defBody s_stays_small) (defScope s_stays_small) .none kV_stays_small dc_stays_small pm_stays_small an_stays_small cd_stays_small ct_stays_small), sl_stays_small⟩)
    (c_stays_small : PySem.W.codeIn K cd_stays_small "stays_small" = true)
    (k_stays_small : PySem.W.keepIn K (.ref f_stays_small) = true)
    (a_rounded_units : PySem.W.nsIn K mainGlobals "rounded_units" = some (some (.ref f_rounded_units)))
    (l_rounded_units : K.lookup f_rounded_units = some ⟨oc_rounded_units, od_rounded_units, .func (PySem.W.fnOf "rounded_units" "rounded_units" (defArgs s_rounded_units) (defBody s_rounded_units) (defScope s_rounded_units) .none kV_rounded_units dc_rounded_units pm_rounded_units an_rounded_units cd_rounded_units ct_rounded_units), sl_rounded_units⟩)
    (c_rounded_units : PySem.W.codeIn K cd_rounded_units "rounded_units" = true)
    (k_rounded_units : PySem.W.keepIn K (.ref f_rounded_units) = true)
    (a_one_answer : PySem.W.nsIn K mainGlobals "one_answer" = some (some (.ref f_one_answer)))
    (l_one_answer : K.lookup f_one_answer = some ⟨oc_one_answer, od_one_answer, .func (PySem.W.fnOf "one_answer" "one_answer" (defArgs s_one_answer) (defBody s_one_answer) (defScope s_one_answer) .none kV_one_answer dc_one_answer pm_one_answer an_one_answer cd_one_answer ct_one_answer), sl_one_answer⟩)
    (c_one_answer : PySem.W.codeIn K cd_one_answer "one_answer" = true)
    (k_one_answer : PySem.W.keepIn K (.ref f_one_answer) = true)
    (a_in_order : PySem.W.nsIn K mainGlobals "in_order" = some (some (.ref f_in_order)))
    (l_in_order : K.lookup f_in_order = some ⟨oc_in_order, od_in_order, .func (PySem.W.fnOf "in_order" "in_order" (defArgs s_in_order) (defBody s_in_order) (defScope s_in_order) .none kV_in_order dc_in_order pm_in_order an_in_order cd_in_order ct_in_order), sl_in_order⟩)
    (c_in_order : PySem.W.codeIn K cd_in_order "in_order" = true)
    (k_in_order : PySem.W.keepIn K (.ref f_in_order) = true)
    (a_quantile : PySem.W.nsIn K mainGlobals "quantile" = some (some (.ref f_quantile)))
    (l_quantile : K.lookup f_quantile = some ⟨oc_quantile, od_quantile, .func (PySem.W.fnOf "quantile" "quantile" (defArgs s_quantile) (defBody s_quantile) (defScope s_quantile) .none kV_quantile dc_quantile pm_quantile an_quantile cd_quantile ct_quantile), sl_quantile⟩)
    (c_quantile : PySem.W.codeIn K cd_quantile "quantile" = true)
    (k_quantile : PySem.W.keepIn K (.ref f_quantile) = true)
    (a_between_no_numbers : PySem.W.nsIn K mainGlobals "between_no_numbers" = some (some (.ref f_between_no_numbers)))
    (l_between_no_numbers : K.lookup f_between_no_numbers = some ⟨oc_between_no_numbers, od_between_no_numbers, .func (PySem.W.fnOf "between_no_numbers" "between_no_numbers" (defArgs s_between_no_numbers) (defBody s_between_no_numbers) (defScope s_between_no_numbers) .none kV_between_no_numbers dc_between_no_numbers pm_between_no_numbers an_between_no_numbers cd_between_no_numbers ct_between_no_numbers), sl_between_no_numbers⟩)
    (c_between_no_numbers : PySem.W.codeIn K cd_between_no_numbers "between_no_numbers" = true)
    (k_between_no_numbers : PySem.W.keepIn K (.ref f_between_no_numbers) = true)
    (a_cells_refusal : PySem.W.nsIn K mainGlobals "cells_refusal" = some (some (.ref f_cells_refusal)))
    (l_cells_refusal : K.lookup f_cells_refusal = some ⟨oc_cells_refusal, od_cells_refusal, .func (PySem.W.fnOf "cells_refusal" "cells_refusal" (defArgs s_cells_refusal) (defBody s_cells_refusal) (defScope s_cells_refusal) .none kV_cells_refusal dc_cells_refusal pm_cells_refusal an_cells_refusal cd_cells_refusal ct_cells_refusal), sl_cells_refusal⟩)
    (c_cells_refusal : PySem.W.codeIn K cd_cells_refusal "cells_refusal" = true)
    (k_cells_refusal : PySem.W.keepIn K (.ref f_cells_refusal) = true)
    (a_numbers_refusal : PySem.W.nsIn K mainGlobals "numbers_refusal" = some (some (.ref f_numbers_refusal)))
    (l_numbers_refusal : K.lookup f_numbers_refusal = some ⟨oc_numbers_refusal, od_numbers_refusal, .func (PySem.W.fnOf "numbers_refusal" "numbers_refusal" (defArgs s_numbers_refusal) (defBody s_numbers_refusal) (defScope s_numbers_refusal) .none kV_numbers_refusal dc_numbers_refusal pm_numbers_refusal an_numbers_refusal cd_numbers_refusal ct_numbers_refusal), sl_numbers_refusal⟩)
    (c_numbers_refusal : PySem.W.codeIn K cd_numbers_refusal "numbers_refusal" = true)
    (k_numbers_refusal : PySem.W.keepIn K (.ref f_numbers_refusal) = true)
    (a_quantile_refusal : PySem.W.nsIn K mainGlobals "quantile_refusal" = some (some (.ref f_quantile_refusal)))
    (l_quantile_refusal : K.lookup f_quantile_refusal = some ⟨oc_quantile_refusal, od_quantile_refusal, .func (PySem.W.fnOf "quantile_refusal" "quantile_refusal" (defArgs s_quantile_refusal) (defBody s_quantile_refusal) (defScope s_quantile_refusal) .none kV_quantile_refusal dc_quantile_refusal pm_quantile_refusal an_quantile_refusal cd_quantile_refusal ct_quantile_refusal), sl_quantile_refusal⟩)
    (c_quantile_refusal : PySem.W.codeIn K cd_quantile_refusal "quantile_refusal" = true)
    (k_quantile_refusal : PySem.W.keepIn K (.ref f_quantile_refusal) = true)
    (a_quant : PySem.W.nsIn K mainGlobals "quant" = some (some (.ref f_quant)))
    (l_quant : K.lookup f_quant = some ⟨oc_quant, od_quant, .func (PySem.W.fnOf "quant" "quant" (defArgs s_quant) (defBody s_quant) (defScope s_quant) .none kV_quant dc_quant pm_quant an_quant cd_quant ct_quant), sl_quant⟩)
    (c_quant : PySem.W.codeIn K cd_quant "quant" = true)
    (k_quant : PySem.W.keepIn K (.ref f_quant) = true)
    (pg_Shape : PySem.W.plainGet K C Str.empty = true)
    (hd_Shape : PySem.W.hasDictIn K C = true)
    (po_Shape : PySem.W.plainOver K C = true)
    (sa_Shape : PySem.W.findIn K (.ref C) "__setattr__" = some (some (.builtin "object.__setattr__")))
    (mk_Shape : PySem.W.makesIn K C = true)
    (kc_Shape : PySem.W.keepIn K (.ref C) = true)
    (x_a_m : PySem.W.findIn K (.ref C) "fraction_bits" = some none)
    (x_a_s : PySem.W.findIn K (.ref C) "sign" = some none)
    (x_a_i : PySem.W.findIn K (.ref C) "infinite" = some none)
    (x_a_n : PySem.W.findIn K (.ref C) "none" = some none)
    (x_a_l : PySem.W.findIn K (.ref C) "least_power" = some none)
    (x_a_u : PySem.W.findIn K (.ref C) "unit_depth" = some none)
    (n_abs : PySem.W.nsIn K mainGlobals "abs" = some none)
    (n_all : PySem.W.nsIn K mainGlobals "all" = some none)
    (n_any : PySem.W.nsIn K mainGlobals "any" = some none)
    (n_len : PySem.W.nsIn K mainGlobals "len" = some none)
    (n_list : PySem.W.nsIn K mainGlobals "list" = some none)
    (n_max : PySem.W.nsIn K mainGlobals "max" = some none)
    (n_range : PySem.W.nsIn K mainGlobals "range" = some none)
    (n_sorted : PySem.W.nsIn K mainGlobals "sorted" = some none)
    (n_zip : PySem.W.nsIn K mainGlobals "zip" = some none)
    (g_NONE_PLACE : PySem.W.nsIn K mainGlobals "NONE_PLACE" = some (some (.int 18446744073709551616 t_NONE_PLACE)))
    (g_TOO_GREAT : PySem.W.nsIn K mainGlobals "TOO_GREAT" = some (some (.int 4 t_TOO_GREAT)))
    (g_TOO_SMALL : PySem.W.nsIn K mainGlobals "TOO_SMALL" = some (some (.int 8 t_TOO_SMALL)))
    (g_NOT_EXACT : PySem.W.nsIn K mainGlobals "NOT_EXACT" = some (some (.int 16 t_NOT_EXACT)))
    (g_MOST_CELLS : PySem.W.nsIn K mainGlobals "MOST_CELLS" = some (some (.int 4096 t_MOST_CELLS)))
    (g_MOST_FRACTIONS : PySem.W.nsIn K mainGlobals "MOST_FRACTIONS" = some (some (.int 4096 t_MOST_FRACTIONS)))
    (g_WORD_END : PySem.W.nsIn K mainGlobals "WORD_END" = some (some (.int 4294967296 t_WORD_END)))
    (g_WRONG_FORM : PySem.W.nsIn K mainGlobals "WRONG_FORM" = some (some (.int (-1) t_WRONG_FORM)))
    (g_WRONG_ORDER : PySem.W.nsIn K mainGlobals "WRONG_ORDER" = some (some (.int (-2) t_WRONG_ORDER)))
    (g_NOTHING_TO_TELL : PySem.W.nsIn K mainGlobals "NOTHING_TO_TELL" = some (some (.int (-4) t_NOTHING_TO_TELL)))
    (gDS : PySem.W.nsIn K mainGlobals "SIGNED_KINDS" = some (some (.ref DS)))
    (lDS : K.lookup DS = some { cls := .type "dict", data := .dict #[⟨hashInt 1, .int 1 k1, .int 8 b1⟩, ⟨hashInt 2, .int 2 k2, .int 16 b2⟩, ⟨hashInt 3, .int 3 k3, .int 32 b3⟩, ⟨hashInt 4, .int 4 k4, .int 64 b4⟩] epS })
    (sDS : (DS == sysModules) = false)
    (gDU : PySem.W.nsIn K mainGlobals "UNSIGNED_KINDS" = some (some (.ref DU)))
    (lDU : K.lookup DU = some { cls := .type "dict", data := .dict #[⟨hashInt 5, .int 5 k5, .int 8 b5⟩, ⟨hashInt 6, .int 6 k6, .int 16 b6⟩, ⟨hashInt 7, .int 7 k7, .int 32 b7⟩, ⟨hashInt 8, .int 8 k8, .int 64 b8⟩] epU })
    (sDU : (DU == sysModules) = false)
    (gDF : PySem.W.nsIn K mainGlobals "FLOATING_KINDS" = some (some (.ref DF)))
    (lDF : K.lookup DF = some { cls := .type "dict", data := .dict #[⟨hashInt 9, .int 9 u9, .ref a9⟩, ⟨hashInt 10, .int 10 u10, .ref a10⟩, ⟨hashInt 11, .int 11 u11, .ref a11⟩, ⟨hashInt 12, .int 12 u12, .ref a12⟩] ep })
    (sDF : (DF == sysModules) = false)
    (l9 : K.lookup a9 = some { cls := .type "tuple", data := .seq #[.int 5 v9, .int 10 w9] n9 })
    (l10 : K.lookup a10 = some { cls := .type "tuple", data := .seq #[.int 8 v10, .int 7 w10] n10 })
    (l11 : K.lookup a11 = some { cls := .type "tuple", data := .seq #[.int 8 v11, .int 23 w11] n11 })
    (l12 : K.lookup a12 = some { cls := .type "tuple", data := .seq #[.int 11 v12, .int 52 w12] n12 }) :
    ∃ fd : FuncData, (∀ (s : Shared) (us : List Value), us.length = (["kind", "x", "fractions"] : List Str).length → BindsTo s fd ⟨us, []⟩ ((["kind", "x", "fractions"] : List Str).zip us)) ∧ ∀ base : Heap, K.In base → base.Ns mainGlobals mg → FnOk P w K mg base CX0 7 fa fd ["kind", "x", "fractions"] (sp_quant K) := by
  have e := hfa.symm.trans (PySem.W.mg_of X G a_quant)
  cases e
  have T : Txt P w K mg C (0 : Addr) := ⟨⟨pg_Shape, hd_Shape, po_Shape, sa_Shape⟩,
    x_a_m,
    x_a_s,
    x_a_i,
    x_a_n,
    x_a_l,
    x_a_u,
    PySem.W.mg_none_of X G n_abs,
    PySem.W.mg_none_of X G n_all,
    PySem.W.mg_none_of X G n_any,
    PySem.W.mg_none_of X G n_len,
    PySem.W.mg_none_of X G n_list,
    PySem.W.mg_none_of X G n_max,
    PySem.W.mg_none_of X G n_range,
    PySem.W.mg_none_of X G n_sorted,
    PySem.W.mg_none_of X G n_zip,
    ⟨_, PySem.W.mg_of X G g_NONE_PLACE⟩,
    ⟨_, PySem.W.mg_of X G g_TOO_GREAT⟩,
    ⟨_, PySem.W.mg_of X G g_TOO_SMALL⟩,
    ⟨_, PySem.W.mg_of X G g_NOT_EXACT⟩,
    ⟨_, PySem.W.mg_of X G g_MOST_CELLS⟩,
    ⟨_, PySem.W.mg_of X G g_MOST_FRACTIONS⟩,
    ⟨_, PySem.W.mg_of X G g_WORD_END⟩,
    ⟨_, PySem.W.mg_of X G g_WRONG_FORM⟩,
    ⟨_, PySem.W.mg_of X G g_WRONG_ORDER⟩,
    ⟨_, PySem.W.mg_of X G g_NOTHING_TO_TELL⟩,
    ⟨DS, PySem.W.mg_of X G gDS, kdictI_of (es := [((1, k1), (8, b1)), ((2, k2), (16, b2)), ((3, k3), (32, b3)), ((4, k4), (64, b4))]) lDS sDS (show ([1, 2, 3, 4] : List Int).Nodup by decide)⟩,
    ⟨DU, PySem.W.mg_of X G gDU, kdictI_of (es := [((5, k5), (8, b5)), ((6, k6), (16, b6)), ((7, k7), (32, b7)), ((8, k8), (64, b8))]) lDU sDU (show ([5, 6, 7, 8] : List Int).Nodup by decide)⟩,
    ⟨DF, a9, a10, a11, a12, PySem.W.mg_of X G gDF, kdict_of (es := [(9, u9, a9), (10, u10, a10), (11, u11, a11), (12, u12, a12)]) lDF sDF (show ([9, 10, 11, 12] : List Int).Nodup by decide), fun H => ktup l9 (by show 2 ≤ sizeLine; decide) (.cons ⟨_, rfl⟩ (.cons ⟨_, rfl⟩ .nil)), fun H => ktup l10 (by show 2 ≤ sizeLine; decide) (.cons ⟨_, rfl⟩ (.cons ⟨_, rfl⟩ .nil)), fun H => ktup l11 (by show 2 ≤ sizeLine; decide) (.cons ⟨_, rfl⟩ (.cons ⟨_, rfl⟩ .nil)), fun H => ktup l12 (by show 2 ≤ sizeLine; decide) (.cons ⟨_, rfl⟩ (.cons ⟨_, rfl⟩ .nil))⟩⟩
  have F_Shape := fun_mk (st := s_Shape_init) l_Shape c_Shape k_Shape
  have b_Shape := F_Shape.binds (ps := ["self", "exponent_bits", "fraction_bits"]) fun _ _ _ _ _ _ us hl => match us, hl with | [_, _, _], _ => rfl
  have F_is_whole := fun_mk (st := s_is_whole) l_is_whole c_is_whole k_is_whole
  have b_is_whole := F_is_whole.binds (ps := ["kind"]) fun _ _ _ _ _ _ us hl => match us, hl with | [_], _ => rfl
  have F_is_floating := fun_mk (st := s_is_floating) l_is_floating c_is_floating k_is_floating
  have b_is_floating := F_is_floating.binds (ps := ["kind"]) fun _ _ _ _ _ _ us hl => match us, hl with | [_], _ => rfl
  have F_shape_of := fun_mk (st := s_shape_of) l_shape_of c_shape_of k_shape_of
  have b_shape_of := F_shape_of.binds (ps := ["kind"]) fun _ _ _ _ _ _ us hl => match us, hl with | [_], _ => rfl
  have F_bits_of := fun_mk (st := s_bits_of) l_bits_of c_bits_of k_bits_of
  have b_bits_of := F_bits_of.binds (ps := ["kind"]) fun _ _ _ _ _ _ us hl => match us, hl with | [_], _ => rfl
  have F_are_cells := fun_mk (st := s_are_cells) l_are_cells c_are_cells k_are_cells
  have b_are_cells := F_are_cells.binds (ps := ["kind", "numbers"]) fun _ _ _ _ _ _ us hl => match us, hl with | [_, _], _ => rfl
  have F_is_number := fun_mk (st := s_is_number) l_is_number c_is_number k_is_number
  have b_is_number := F_is_number.binds (ps := ["shape", "cell"]) fun _ _ _ _ _ _ us hl => match us, hl with | [_, _], _ => rfl
  have F_number_parts := fun_mk (st := s_number_parts) l_number_parts c_number_parts k_number_parts
  have b_number_parts := F_number_parts.binds (ps := ["shape", "cell"]) fun _ _ _ _ _ _ us hl => match us, hl with | [_, _], _ => rfl
  have F_units_of := fun_mk (st := s_units_of) l_units_of c_units_of k_units_of
  have b_units_of := F_units_of.binds (ps := ["shape", "cell"]) fun _ _ _ _ _ _ us hl => match us, hl with | [_, _], _ => rfl
  have F_one_form := fun_mk (st := s_one_form) l_one_form c_one_form k_one_form
  have b_one_form := F_one_form.binds (ps := ["kind", "row"]) fun _ _ _ _ _ _ us hl => match us, hl with | [_, _], _ => rfl
  have F_size_bits := fun_mk (st := s_size_bits) l_size_bits c_size_bits k_size_bits
  have b_size_bits := F_size_bits.binds (ps := ["shape", "cell"]) fun _ _ _ _ _ _ us hl => match us, hl with | [_, _], _ => rfl
  have F_value_places := fun_mk (st := s_value_places) l_value_places c_value_places k_value_places
  have b_value_places := F_value_places.binds (ps := ["kind", "row"]) fun _ _ _ _ _ _ us hl => match us, hl with | [_, _], _ => rfl
  have F_signed_numbers := fun_mk (st := s_signed_numbers) l_signed_numbers c_signed_numbers k_signed_numbers
  have b_signed_numbers := F_signed_numbers.binds (ps := ["bits", "row"]) fun _ _ _ _ _ _ us hl => match us, hl with | [_, _], _ => rfl
  have F_floating_place := fun_mk (st := s_floating_place) l_floating_place c_floating_place k_floating_place
  have b_floating_place := F_floating_place.binds (ps := ["shape", "cell"]) fun _ _ _ _ _ _ us hl => match us, hl with | [_, _], _ => rfl
  have F_floor_power := fun_mk (st := s_floor_power) l_floor_power c_floor_power k_floor_power
  have b_floor_power := F_floor_power.binds (ps := ["above", "below"]) fun _ _ _ _ _ _ us hl => match us, hl with | [_, _], _ => rfl
  have F_by_power := fun_mk (st := s_by_power) l_by_power c_by_power k_by_power
  have b_by_power := F_by_power.binds (ps := ["above", "below", "power"]) fun _ _ _ _ _ _ us hl => match us, hl with | [_, _, _], _ => rfl
  have F_nearest := fun_mk (st := s_nearest) l_nearest c_nearest k_nearest
  have b_nearest := F_nearest.binds (ps := ["above", "below"]) fun _ _ _ _ _ _ us hl => match us, hl with | [_, _], _ => rfl
  have F_rounded := fun_mk (st := s_rounded) l_rounded c_rounded k_rounded
  have b_rounded := F_rounded.binds (ps := ["shape", "above", "below"]) fun _ _ _ _ _ _ us hl => match us, hl with | [_, _, _], _ => rfl
  have F_rounded_size := fun_mk (st := s_rounded_size) l_rounded_size c_rounded_size k_rounded_size
  have b_rounded_size := F_rounded_size.binds (ps := ["shape", "above", "below", "sign"]) fun _ _ _ _ _ _ us hl => match us, hl with | [_, _, _, _], _ => rfl
  have F_stays_small := fun_mk (st := s_stays_small) l_stays_small c_stays_small k_stays_small
  have b_stays_small := F_stays_small.binds (ps := ["shape", "above", "below", "power"]) fun _ _ _ _ _ _ us hl => match us, hl with | [_, _, _, _], _ => rfl
  have F_rounded_units := fun_mk (st := s_rounded_units) l_rounded_units c_rounded_units k_rounded_units
  have b_rounded_units := F_rounded_units.binds (ps := ["shape", "above", "below", "degree"]) fun _ _ _ _ _ _ us hl => match us, hl with | [_, _, _, _], _ => rfl
  have F_one_answer := fun_mk (st := s_one_answer) l_one_answer c_one_answer k_one_answer
  have b_one_answer := F_one_answer.binds (ps := ["results"]) fun _ _ _ _ _ _ us hl => match us, hl with | [_], _ => rfl
  have F_in_order := fun_mk (st := s_in_order) l_in_order c_in_order k_in_order
  have b_in_order := F_in_order.binds (ps := ["kind", "row"]) fun _ _ _ _ _ _ us hl => match us, hl with | [_, _], _ => rfl
  have F_quantile := fun_mk (st := s_quantile) l_quantile c_quantile k_quantile
  have b_quantile := F_quantile.binds (ps := ["shape", "ordered", "a", "b"]) fun _ _ _ _ _ _ us hl => match us, hl with | [_, _, _, _], _ => rfl
  have F_between_no_numbers := fun_mk (st := s_between_no_numbers) l_between_no_numbers c_between_no_numbers k_between_no_numbers
  have b_between_no_numbers := F_between_no_numbers.binds (ps := ["shape", "low", "high"]) fun _ _ _ _ _ _ us hl => match us, hl with | [_, _, _], _ => rfl
  have F_cells_refusal := fun_mk (st := s_cells_refusal) l_cells_refusal c_cells_refusal k_cells_refusal
  have b_cells_refusal := F_cells_refusal.binds (ps := ["kind", "cells", "most_cells"]) fun _ _ _ _ _ _ us hl => match us, hl with | [_, _, _], _ => rfl
  have F_numbers_refusal := fun_mk (st := s_numbers_refusal) l_numbers_refusal c_numbers_refusal k_numbers_refusal
  have b_numbers_refusal := F_numbers_refusal.binds (ps := ["kind", "rows"]) fun _ _ _ _ _ _ us hl => match us, hl with | [_, _], _ => rfl
  have F_quantile_refusal := fun_mk (st := s_quantile_refusal) l_quantile_refusal c_quantile_refusal k_quantile_refusal
  have b_quantile_refusal := F_quantile_refusal.binds (ps := ["kind", "row", "fractions"]) fun _ _ _ _ _ _ us hl => match us, hl with | [_, _, _], _ => rfl
  have F_quant := fun_mk (st := s_quant) l_quant c_quant k_quant
  have b_quant := F_quant.binds (ps := ["kind", "x", "fractions"]) fun _ _ _ _ _ _ us hl => match us, hl with | [_, _, _], _ => rfl
  refine ⟨PySem.W.fnOf "quant" "quant" (defArgs s_quant) (defBody s_quant) (defScope s_quant) .none kV_quant dc_quant pm_quant an_quant cd_quant ct_quant, fun s us hu => match us, hu with | [_, _, _], _ => .of_eq rfl, fun base _ _ => ?_⟩
  have c_is_floating : Callee P w K mg base 1 "is_floating" ["kind"] (sp_is_floating) := ⟨_, _, ok_is_floating F_is_floating T, b_is_floating, PySem.W.mg_of X G a_is_floating, k_is_floating⟩
  have c_bits_of : Callee P w K mg base 1 "bits_of" ["kind"] (sp_bits_of) := ⟨_, _, ok_bits_of F_bits_of T, b_bits_of, PySem.W.mg_of X G a_bits_of, k_bits_of⟩
  have c_are_cells : Callee P w K mg base 2 "are_cells" ["kind", "numbers"] (sp_are_cells K) := ⟨_, _, ok_are_cells F_are_cells T c_bits_of, b_are_cells, PySem.W.mg_of X G a_are_cells, k_are_cells⟩
  have c_cells_refusal : Callee P w K mg base 3 "cells_refusal" ["kind", "cells", "most_cells"] (sp_cells_refusal K) := ⟨_, _, ok_cells_refusal F_cells_refusal T c_are_cells, b_cells_refusal, PySem.W.mg_of X G a_cells_refusal, k_cells_refusal⟩
  have c_numbers_refusal : Callee P w K mg base 4 "numbers_refusal" ["kind", "rows"] (sp_numbers_refusal K) := ⟨_, _, ok_numbers_refusal F_numbers_refusal T c_is_floating c_cells_refusal, b_numbers_refusal, PySem.W.mg_of X G a_numbers_refusal, k_numbers_refusal⟩
  have c_quantile_refusal : Callee P w K mg base 5 "quantile_refusal" ["kind", "row", "fractions"] (sp_quantile_refusal K) := ⟨_, _, ok_quantile_refusal F_quantile_refusal T c_numbers_refusal, b_quantile_refusal, PySem.W.mg_of X G a_quantile_refusal, k_quantile_refusal⟩
  have c_Shape : Maker P w K mg base C 1 "Shape" ["self", "exponent_bits", "fraction_bits"] (sp_Shape C) := ⟨_, _, ⟨mk_Shape, a_Shape, i_Shape, kc_Shape⟩, ok_Shape F_Shape T, b_Shape, PySem.W.mg_of X G aC_Shape⟩
  have c_shape_of : Callee P w K mg base 3 "shape_of" ["kind"] (sp_shape_of C) := ⟨_, _, ok_shape_of F_shape_of T c_Shape, b_shape_of, PySem.W.mg_of X G a_shape_of, k_shape_of⟩
  have c_is_whole : Callee P w K mg base 1 "is_whole" ["kind"] (sp_is_whole) := ⟨_, _, ok_is_whole F_is_whole T, b_is_whole, PySem.W.mg_of X G a_is_whole, k_is_whole⟩
  have c_size_bits : Callee P w K mg base 1 "size_bits" ["shape", "cell"] (sp_size_bits C) := ⟨_, _, ok_size_bits F_size_bits T, b_size_bits, PySem.W.mg_of X G a_size_bits, k_size_bits⟩
  have c_one_form : Callee P w K mg base 4 "one_form" ["kind", "row"] (sp_one_form K) := ⟨_, _, ok_one_form F_one_form T c_is_whole c_shape_of c_size_bits, b_one_form, PySem.W.mg_of X G a_one_form, k_one_form⟩
  have c_signed_numbers : Callee P w K mg base 1 "signed_numbers" ["bits", "row"] (sp_signed_numbers K) := ⟨_, _, ok_signed_numbers F_signed_numbers T, b_signed_numbers, PySem.W.mg_of X G a_signed_numbers, k_signed_numbers⟩
  have c_floating_place : Callee P w K mg base 2 "floating_place" ["shape", "cell"] (sp_floating_place C) := ⟨_, _, ok_floating_place F_floating_place T c_size_bits, b_floating_place, PySem.W.mg_of X G a_floating_place, k_floating_place⟩
  have c_value_places : Callee P w K mg base 4 "value_places" ["kind", "row"] (sp_value_places K) := ⟨_, _, ok_value_places F_value_places T c_signed_numbers c_shape_of c_floating_place, b_value_places, PySem.W.mg_of X G a_value_places, k_value_places⟩
  have c_in_order : Callee P w K mg base 5 "in_order" ["kind", "row"] (sp_in_order K) := ⟨_, _, ok_in_order F_in_order T c_one_form c_value_places, b_in_order, PySem.W.mg_of X G a_in_order, k_in_order⟩
  have c_is_number : Callee P w K mg base 1 "is_number" ["shape", "cell"] (sp_is_number C) := ⟨_, _, ok_is_number F_is_number T, b_is_number, PySem.W.mg_of X G a_is_number, k_is_number⟩
  have c_between_no_numbers : Callee P w K mg base 2 "between_no_numbers" ["shape", "low", "high"] (sp_between_no_numbers C) := ⟨_, _, ok_between_no_numbers F_between_no_numbers T c_is_number, b_between_no_numbers, PySem.W.mg_of X G a_between_no_numbers, k_between_no_numbers⟩
  have c_number_parts : Callee P w K mg base 1 "number_parts" ["shape", "cell"] (sp_number_parts C) := ⟨_, _, ok_number_parts F_number_parts T, b_number_parts, PySem.W.mg_of X G a_number_parts, k_number_parts⟩
  have c_units_of : Callee P w K mg base 2 "units_of" ["shape", "cell"] (sp_units_of C) := ⟨_, _, ok_units_of F_units_of T c_number_parts, b_units_of, PySem.W.mg_of X G a_units_of, k_units_of⟩
  have c_by_power : Callee P w K mg base 1 "by_power" ["above", "below", "power"] (sp_by_power) := ⟨_, _, ok_by_power F_by_power T, b_by_power, PySem.W.mg_of X G a_by_power, k_by_power⟩
  have c_floor_power : Callee P w K mg base 2 "floor_power" ["above", "below"] (sp_floor_power) := ⟨_, _, ok_floor_power F_floor_power T c_by_power, b_floor_power, PySem.W.mg_of X G a_floor_power, k_floor_power⟩
  have c_nearest : Callee P w K mg base 1 "nearest" ["above", "below"] (sp_nearest) := ⟨_, _, ok_nearest F_nearest T, b_nearest, PySem.W.mg_of X G a_nearest, k_nearest⟩
  have c_stays_small : Callee P w K mg base 2 "stays_small" ["shape", "above", "below", "power"] (sp_stays_small C) := ⟨_, _, ok_stays_small F_stays_small T c_by_power c_nearest, b_stays_small, PySem.W.mg_of X G a_stays_small, k_stays_small⟩
  have c_rounded_size : Callee P w K mg base 3 "rounded_size" ["shape", "above", "below", "sign"] (sp_rounded_size C) := ⟨_, _, ok_rounded_size F_rounded_size T c_floor_power c_by_power c_nearest c_stays_small, b_rounded_size, PySem.W.mg_of X G a_rounded_size, k_rounded_size⟩
  have c_rounded : Callee P w K mg base 4 "rounded" ["shape", "above", "below"] (sp_rounded C) := ⟨_, _, ok_rounded F_rounded T c_rounded_size, b_rounded, PySem.W.mg_of X G a_rounded, k_rounded⟩
  have c_rounded_units : Callee P w K mg base 5 "rounded_units" ["shape", "above", "below", "degree"] (sp_rounded_units C) := ⟨_, _, ok_rounded_units F_rounded_units T c_rounded, b_rounded_units, PySem.W.mg_of X G a_rounded_units, k_rounded_units⟩
  have c_quantile : Callee P w K mg base 6 "quantile" ["shape", "ordered", "a", "b"] (sp_quantile K C) := ⟨_, _, ok_quantile F_quantile T c_is_number c_between_no_numbers c_units_of c_rounded_units, b_quantile, PySem.W.mg_of X G a_quantile, k_quantile⟩
  have c_one_answer : Callee P w K mg base 1 "one_answer" ["results"] (sp_one_answer K) := ⟨_, _, ok_one_answer F_one_answer T, b_one_answer, PySem.W.mg_of X G a_one_answer, k_one_answer⟩
  exact ok_quant F_quant T c_quantile_refusal c_shape_of c_in_order c_quantile c_one_answer
end ErP

open PySem PySem.W PyProof.Rows
set_option maxRecDepth 100000 in
set_option maxHeartbeats 0 in
theorem PySem.Challenge.cw_exactrows_s04_quant_holds : PySem.Challenge.rw_exactrows_s04_quant.Holds := by
  w_on; k_headS; (case hw => exact ⟨[.int 0, .list [], .list []], by decide +kernel, by decide +kernel⟩)
  k_fillS
  refine L2.walk_specK (r := PySem.Challenge.rw_exactrows_s04_quant) (k := 7) (CX := L2.CX0) (ps := ["kind", "x", "fractions"]) (sp := ErP.sp_quant) (by decide +kernel) rfl rfl ⟨rfl, by decide, by decide⟩ (fun w h Y => PySem.W.kIn_of Y) ?F ?S (fun _ _ _ _ z => z)
  case F =>
    intro w mg fa h Y KX G hmg
    refine' ErP.all_mk KX G hmg ?aC_Shape ?a_Shape ?i_Shape ?l_Shape ?c_Shape ?k_Shape ?a_is_whole ?l_is_whole ?c_is_whole ?k_is_whole ?a_is_floating ?l_is_floating ?c_is_floating ?k_is_floating ?a_shape_of ?l_shape_of ?c_shape_of ?k_shape_of ?a_bits_of ?l_bits_of ?c_bits_of ?k_bits_of ?a_are_cells ?l_are_cells ?c_are_cells ?k_are_cells ?a_is_number ?l_is_number ?c_is_number ?k_is_number ?a_number_parts ?l_number_parts ?c_number_parts ?k_number_parts ?a_units_of ?l_units_of ?c_units_of ?k_units_of ?a_one_form ?l_one_form ?c_one_form ?k_one_form ?a_size_bits ?l_size_bits ?c_size_bits ?k_size_bits ?a_value_places ?l_value_places ?c_value_places ?k_value_places ?a_signed_numbers ?l_signed_numbers ?c_signed_numbers ?k_signed_numbers ?a_floating_place ?l_floating_place ?c_floating_place ?k_floating_place ?a_floor_power ?l_floor_power ?c_floor_power ?k_floor_power ?a_by_power ?l_by_power ?c_by_power ?k_by_power ?a_nearest ?l_nearest ?c_nearest ?k_nearest ?a_rounded ?l_rounded ?c_rounded ?k_rounded ?a_rounded_size ?l_rounded_size ?c_rounded_size ?k_rounded_size ?a_stays_small ?l_stays_small ?c_stays_small ?k_stays_small ?a_rounded_units ?l_rounded_units ?c_rounded_units ?k_rounded_units ?a_one_answer ?l_one_answer ?c_one_answer ?k_one_answer ?a_in_order ?l_in_order ?c_in_order ?k_in_order ?a_quantile ?l_quantile ?c_quantile ?k_quantile ?a_between_no_numbers ?l_between_no_numbers ?c_between_no_numbers ?k_between_no_numbers ?a_cells_refusal ?l_cells_refusal ?c_cells_refusal ?k_cells_refusal ?a_numbers_refusal ?l_numbers_refusal ?c_numbers_refusal ?k_numbers_refusal ?a_quantile_refusal ?l_quantile_refusal ?c_quantile_refusal ?k_quantile_refusal ?a_quant ?l_quant ?c_quant ?k_quant ?pg_Shape ?hd_Shape ?po_Shape ?sa_Shape ?mk_Shape ?kc_Shape ?x_a_m ?x_a_s ?x_a_i ?x_a_n ?x_a_l ?x_a_u ?n_abs ?n_all ?n_any ?n_len ?n_list ?n_max ?n_range ?n_sorted ?n_zip ?g_NONE_PLACE ?g_TOO_GREAT ?g_TOO_SMALL ?g_NOT_EXACT ?g_MOST_CELLS ?g_MOST_FRACTIONS ?g_WORD_END ?g_WRONG_FORM ?g_WRONG_ORDER ?g_NOTHING_TO_TELL ?gDS ?lDS ?sDS ?gDU ?lDU ?sDU ?gDF ?lDF ?sDF ?l9 ?l10 ?l11 ?l12
    (case aC_Shape => k_is)
    (case a_Shape => k_is)
    (case i_Shape => k_is)
    (case l_Shape => k_is)
    (case c_Shape => k_is)
    (case k_Shape => k_is)
    (case a_is_whole => k_is)
    (case l_is_whole => k_is)
    (case c_is_whole => k_is)
    (case k_is_whole => k_is)
    (case a_is_floating => k_is)
    (case l_is_floating => k_is)
    (case c_is_floating => k_is)
    (case k_is_floating => k_is)
    (case a_shape_of => k_is)
    (case l_shape_of => k_is)
    (case c_shape_of => k_is)
    (case k_shape_of => k_is)
    (case a_bits_of => k_is)
    (case l_bits_of => k_is)
    (case c_bits_of => k_is)
    (case k_bits_of => k_is)
    (case a_are_cells => k_is)
    (case l_are_cells => k_is)
    (case c_are_cells => k_is)
    (case k_are_cells => k_is)
    (case a_is_number => k_is)
    (case l_is_number => k_is)
    (case c_is_number => k_is)
    (case k_is_number => k_is)
    (case a_number_parts => k_is)
    (case l_number_parts => k_is)
    (case c_number_parts => k_is)
    (case k_number_parts => k_is)
    (case a_units_of => k_is)
    (case l_units_of => k_is)
    (case c_units_of => k_is)
    (case k_units_of => k_is)
    (case a_one_form => k_is)
    (case l_one_form => k_is)
    (case c_one_form => k_is)
    (case k_one_form => k_is)
    (case a_size_bits => k_is)
    (case l_size_bits => k_is)
    (case c_size_bits => k_is)
    (case k_size_bits => k_is)
    (case a_value_places => k_is)
    (case l_value_places => k_is)
    (case c_value_places => k_is)
    (case k_value_places => k_is)
    (case a_signed_numbers => k_is)
    (case l_signed_numbers => k_is)
    (case c_signed_numbers => k_is)
    (case k_signed_numbers => k_is)
    (case a_floating_place => k_is)
    (case l_floating_place => k_is)
    (case c_floating_place => k_is)
    (case k_floating_place => k_is)
    (case a_floor_power => k_is)
    (case l_floor_power => k_is)
    (case c_floor_power => k_is)
    (case k_floor_power => k_is)
    (case a_by_power => k_is)
    (case l_by_power => k_is)
    (case c_by_power => k_is)
    (case k_by_power => k_is)
    (case a_nearest => k_is)
    (case l_nearest => k_is)
    (case c_nearest => k_is)
    (case k_nearest => k_is)
    (case a_rounded => k_is)
    (case l_rounded => k_is)
    (case c_rounded => k_is)
    (case k_rounded => k_is)
    (case a_rounded_size => k_is)
    (case l_rounded_size => k_is)
    (case c_rounded_size => k_is)
    (case k_rounded_size => k_is)
    (case a_stays_small => k_is)
    (case l_stays_small => k_is)
    (case c_stays_small => k_is)
    (case k_stays_small => k_is)
    (case a_rounded_units => k_is)
    (case l_rounded_units => k_is)
    (case c_rounded_units => k_is)
    (case k_rounded_units => k_is)
    (case a_one_answer => k_is)
    (case l_one_answer => k_is)
    (case c_one_answer => k_is)
    (case k_one_answer => k_is)
    (case a_in_order => k_is)
    (case l_in_order => k_is)
    (case c_in_order => k_is)
    (case k_in_order => k_is)
    (case a_quantile => k_is)
    (case l_quantile => k_is)
    (case c_quantile => k_is)
    (case k_quantile => k_is)
    (case a_between_no_numbers => k_is)
    (case l_between_no_numbers => k_is)
    (case c_between_no_numbers => k_is)
    (case k_between_no_numbers => k_is)
    (case a_cells_refusal => k_is)
    (case l_cells_refusal => k_is)
    (case c_cells_refusal => k_is)
    (case k_cells_refusal => k_is)
    (case a_numbers_refusal => k_is)
    (case l_numbers_refusal => k_is)
    (case c_numbers_refusal => k_is)
    (case k_numbers_refusal => k_is)
    (case a_quantile_refusal => k_is)
    (case l_quantile_refusal => k_is)
    (case c_quantile_refusal => k_is)
    (case k_quantile_refusal => k_is)
    (case a_quant => k_is)
    (case l_quant => k_is)
    (case c_quant => k_is)
    (case k_quant => k_is)
    (case pg_Shape => k_is)
    (case hd_Shape => k_is)
    (case po_Shape => k_is)
    (case sa_Shape => k_is)
    (case mk_Shape => k_is)
    (case kc_Shape => k_is)
    (case x_a_m => k_is)
    (case x_a_s => k_is)
    (case x_a_i => k_is)
    (case x_a_n => k_is)
    (case x_a_l => k_is)
    (case x_a_u => k_is)
    (case n_abs => k_is)
    (case n_all => k_is)
    (case n_any => k_is)
    (case n_len => k_is)
    (case n_list => k_is)
    (case n_max => k_is)
    (case n_range => k_is)
    (case n_sorted => k_is)
    (case n_zip => k_is)
    (case g_NONE_PLACE => k_is)
    (case g_TOO_GREAT => k_is)
    (case g_TOO_SMALL => k_is)
    (case g_NOT_EXACT => k_is)
    (case g_MOST_CELLS => k_is)
    (case g_MOST_FRACTIONS => k_is)
    (case g_WORD_END => k_is)
    (case g_WRONG_FORM => k_is)
    (case g_WRONG_ORDER => k_is)
    (case g_NOTHING_TO_TELL => k_is)
    (case gDS => k_is)
    (case lDS => k_is)
    (case sDS => first | rfl | decide | k_is)
    (case gDU => k_is)
    (case lDU => k_is)
    (case sDU => first | rfl | decide | k_is)
    (case gDF => k_is)
    (case lDF => k_is)
    (case sDF => first | rfl | decide | k_is)
    (case l9 => k_is)
    (case l10 => k_is)
    (case l11 => k_is)
    (case l12 => k_is)
  case S =>
    intro K H xs a hO hwi hask hx
    obtain ⟨kind, x, y, u⟩ := a
    cases hx with
    | cons h1 h2 =>
      cases h1
      cases h2 with
      | cons h3 h4 =>
        cases h4 with
        | cons h5 h6 =>
          cases h6
          cases h3 with
          | lst hs ha =>
            cases h5 with
            | lst hs2 hb =>
              have e := L2.ints_dw x _ ha
              subst e
              have e2 := L2.ints_dw y _ hb
              subst e2
              have q : (Codec.inInt 0 18446744073709551615 kind && ((Codec.inLen 0 4200 x && x.all (Codec.inInt 0 18446744073709551615)) && ((Codec.inLen 0 8300 y && y.all (Codec.inInt 0 18446744073709551615)) && true))) = true := hwi
              rw [Bool.and_eq_true, Bool.and_eq_true, Bool.and_eq_true, Bool.and_eq_true, Bool.and_eq_true] at q
              have hk : 0 ≤ kind := ErP.inI q.1
              have hx : ∀ c ∈ x, 0 ≤ c := fun c hc => ErP.inI (List.all_eq_true.mp q.2.1.2 c hc)
              have hy : ∀ c ∈ y, 0 ≤ c := fun c hc => ErP.inI (List.all_eq_true.mp q.2.2.1.2 c hc)
              have hsk : (true && ((BdNeutral.long kind && (BdNeutral.longs x && (BdNeutral.longs y && (y.length % 2 == 0)))) && true)) = true := hask
              simp only [Bool.true_and, Bool.and_true, Bool.and_eq_true, beq_iff_eq] at hsk
              have hyl : y.length ≤ 8300 := (Codec.inNat_iff.mp q.2.2.1.1).2
              refine ⟨kind, _, _, x, y, y.length / 2, rfl, hs, hs2, (Codec.inNat_iff.mp q.2.1.1).2, by omega, by omega, hk, hx, hy, fun H' p hp => ?_⟩
              exact .lst (L2.SqL.of hp) (L2.dw_ints _)
#print axioms PySem.Challenge.cw_exactrows_s04_quant_holds
