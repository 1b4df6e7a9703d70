import PyProof.Rows.All
import Wide.All
import OpenK.AllK
import Wide.FinOn
import PyProof.EqAt
import PyProof.EqKinds
import PyProof.TupleCall
import KE.BitLaws
import KE.OsGo
import Open.SpecLaws
import PySem.Challenge.RW_latepackets_s01_answers
set_option Elab.async false
set_option linter.all false
set_option maxRecDepth 100000
set_option maxHeartbeats 4000000
namespace L2
open PySem PySem.Spec PyProof.Rows
/-- a key: an int or a str -/
abbrev Key := Sum Int Str
def keyIs : Key → Value → Bool
  | .inl k, v => Value.isInt k v
  | .inr x, v => Value.isStrOf x v
def keyH (w : World) : Key → Int
  | .inl k => hashInt k
  | .inr x => hashStr w x
theorem keyIs_shape : ∀ {k : Key} {v : Value}, keyIs k v = true → (∃ i t, k = Sum.inl i ∧ v = Value.int i t) ∨ (∃ x t, k = Sum.inr x ∧ v = Value.str x t)
  | .inl i, v, h => by
    obtain ⟨t, e⟩ := Value.isInt_shape (k := i) (v := v) h
    exact .inl ⟨i, t, rfl, e⟩
  | .inr x, v, h => by
    obtain ⟨t, e⟩ := Value.isStrOf_shape (x := x) (v := v) h
    exact .inr ⟨x, t, rfl, e⟩
theorem keyIs_int (i : Int) (t : Tok) : keyIs (.inl i) (.int i t) = true := by simp [keyIs, Value.isInt]
theorem keyIs_str (x : Str) (t : Tok) : keyIs (.inr x) (.str x t) = true := by simp [keyIs, Value.isStrOf]
theorem key_ll (a b : Int) : decide ((Sum.inl a : Key) = Sum.inl b) = (a == b) := by
  by_cases e : a = b
  · subst e; simp
  · have h : ¬ (Sum.inl a : Key) = Sum.inl b := fun q => e (Sum.inl.inj q)
    rw [decide_eq_false h]
    exact (beq_eq_false_iff_ne.mpr e).symm
theorem key_rr (a b : Str) : decide ((Sum.inr a : Key) = Sum.inr b) = decide (a = b) := by
  by_cases e : a = b
  · subst e; simp
  · have h : ¬ (Sum.inr a : Key) = Sum.inr b := fun q => e (Sum.inr.inj q)
    rw [decide_eq_false h, decide_eq_false e]
theorem key_lr (a : Int) (b : Str) : decide ((Sum.inl a : Key) = Sum.inr b) = false := decide_eq_false (fun q => nomatch q)
theorem key_rl (a : Str) (b : Int) : decide ((Sum.inr a : Key) = Sum.inl b) = false := decide_eq_false (fun q => nomatch q)

def mixKind (prog : Program) (w : World) : PySem.KeyKind prog w Key where
  is := keyIs
  hash := keyH w
  inj := fun v a b ha hb => by
    rcases keyIs_shape ha with ⟨i, t, rfl, rfl⟩ | ⟨x, t, rfl, rfl⟩
    · rcases keyIs_shape hb with ⟨j, u, rfl, e⟩ | ⟨y, u, rfl, e⟩
      · injection e with e1 _; rw [e1]
      · exact nomatch e
    · rcases keyIs_shape hb with ⟨j, u, rfl, e⟩ | ⟨y, u, rfl, e⟩
      · exact nomatch e
      · injection e with e1 _; rw [e1]
  byValue := fun k v h => by
    rcases keyIs_shape h with ⟨i, t, rfl, rfl⟩ | ⟨x, t, rfl, rfl⟩ <;> rfl
  pyHash := fun hv h => by
    rcases keyIs_shape hv with ⟨i, t, rfl, rfl⟩ | ⟨x, t, rfl, rfl⟩
    · exact wpAny_pyHash_int h
    · exact wpAny_pyHash_str h
  eqBool := fun hu hv h => by
    rcases keyIs_shape hu with ⟨i, t, rfl, rfl⟩ | ⟨x, t, rfl, rfl⟩
    · rcases keyIs_shape hv with ⟨j, u, rfl, rfl⟩ | ⟨y, u, rfl, rfl⟩
      · rw [key_ll] at h; exact wpAny_eqBool_int h
      · rw [key_lr] at h; exact SeqAt.EqAt.int_str i t y u _ _ _ _ h
    · rcases keyIs_shape hv with ⟨j, u, rfl, rfl⟩ | ⟨y, u, rfl, rfl⟩
      · rw [key_rl] at h; exact SeqAt.EqAt.str_int x t j u _ _ _ _ h
      · rw [key_rr] at h; exact wpAny_eqBool_str h
  «strs» := fun k x t v h => by
    rcases keyIs_shape h with ⟨i, u, rfl, e⟩ | ⟨y, u, rfl, e⟩
    · exact nomatch e
    · injection e with e1 _
      subst e1
      cases v <;> rfl

theorem mixKind_int (prog : Program) (w : World) (i : Int) (t : Tok) : (mixKind prog w).is (.inl i) (.int i t) = true := keyIs_int i t
theorem mixKind_str (prog : Program) (w : World) (x : Str) (t : Tok) : (mixKind prog w).is (.inr x) (.str x t) = true := keyIs_str x t
end L2
namespace L2
open PySem PySem.Spec PyProof.Rows
/-- a value, without the heap -/
inductive V where
  | non | bl (b : Bool) | int (i : Int) | str (x : Str) | byt (b : Array UInt8) | flt (b : UInt64) | ref (a : Addr) | ty (n : String)
  deriving DecidableEq

def RelV : V → Value → Prop
  | .non, u => u = Value.none
  | .bl b, u => u = Value.bool b
  | .int i, u => ∃ t, u = Value.int i t
  | .str x, u => ∃ t, u = Value.str x t
  | .byt b, u => ∃ t, u = Value.bytes b t
  | .flt b, u => ∃ t, u = Value.float b t
  | .ref a, u => u = Value.ref a
  | .ty n, u => u = Value.type n

abbrev Vals : List V → List Value → Prop := Paired RelV
theorem Vals.length {xs : List V} {us : List Value} (r : Vals xs us) : xs.length = us.length := Paired.length r
theorem Vals.get : ∀ {xs : List V} {us : List Value} {i : Nat} {x : V}, Vals xs us → xs[i]? = some x → ∃ u, us[i]? = some u ∧ RelV x u
  | _, _, _, _, .nil, e => by simp at e
  | _, _, 0, _, .cons r _, e => by simp at e; subst e; exact ⟨_, rfl, r⟩
  | _, _, i + 1, x, .cons _ t, e => by
    obtain ⟨u, h1, h2⟩ := Vals.get (i := i) (x := x) t (by simpa using e)
    exact ⟨u, by simpa using h1, h2⟩
theorem Vals.set {x : V} {u : Value} (r : RelV x u) : ∀ {xs : List V} {us : List Value} (i : Nat), Vals xs us → Vals (xs.set i x) (us.set i u)
  | _, _, _, .nil => .nil
  | _, _, 0, .cons _ t => .cons r t
  | _, _, i + 1, .cons q t => .cons q (Vals.set r i t)
theorem Vals.append : ∀ {xs ys : List V} {us ws : List Value}, Vals xs us → Vals ys ws → Vals (xs ++ ys) (us ++ ws)
  | _, _, _, _, .nil, s => s
  | _, _, _, _, .cons r t, s => .cons r (Vals.append t s)
theorem Vals.take : ∀ {xs : List V} {us : List Value} (n : Nat), Vals xs us → Vals (xs.take n) (us.take n)
  | _, _, 0, _ => .nil
  | _, _, _ + 1, .nil => .nil
  | _, _, n + 1, .cons r t => .cons r (Vals.take n t)
theorem Vals.drop : ∀ {xs : List V} {us : List Value} (n : Nat), Vals xs us → Vals (xs.drop n) (us.drop n)
  | _, _, 0, r => r
  | _, _, _ + 1, .nil => .nil
  | _, _, n + 1, .cons _ t => Vals.drop n t
theorem Vals.none_of : ∀ {xs : List V} {us : List Value} {i : Nat}, Vals xs us → xs[i]? = none → us[i]? = none := fun {xs us i} r e => by
  have h1 := r.length
  have h2 : xs.length ≤ i := List.getElem?_eq_none_iff.mp e
  exact List.getElem?_eq_none_iff.mpr (by omega)

def RelO : Option V → Option Value → Prop
  | some v, some u => RelV v u
  | none, none => True
  | _, _ => False
def KV {κ : Type} : List (κ × V) → List (κ × Value) → Prop := Paired fun (p : κ × V) (q : κ × Value) => p.1 = q.1 ∧ RelV p.2 q.2

/-- a key of a dict (00_mix): an int or a text -/
def kV : Key → V
  | .inl i => .int i
  | .inr x => .str x

/-- what stands at a tracked address -/
inductive HO where
  /-- a list -/
  | lst (xs : List V)
  /-- a tuple (never changes) -/
  | tup (xs : List V)
  /-- a dict whose keys are ints and texts; one whose keys are tuples of ints and texts (the empty one is both) -/
  | dK (kvs : List (Key × V)) | dT (kvs : List (List Key × V))
  /-- a set of ints: its members, its size -/
  | set (S : Int → Bool) (n : Nat)
  /-- an instance of the class at C, its dict at dx, its attributes -/
  | ins (C dx : Addr) (fs : List (Str × V))
  /-- the dict of the instance at x -/
  | own (x : Addr)
  /-- the dict of an exception -/
  | xd (fs : List (Str × V))
  /-- a bound method, f of x -/
  | met (f x : Addr)
  /-- a range object lo, lo + 1, .. below hi -/
  | rng (lo hi : Int)
  /-- a thing that is known to the object (the script; a dict while a loop walks it): read, never written while it is so -/
  | frz (o : Obj) (u : HO)
  /-- a code object's table -/
  | tbl (ps : Array Value)
  /-- any other thing, by what is true of its one object (a def of one's own: SetO a S n := HO.ext fun h => ..) -/
  | ext (φ : Heap → Prop)

abbrev Hp := Addr → Option HO
def upd (H : Hp) (a : Addr) (o : HO) : Hp := fun b => if b = a then some o else H b
theorem upd_same {H : Hp} {a : Addr} {o : HO} : upd H a o a = some o := by unfold upd; rw [if_pos rfl]
theorem upd_ne {H : Hp} {a b : Addr} {o : HO} (h : b ≠ a) : upd H a o b = H b := by unfold upd; rw [if_neg h]
theorem upd_upd {H : Hp} {a : Addr} {o u : HO} : upd (upd H a o) a u = upd H a u := by
  funext b; unfold upd; split <;> rfl
/-- two objects of different content stand apart -/
theorem ne_of {H : Hp} {a b : Addr} {o u : HO} (h : H a = some o) (h' : H b = some u) (d : o ≠ u) : a ≠ b := by
  intro e; subst e; rw [h] at h'; exact d (Option.some.inj h')
theorem ne_of_none {H : Hp} {a b : Addr} {o : HO} (h : H a = some o) (h' : H b = none) : a ≠ b := by
  intro e; subst e; rw [h] at h'; cases h'

section
variable (P : Program) (w : World)
def ObjOk (H : Hp) (h : Heap) (a : Addr) : HO → Prop
  | .lst xs => xs.length ≤ sizeLine ∧ ∃ (its : List Value) (n : Nat), Vals xs its ∧ h.get? a = some { cls := .type "list", data := .seq its.toArray n }
  | .tup xs => xs.length ≤ sizeLine ∧ ∃ its : List Value, Vals xs its ∧ IsTup h a its.toArray
  | .dK kvs => kvs.length ≤ sizeLine ∧ (a == sysModules) = false ∧ ∃ vs, KV kvs vs ∧ h.DictOf (mixKind P w) a vs
  | .dT kvs => kvs.length ≤ sizeLine ∧ (a == sysModules) = false ∧ ∃ xs : List (List Key × Addr × Value),
      Paired (fun (p : List Key × V) (q : List Key × Addr × Value) => p.1 = q.1 ∧ H q.2.1 = some (.tup (p.1.map kV)) ∧ RelV p.2 q.2.2) kvs xs ∧
      ∃ o es ep, h.get? a = some o ∧ o.ExactDict ∧ o.data = .dict es ep ∧ es.toList = xs.map (entryOfKey (tupleKind (mixKind P w))) ∧ (xs.map (·.1)).Nodup
  | .set S n => h.SetOf (intKind P w) a S n
  | .ins C dx fs => H dx = some (.own a) ∧ fs.length ≤ 1000 ∧ dx ≠ a ∧ h.get? a = some (PySem.W.instObj C dx) ∧
      ∃ mA, h.Ns1 dx mA ∧ (∀ f, RelO (fs.lookup f) (mA f)) ∧ PySem.Within mA (fs.map (·.1))
  | .own _ => ∃ o, h.get? a = some o
  | .xd fs => ∃ mA, h.Ns1 a mA ∧ ∀ f, RelO (fs.lookup f) (mA f)
  | .rng lo hi => ∃ t u v, h.get? a = some { cls := .type "range", data := .fields #[.int lo t, .int hi u, .int 1 v] }
  | .frz o u => h.get? a = some o ∧ ObjOk H h a u
  | .tbl ps => h.get? a = some { cls := .none, data := .fields ps }
  | .met f x => h.get? a = some (PySem.W.methodObj (.ref f) (.ref x))
  | .ext φ => φ h ∧ (∃ o, h.get? a = some o) ∧ ∀ h1 h2 : Heap, φ h1 → (∀ o, h1.get? a = some o → h2.get? a = some o) → φ h2
/-- the abstract heap is held -/
def HOk (H : Hp) (h : Heap) : Prop := ∀ a o, H a = some o → ObjOk P w H h a o
end
section
variable {P : Program} {w : World} {H H' : Hp} {h h' : Heap} {a : Addr} {o : HO}
theorem ObjOk.lt (x : ObjOk P w H h a o) : a < h.objs.size := by
  cases o with
  | lst xs => obtain ⟨_, _, _, _, e⟩ := x; exact Heap.lt_size e
  | tup xs => obtain ⟨_, _, _, p⟩ := x; exact p.lt
  | dK kvs => obtain ⟨_, _, _, _, o, _, _, e, _⟩ := x; exact Heap.lt_size e
  | dT kvs => obtain ⟨_, _, _, _, o, _, _, e, _⟩ := x; exact Heap.lt_size e
  | set S n => obtain ⟨o, _, _, _, e, _⟩ := x; exact Heap.lt_size e
  | ins C dx fs => obtain ⟨_, _, _, e, _⟩ := x; exact Heap.lt_size e
  | own y => obtain ⟨_, e⟩ := x; exact Heap.lt_size e
  | xd fs => obtain ⟨_, ⟨_, _, _, e, _⟩, _⟩ := x; exact Heap.lt_size e
  | rng lo hi => obtain ⟨_, _, _, e⟩ := x; exact Heap.lt_size e
  | frz ob u => obtain ⟨e, _⟩ := x; exact Heap.lt_size e
  | tbl ps => exact Heap.lt_size (show h.get? a = some _ from x)
  | met f y => exact Heap.lt_size (show h.get? a = some _ from x)
  | ext φ => obtain ⟨_, ⟨_, e⟩, _⟩ := x; exact Heap.lt_size e
theorem Paired.mapP {α β : Type} {F G : α → β → Prop} : ∀ {l₁ : List α} {l₂ : List β}, Paired F l₁ l₂ → (∀ a b, F a b → G a b) → Paired G l₁ l₂
  | _, _, .nil, _ => .nil
  | _, _, .cons r t, f => .cons (f _ _ r) (Paired.mapP t f)
/-- what an object's description leans on: its own object, its own dict, the tuples -/
theorem ObjOk.stay (x : ObjOk P w H h a o) (k : ∀ b u, (b = a ∨ H b = some (.own a)) → h.get? b = some u → h'.get? b = some u)
    (ho : ∀ b, H b = some (.own a) → H' b = some (.own a)) (ht : ∀ b xs, H b = some (.tup xs) → H' b = some (.tup xs)) : ObjOk P w H' h' a o := by
  induction o with
  | lst xs => obtain ⟨z, its, n, r, e⟩ := x; exact ⟨z, its, n, r, k _ _ (.inl rfl) e⟩
  | tup xs => obtain ⟨z, its, r, ob, e, c⟩ := x; exact ⟨z, its, r, ob, k _ _ (.inl rfl) e, c⟩
  | dK kvs => obtain ⟨z, y, vs, r, ob, es, ep, e, c⟩ := x; exact ⟨z, y, vs, r, ob, es, ep, k _ _ (.inl rfl) e, c⟩
  | dT kvs =>
    obtain ⟨z, y, xs, r, ob, es, ep, e, c⟩ := x
    exact ⟨z, y, xs, Paired.mapP r fun p q z => ⟨z.1, ht _ _ z.2.1, z.2.2⟩, ob, es, ep, k _ _ (.inl rfl) e, c⟩
  | set S n => obtain ⟨ob, es, ep, t, e, c⟩ := x; exact ⟨ob, es, ep, t, k _ _ (.inl rfl) e, c⟩
  | ins C dx fs =>
    obtain ⟨d, z, ne, e, mA, ⟨od, es, ep, e2, c⟩, r⟩ := x
    exact ⟨ho _ d, z, ne, k _ _ (.inl rfl) e, mA, ⟨od, es, ep, k _ _ (.inr d) e2, c⟩, r⟩
  | own y => obtain ⟨ob, e⟩ := x; exact ⟨ob, k _ _ (.inl rfl) e⟩
  | xd fs => obtain ⟨mA, ⟨od, es, ep, e, c⟩, r⟩ := x; exact ⟨mA, ⟨od, es, ep, k _ _ (.inl rfl) e, c⟩, r⟩
  | rng lo hi => obtain ⟨t, u, v, e⟩ := x; exact ⟨t, u, v, k _ _ (.inl rfl) e⟩
  | frz ob u ih => obtain ⟨e, q⟩ := x; exact ⟨k _ _ (.inl rfl) e, ih q⟩
  | tbl ps =>
    have e : h.get? a = some { cls := .none, data := .fields ps } := x
    show h'.get? a = some { cls := .none, data := .fields ps }
    exact k a _ (.inl rfl) e
  | met f y =>
    have e : h.get? a = some (PySem.W.methodObj (.ref f) (.ref y)) := x
    show h'.get? a = some (PySem.W.methodObj (.ref f) (.ref y))
    exact k a _ (.inl rfl) e
  | ext φ => obtain ⟨p, ⟨o, e⟩, st⟩ := x; exact ⟨st _ _ p fun o q => k _ _ (.inl rfl) q, ⟨o, k _ _ (.inl rfl) e⟩, st⟩
theorem HOk.lt (x : HOk P w H h) (e : H a = some o) : a < h.objs.size := (x a o e).lt
theorem HOk.fresh (x : HOk P w H h) (e : h.objs.size ≤ a) : H a = none := by
  cases q : H a with
  | none => rfl
  | some u => exact absurd (Nat.lt_of_lt_of_le (x.lt q) e) (Nat.lt_irrefl _)
/-- every object of the heap is kept -/
theorem HOk.kept (x : HOk P w H h) (k : ∀ b u, h.get? b = some u → h'.get? b = some u) : HOk P w H h' := fun a o e =>
  (x a o e).stay (fun b u _ q => k b u q) (fun _ q => q) fun _ _ q => q
/-- a new object is laid and tracked -/
theorem HOk.laid (x : HOk P w H h) (k : ∀ b u, h.get? b = some u → h'.get? b = some u) (hp : h.objs.size ≤ a) (new : ObjOk P w (upd H a o) h' a o) : HOk P w (upd H a o) h' := fun b u e => by
  have hn := x.fresh hp
  by_cases hb : b = a
  · subst hb; rw [upd_same] at e; cases e; exact new
  · rw [upd_ne hb] at e
    exact (x b u e).stay (fun c v _ q => k c v q) (fun c q => by rw [upd_ne (ne_of_none q hn)]; exact q) fun c xs q => by rw [upd_ne (ne_of_none q hn)]; exact q
end
/-- what may be read as u: it is u, or a known u -/
def Rd (H : Hp) (a : Addr) (u : HO) : Prop := H a = some u ∨ ∃ o, H a = some (.frz o u)
theorem Rd.of {H : Hp} {a : Addr} {u : HO} (h : H a = some u) : Rd H a u := .inl h
theorem Rd.ok {P : Program} {w : World} {H : Hp} {h : Heap} {a : Addr} {u : HO} (r : Rd H a u) (x : HOk P w H h) : ObjOk P w H h a u := by
  rcases r with r | ⟨o, r⟩
  · exact x a u r
  · obtain ⟨_, q⟩ := x a _ r
    exact q
/-- what may be written -/
def Mut : Option HO → Prop
  | some (.lst _) => True
  | some (.dK _) => True
  | some (.dT _) => True
  | some (.set _ _) => True
  | some (.ins _ _ _) => True
  | some (.ext _) => True
  | _ => False
section
variable {P : Program} {w : World} {H : Hp} {h h' : Heap} {x e : Addr} {o' : HO}
/-- the object at e is changed: x itself, or the dict of the instance x -/
theorem HOk.write (ok : HOk P w H h) (mu : Mut (H x)) (he : e = x ∨ H e = some (.own x)) (k : ∀ b u, b ≠ e → h.get? b = some u → h'.get? b = some u) (heo : ∃ u, h'.get? e = some u)
    (new : ObjOk P w (upd H x o') h' x o') : HOk P w (upd H x o') h' := fun b u q => by
  have nown : ∀ c y, H c = some (.own y) → c ≠ x := fun c y r z => by subst z; rw [r] at mu; exact mu
  have ntup : ∀ c xs, H c = some (.tup xs) → c ≠ x := fun c xs r z => by subst z; rw [r] at mu; exact mu
  by_cases hb : b = x
  · subst hb; rw [upd_same] at q; cases q; exact new
  · rw [upd_ne hb] at q
    by_cases hbe : b = e
    · have q' : H b = some (.own x) := by
        rcases he with z | z
        · exact absurd (hbe.trans z) hb
        · rw [hbe]; exact z
      rw [q] at q'; cases q'
      obtain ⟨v, hv⟩ := heo
      exact ⟨v, by rw [hbe]; exact hv⟩
    · refine (ok b u q).stay (fun c v hc r => k c v ?_ r) (fun c r => by rw [upd_ne (nown c b r)]; exact r) fun c xs r => by rw [upd_ne (ntup c xs r)]; exact r
      rcases hc with rfl | hc
      · exact hbe
      · rintro rfl
        rcases he with z | z
        · exact nown c b hc z
        · rw [hc] at z; cases z; exact hb rfl
end
/-! ### kept unless tracked; of the frames at fs (the callers') the slots may change (an exception that passes writes there); of the records at ex (iterators) nothing is said -/
structure Un (fs ex : List Addr) (H H' : Hp) (h h' : Heap) : Prop where
  keep : ∀ b o, h.get? b = some o → H b = none → b ∉ fs → b ∉ ex → h'.get? b = some o
  slot : ∀ b o, h.get? b = some o → H b = none → b ∈ fs → b ∉ ex → ∃ sl, h'.get? b = some { o with slots := sl }
  free : ∀ b o, h.get? b = some o → H b = none → b ∉ ex → H' b = none
  there : ∀ b o, h.get? b = some o → b ∉ ex → ∃ o', h'.get? b = some o'
  tups : ∀ b xs, H b = some (.tup xs) → H' b = some (.tup xs)
  frzs : ∀ b o u, H b = some (.frz o u) → H' b = some (.frz o u)
  tbls : ∀ b ps, H b = some (.tbl ps) → ∃ more, H' b = some (.tbl (ps ++ more))
section
variable {fs fs' ex ex' : List Addr} {H H1 H2 : Hp} {h h1 h2 h' : Heap} {a x e : Addr} {o : HO}
theorem Un.any (u : Un fs ex H H1 h h1) {b : Addr} {ob : Obj} (q : h.get? b = some ob) (n : H b = none) (hx : b ∉ ex) : ∃ sl, h1.get? b = some { ob with slots := sl } := by
  by_cases hb : b ∈ fs
  · exact u.slot b ob q n hb hx
  · exact ⟨ob.slots, u.keep b ob q n hb hx⟩
theorem Un.trans (a : Un fs ex H H1 h h1) (b : Un fs ex H1 H2 h1 h2) : Un fs ex H H2 h h2 where
  keep := fun c ob q n hc hx => b.keep c ob (a.keep c ob q n hc hx) (a.free c ob q n hx) hc hx
  slot := fun c ob q n hc hx => by
    obtain ⟨sl, e1⟩ := a.slot c ob q n hc hx
    obtain ⟨sl', e2⟩ := b.slot c _ e1 (a.free c ob q n hx) hc hx
    exact ⟨sl', e2⟩
  free := fun c ob q n hx => by
    obtain ⟨o', e1⟩ := a.there c ob q hx
    exact b.free c o' e1 (a.free c ob q n hx) hx
  there := fun c ob q hx => by
    obtain ⟨o', e1⟩ := a.there c ob q hx
    exact b.there c o' e1 hx
  tups := fun c xs q => b.tups c xs (a.tups c xs q)
  frzs := fun c ob xs q => b.frzs c ob xs (a.frzs c ob xs q)
  tbls := fun c ps q => by
    obtain ⟨m1, e1⟩ := a.tbls c ps q
    obtain ⟨m2, e2⟩ := b.tbls c _ e1
    exact ⟨m1 ++ m2, by rw [e2, Array.append_assoc]⟩
theorem Un.kept (k : ∀ b u, h.get? b = some u → h'.get? b = some u) : Un fs ex H H h h' :=
  ⟨fun b ob q _ _ _ => k b ob q, fun b ob q _ _ _ => ⟨ob.slots, k b ob q⟩, fun _ _ _ n _ => n, fun b ob q _ => ⟨ob, k b ob q⟩, fun _ _ q => q, fun _ _ _ q => q, fun _ ps q => ⟨#[], by rw [q]; simp⟩⟩
theorem Un.refl : Un fs ex H H h h := Un.kept fun _ _ q => q
theorem Un.laid (k : ∀ b u, h.get? b = some u → h'.get? b = some u) (hp : h.objs.size ≤ a) (hn : H a = none) : Un fs ex H (upd H a o) h h' where
  keep := fun b u q _ _ _ => k b u q
  slot := fun b u q _ _ _ => ⟨u.slots, k b u q⟩
  free := fun b u q n _ => by rw [upd_ne (Nat.ne_of_lt (Nat.lt_of_lt_of_le (Heap.lt_size q) hp))]; exact n
  there := fun b u q _ => ⟨u, k b u q⟩
  tups := fun b xs q => by rw [upd_ne (ne_of_none q hn)]; exact q
  frzs := fun b u xs q => by rw [upd_ne (ne_of_none q hn)]; exact q
  tbls := fun b ps q => ⟨#[], by rw [upd_ne (ne_of_none q hn), q]; simp⟩
theorem Un.write (mu : Mut (H x)) (he : e = x ∨ H e = some (.own x)) (k : ∀ b u, b ≠ e → h.get? b = some u → h'.get? b = some u) (heo : ∃ u, h'.get? e = some u) : Un fs ex H (upd H x o) h h' := by
  have hx : ∀ b, H b = none → b ≠ x := fun b n z => by subst z; rw [n] at mu; exact mu
  have hb : ∀ b, H b = none → b ≠ e := fun b n z => by
    subst z
    rcases he with r | r
    · exact hx b n r
    · rw [n] at r; cases r
  have hm : ∀ b u, H b = some u → ¬ Mut (some u) → b ≠ x := fun b u q nm z => by subst z; rw [q] at mu; exact nm mu
  refine ⟨fun b u q n _ _ => k b u (hb b n) q, fun b u q n _ _ => ⟨u.slots, k b u (hb b n) q⟩, fun b u q n _ => by rw [upd_ne (hx b n)]; exact n, fun b u q _ => ?_,
    fun b xs q => by rw [upd_ne (hm b _ q fun z => z)]; exact q, fun b u xs q => by rw [upd_ne (hm b _ q fun z => z)]; exact q, fun b ps q => ⟨#[], by rw [upd_ne (hm b _ q fun z => z), q]; simp⟩⟩
  by_cases hbe : b = e
  · subst hbe; exact heo
  · exact ⟨u, k b u hbe q⟩
theorem Un.mono (u : Un fs ex H H1 h h1) (hs : ∀ b ∈ fs, b ∈ fs') (hx : ∀ b ∈ ex, b ∈ ex') : Un fs' ex' H H1 h h1 :=
  ⟨fun b ob q n hb he => u.keep b ob q n (fun z => hb (hs b z)) fun z => he (hx b z), fun _ _ q n _ he => u.any q n fun z => he (hx _ z), fun b ob q n he => u.free b ob q n fun z => he (hx b z), fun b ob q he => u.there b ob q fun z => he (hx b z), u.tups, u.frzs, u.tbls⟩
end
/-! ### the heap without what is tracked -/
def trk (h : Heap) (H : Hp) : List Addr := (List.range h.objs.size).filter fun a => (H a).isSome
def hidT (h : Heap) (H : Hp) : Heap := PySem.W.hideAll h (trk h H)
theorem hidT_size (h : Heap) (H : Hp) : (hidT h H).objs.size = h.objs.size := PySem.W.hideAll_size _ _
theorem hidT_get {h : Heap} {H : Hp} {b : Addr} {o : Obj} (e : h.get? b = some o) (n : H b = none) : (hidT h H).get? b = some o :=
  PySem.W.hideAll_get _ e fun hm => by
    have q : (H b).isSome = true := (List.mem_filter.mp hm).2
    rw [n] at q; simp at q
theorem of_hidT {h : Heap} {H : Hp} {b : Addr} {o : Obj} (e : (hidT h H).get? b = some o) : h.get? b = some o ∧ H b = none := by
  have e' : h.get? b = some o := PySem.W.of_hideAll (trk h H) e
  refine ⟨e', ?_⟩
  cases q : H b with
  | none => rfl
  | some x =>
    have hm : b ∈ trk h H := List.mem_filter.mpr ⟨List.mem_range.mpr (Heap.lt_size e'), by simp [q]⟩
    have z : (hidT h H).get? b = none := PySem.W.hideAll_none (trk h H) hm
    rw [z] at e; cases e

/-! ### OpenK's ledger, filled with every new object but one -/
def allNews (g h : Heap) (L : Addr) : List (Addr × Obj) := (List.range h.objs.size).filterMap fun a => if a = L ∨ (g.get? a).isSome = true then none else (h.get? a).map fun o => (a, o)
def rest (g h : Heap) (L d : Addr) : List (Addr × Obj) := (allNews g h L).filter fun p => decide (p.1 ≠ d)
end L2
namespace L2
open PySem PySem.Spec PyProof.Rows
/-- the module's facts, over the base: the heap at the law's entry without what is tracked there -/
structure Mod (K : PySem.W.Frag) (mg : Str → Option Value) (base : Heap) : Prop where
  kin : K.In base
  glob : base.Ns mainGlobals mg
  blt : ∃ mb, base.Ns builtinsNs mb ∧ ∀ x : Str, x ≠ "__name__" → mb x = bootBuiltins x
  nolimit : base.NoLimit

/-- the context: a def's body (or a comprehension's block) running. base: fixed through the whole law; s₀, H₀: the entry; outer: the frames whose slots others may change (a def's callers); stack: all frames that run;
   ex: iterators that were made ahead of the entry and are walked here (a comprehension's); fn: the names whose cells were made at the entry (a def: all; a comprehension's block: its own); calm: not within an except suite; pn: pins that every state bears; xe: what is wanted of an exception that leaves the code -/
structure Cx where
  prog : Program
  w : World
  K : PySem.W.Frag
  mg : Str → Option Value
  base : Heap
  A : Around
  N : List Str
  s₀ : Shared
  H₀ : Hp
  env : Env
  outer : List Env
  stack : List Env
  ex : List Addr
  fn : Str → Bool
  calm : Bool
  pn : List (Addr × Obj)
  xe : Value → Shared → Prop
/-- the callers' frames -/
def frs (l : List Env) : List Addr := l.filterMap (·.frame)
abbrev Cx.fs (X : Cx) : List Addr := frs X.outer

def Vis (sc : Scope) (x : Str) : Prop := sc.names.lookup x = some .local ∨ sc.names.lookup x = some .cell ∨ sc.names.lookup x = some .free
def Loc (sc : Scope) (x : Str) : Prop := sc.names.lookup x = some .local ∨ sc.names.lookup x = some .cell
def Look (env : Env) (h : Heap) (m : Str → Option Value) (x : Str) (u : Value) : Prop :=
  (env.kindOf x = some .local ∧ m x = some u) ∨ ((env.kindOf x = some .cell ∨ env.kindOf x = some .free) ∧ ∃ c, env.cells.lookup x = some c ∧ h.IsCell c (some u))

structure Cx.Ok (X : Cx) : Prop where
  mod : Mod X.K X.mg X.base
  kind : X.env.scope.kind = .function
  glob : X.env.globals = mainGlobals
  blt : X.env.builtins = builtinsNs
  above : X.s₀.heap.objs.size ≤ X.env.locals
  inj : ∀ x y c, X.env.cells.lookup x = some c → X.env.cells.lookup y = some c → x = y
  has : ∀ x, (X.env.kindOf x = some .cell ∨ X.env.kindOf x = some .free) → ∃ c, X.env.cells.lookup x = some c
  cab : ∀ x c, X.fn x = true → X.env.cells.lookup x = some c → X.s₀.heap.objs.size ≤ c
  hd : X.calm = true → X.A.handled = none
  frames : X.A.frames = some X.stack
  stk : X.stack = X.outer ∨ (X.stack = X.env :: X.outer ∧ X.env.frame = some X.env.locals)
  exf : ∀ b ∈ X.ex, b ≠ X.env.locals ∧ ∀ x c, X.env.cells.lookup x = some c → c ≠ b
  bs : ∀ b o, X.base.get? b = some o → X.s₀.heap.get? b = some o ∧ X.H₀ b = none
  bsz : X.base.objs.size ≤ X.s₀.heap.objs.size
  noex : ∀ b o, X.base.get? b = some o → b ∉ X.ex
  exfs : ∀ b ∈ X.ex, b ∉ X.fs
  funs : X.s₀.heap.FunFrames X.base X.outer
  frf : ∀ b ∈ X.fs, X.H₀ b = none

structure Inv (X : Cx) (pins : List (Addr × Obj)) (σ : List (Option V)) (H : Hp) (s : Shared) : Prop where
  ok : X.Ok
  os : s.os = X.s₀.os
  bare : AllBare s.gens
  base : Un X.fs X.ex X.H₀ H X.s₀.heap s.heap
  loc : ∃ m, s.heap.Ns X.env.locals m ∧ ∀ (i : Nat) (x : Str) (v : V), X.N[i]? = some x → σ[i]? = some (some v) → Vis X.env.scope x → ∃ u, RelV v u ∧ Look X.env s.heap m x u
  cell : ∀ x c, X.env.cells.lookup x = some c → ∃ v, s.heap.IsCell c v
  free : H X.env.locals = none
  freeC : ∀ x c, X.env.cells.lookup x = some c → H c = none
  pin : ∀ p ∈ X.pn ++ pins, s.heap.get? p.1 = some p.2 ∧ H p.1 = none ∧ p.1 ≠ X.env.locals ∧ p.1 ∉ X.fs ∧ ∀ v, p.2.data ≠ .cell v
  hok : HOk X.prog X.w H s.heap
  len : σ.length = X.N.length

section
variable {X : Cx} {pins : List (Addr × Obj)} {σ : List (Option V)} {H H' : Hp} {s : Shared} {h' : Heap}

theorem Cx.Ok.nofr (ok : X.Ok) {b : Addr} {o : Obj} (e : X.base.get? b = some o) : b ∉ X.fs := fun hb => by
  have := (ok.funs.mem hb).1
  rw [e] at this; cases this
theorem Inv.bs (I : Inv X pins σ H s) : ∀ b o, X.base.get? b = some o → s.heap.get? b = some o ∧ H b = none := fun b o e =>
  ⟨I.base.keep b o (I.ok.bs b o e).1 (I.ok.bs b o e).2 (I.ok.nofr e) (I.ok.noex b o e), I.base.free b o (I.ok.bs b o e).1 (I.ok.bs b o e).2 (I.ok.noex b o e)⟩
theorem Inv.bk (I : Inv X pins σ H s) : ∀ b o, X.base.get? b = some o → s.heap.get? b = some o := fun b o e => (I.bs b o e).1
theorem Inv.mod (I : Inv X pins σ H s) : Mod X.K X.mg X.base := I.ok.mod
theorem Inv.kIn (I : Inv X pins σ H s) : X.K.In s.heap := I.ok.mod.kin.keeps I.bk
theorem Inv.nolimit (I : Inv X pins σ H s) : s.heap.NoLimit := I.ok.mod.nolimit.keeps I.bk
theorem Inv.lt (I : Inv X pins σ H s) : X.env.locals < s.heap.objs.size := let ⟨_, hn, _⟩ := I.loc; hn.lt
theorem Inv.sz (I : Inv X pins σ H s) : X.s₀.heap.objs.size ≤ s.heap.objs.size := Nat.le_trans I.ok.above (Nat.le_of_lt I.lt)
theorem Inv.nofs (I : Inv X pins σ H s) {a : Addr} (h : s.heap.objs.size ≤ a) : a ∉ X.fs := fun hb => by
  obtain ⟨_, o, ho, _⟩ := I.ok.funs.mem hb
  exact absurd (Nat.lt_of_lt_of_le (Heap.lt_size ho) (Nat.le_trans I.sz h)) (Nat.lt_irrefl _)
theorem Inv.cne (I : Inv X pins σ H s) : ∀ x c, X.env.cells.lookup x = some c → c ≠ X.env.locals := fun x c e z => by
  obtain ⟨v, o, ho, hd⟩ := I.cell x c e
  obtain ⟨m, ⟨o', es, ep, ho', hd', _⟩, _⟩ := I.loc
  rw [z, ho'] at ho; cases ho; rw [hd'] at hd; cases hd
theorem Inv.funs (I : Inv X pins σ H s) : s.heap.FunFrames X.base X.outer := by
  have all : ∀ (l : List Env), (∀ b ∈ frs l, b ∈ X.fs) → X.s₀.heap.FunFrames X.base l → s.heap.FunFrames X.base l := by
    intro l
    induction l with
    | nil => intro _ _; trivial
    | cons env r ih =>
      intro hs hl
      obtain ⟨hk, ⟨L, o, hf, hn, ho, hd⟩, hr⟩ := hl
      have hL : L ∈ X.fs := hs L (by unfold frs; rw [List.filterMap_cons, hf]; exact List.mem_cons_self)
      obtain ⟨sl, e⟩ := I.base.slot L o ho (I.ok.frf L hL) hL fun z => I.ok.exfs L z hL
      exact ⟨hk, ⟨L, _, hf, hn, e, hd⟩, ih (fun b hb => hs b (by unfold frs; rw [List.filterMap_cons, hf]; exact List.mem_cons_of_mem _ hb)) hr⟩
  exact all X.outer (fun _ hb => hb) I.ok.funs

/-- the frames that run, for a call -/
theorem Inv.stack (I : Inv X pins σ H s) : s.heap.FunFrames X.base X.stack := by
  rcases I.ok.stk with e | ⟨e, hf⟩
  · rw [e]; exact I.funs
  · rw [e]
    obtain ⟨m, hn, _⟩ := I.loc
    refine .cons (by rw [I.ok.kind]; decide) hf hn ?_ I.funs
    exact Heap.get?_none_of_le (Nat.le_trans I.ok.bsz I.ok.above)
theorem Inv.stkSub (I : Inv X pins σ H s) : ∀ b ∈ frs X.stack, b ∈ X.env.locals :: X.fs := fun b hb => by
  rcases I.ok.stk with e | ⟨e, hf⟩
  · rw [e] at hb; exact List.mem_cons_of_mem _ hb
  · rw [e] at hb
    unfold frs at hb
    rw [List.filterMap_cons, hf] at hb
    exact hb
theorem Inv.stkFree (I : Inv X pins σ H s) : ∀ b ∈ frs X.stack, H b = none := fun b hb => by
  rcases List.mem_cons.mp (I.stkSub b hb) with e | hb
  · rw [e]; exact I.free
  · obtain ⟨_, o, ho, _⟩ := I.ok.funs.mem hb
    exact I.base.free b o ho (I.ok.frf b hb) fun z => I.ok.exfs b z hb

/-- THE STEP: the untracked objects but the frame and the records at ch are kept (the callers' frames up to slots), the frame's map is kept, the new abstract heap is held -/
theorem Inv.step {g' : Array GenState} {t' : Nat} {d' : Drawn} {ch : List Addr} (I : Inv X pins σ H s)
    (hch : ∀ b ∈ ch, (b ∈ X.ex ∨ X.s₀.heap.objs.size ≤ b) ∧ b ≠ X.env.locals ∧ (∀ x c, X.env.cells.lookup x = some c → c ≠ b) ∧ ∀ p ∈ X.pn ++ pins, p.1 ≠ b)
    (keep : ∀ b o, b ≠ X.env.locals → b ∉ X.fs → b ∉ ch → s.heap.get? b = some o → H b = none → h'.get? b = some o)
    (slot : ∀ b o, b ≠ X.env.locals → b ∈ X.fs → b ∉ ch → s.heap.get? b = some o → H b = none → ∃ sl, h'.get? b = some { o with slots := sl }) (free : ∀ b o, b ∉ ch → s.heap.get? b = some o → H b = none → H' b = none)
    (there : ∀ b o, b ∉ ch → s.heap.get? b = some o → ∃ o', h'.get? b = some o')
    (tups : ∀ b xs, H b = some (.tup xs) → H' b = some (.tup xs)) (frzs : ∀ b o u, H b = some (.frz o u) → H' b = some (.frz o u)) (tbls : ∀ b ps, H b = some (.tbl ps) → ∃ more, H' b = some (.tbl (ps ++ more)))
    (ns : ∀ m, s.heap.Ns X.env.locals m → h'.Ns X.env.locals m) (hok : HOk X.prog X.w H' h') (hg : AllBare g') :
    Inv X pins σ H' { s with heap := h', gens := g', drawn := d', toks := t' } := by
  have neL : ∀ b o, X.s₀.heap.get? b = some o → b ≠ X.env.locals := fun b o e => Nat.ne_of_lt (Nat.lt_of_lt_of_le (Heap.lt_size e) I.ok.above)
  have neC : ∀ b o, X.s₀.heap.get? b = some o → b ∉ X.ex → b ∉ ch := fun b o e hx hb => by
    rcases (hch b hb).1 with z | z
    · exact hx z
    · exact absurd (Nat.lt_of_lt_of_le (Heap.lt_size e) z) (Nat.lt_irrefl _)
  have cellK : ∀ x c, X.env.cells.lookup x = some c → ∀ v, s.heap.IsCell c v → h'.IsCell c v := fun x c e v ⟨o, ho, hd⟩ => by
    have nch : c ∉ ch := fun z => (hch c z).2.2.1 x c e rfl
    by_cases hc : c ∈ X.fs
    · obtain ⟨sl, q⟩ := slot c o (I.cne x c e) hc nch ho (I.freeC x c e)
      exact ⟨_, q, hd⟩
    · exact ⟨o, keep c o (I.cne x c e) hc nch ho (I.freeC x c e), hd⟩
  refine ⟨I.ok, I.os, hg, ⟨fun b o e n hb hx => ?_, fun b o e n hb hx => ?_, fun b o e n hx => ?_, fun b o e hx => ?_, fun b xs e => tups b xs (I.base.tups b xs e), fun b o xs e => frzs b o xs (I.base.frzs b o xs e), fun b ps e => ?_⟩, ?_, fun x c e => ?_, ?_, fun x c e => ?_, fun p hp => ?_, hok, I.len⟩
  · exact keep b o (neL b o e) hb (neC b o e hx) (I.base.keep b o e n hb hx) (I.base.free b o e n hx)
  · obtain ⟨sl, e1⟩ := I.base.slot b o e n hb hx
    obtain ⟨sl', e2⟩ := slot b _ (neL b o e) hb (neC b o e hx) e1 (I.base.free b o e n hx)
    exact ⟨sl', e2⟩
  · obtain ⟨o', e1⟩ := I.base.there b o e hx
    exact free b o' (neC b o e hx) e1 (I.base.free b o e n hx)
  · obtain ⟨o', e1⟩ := I.base.there b o e hx
    exact there b o' (neC b o e hx) e1
  · obtain ⟨m1, e1⟩ := I.base.tbls b ps e
    obtain ⟨m2, e2⟩ := tbls b _ e1
    exact ⟨m1 ++ m2, by rw [e2, Array.append_assoc]⟩
  · obtain ⟨m, hn, hl⟩ := I.loc
    refine ⟨m, ns m hn, fun i x v e1 e2 e3 => ?_⟩
    obtain ⟨u, r, l⟩ := hl i x v e1 e2 e3
    refine ⟨u, r, ?_⟩
    rcases l with l | ⟨k, c, e, z⟩
    · exact .inl l
    · exact .inr ⟨k, c, e, cellK x c e _ z⟩
  · obtain ⟨v, z⟩ := I.cell x c e
    exact ⟨v, cellK x c e v z⟩
  · obtain ⟨m, ⟨o, _, _, ho, _⟩, _⟩ := I.loc
    exact free _ o (fun z => (hch _ z).2.1 rfl) ho I.free
  · obtain ⟨v, o, ho, hd⟩ := I.cell x c e
    exact free c o (fun z => (hch c z).2.2.1 x c e rfl) ho (I.freeC x c e)
  · obtain ⟨e, n, ne, nf, d⟩ := I.pin p hp
    have nch : p.1 ∉ ch := fun z => (hch p.1 z).2.2.2 p hp rfl
    exact ⟨keep p.1 p.2 ne nf nch e n, free p.1 p.2 nch e n, ne, nf, d⟩
/-- .. where the frame's own object is kept too -/
theorem Inv.un {t' : Nat} (I : Inv X pins σ H s) (u : Un X.fs [] H H' s.heap h') (hok : HOk X.prog X.w H' h') : Inv X pins σ H' { s with heap := h', toks := t' } := by
  obtain ⟨m, ⟨o, es, ep, ho, r⟩, _⟩ := id I.loc
  obtain ⟨sl, hL⟩ := u.any ho I.free (by simp)
  exact I.step (g' := s.gens) (d' := s.drawn) (ch := []) (fun _ z => nomatch z) (fun b o _ hb _ e n => u.keep b o e n hb (by simp)) (fun b o _ hb _ e n => u.slot b o e n hb (by simp)) (fun b o _ e n => u.free b o e n (by simp)) (fun b o _ e => u.there b o e (by simp)) u.tups u.frzs u.tbls (fun m' hm => by
    obtain ⟨o', es', ep', ho', r'⟩ := hm
    rw [ho] at ho'; cases ho'
    exact ⟨_, es', ep', hL, r'⟩) hok I.bare
/-- behind a call (or a comprehension's block): the slots of this frame may have changed too, the records at ch may have turned -/
theorem Inv.call {g' : Array GenState} {t' : Nat} {d' : Drawn} {ch : List Addr} (I : Inv X pins σ H s) (u : Un (frs X.stack) ch H H' s.heap h') (hok : HOk X.prog X.w H' h') (hg : AllBare g')
    (hch : ∀ b ∈ ch, (b ∈ X.ex ∨ X.s₀.heap.objs.size ≤ b) ∧ b ≠ X.env.locals ∧ (∀ x c, X.env.cells.lookup x = some c → c ≠ b) ∧ ∀ p ∈ X.pn ++ pins, p.1 ≠ b) :
    Inv X pins σ H' { s with heap := h', gens := g', drawn := d', toks := t' } := by
  obtain ⟨m, ⟨o, es, ep, ho, r⟩, _⟩ := id I.loc
  obtain ⟨sl, hL⟩ := u.any ho I.free fun z => (hch _ z).2.1 rfl
  exact I.step (ch := ch) hch (fun b o hL hb hc e n => u.keep b o e n (fun z => (List.mem_cons.mp (I.stkSub b z)).elim hL hb) hc) (fun b o _ _ hc e n => u.any e n hc) (fun b o hc e n => u.free b o e n hc) (fun b o hc e => u.there b o e hc) u.tups u.frzs u.tbls (fun m' hm => by
    obtain ⟨o', es', ep', ho', r'⟩ := hm
    rw [ho] at ho'; cases ho'
    exact ⟨_, es', ep', hL, r'⟩) hok hg
/-- an untracked record of ours (an iterator) has turned -/
theorem Inv.turned {t' : Nat} {it : Addr} (I : Inv X pins σ H s) (k : ∀ b o, b ≠ it → s.heap.get? b = some o → h'.get? b = some o) (hn : H it = none) (hL : it ≠ X.env.locals)
    (h1 : it ∈ X.ex ∨ X.s₀.heap.objs.size ≤ it) (h2 : ∀ x c, X.env.cells.lookup x = some c → c ≠ it) (h3 : ∀ p ∈ X.pn ++ pins, p.1 ≠ it) : Inv X pins σ H { s with heap := h', toks := t' } := by
  have nit : ∀ b u, H b = some u → b ≠ it := fun b u e z => by rw [z, hn] at e; cases e
  refine I.step (g' := s.gens) (d' := s.drawn) (ch := [it]) (fun b hb => ?_) (fun b o _ _ hc e _ => k b o (fun z => hc (by simp [z])) e) (fun b o _ _ hc e _ => ⟨o.slots, k b o (fun z => hc (by simp [z])) e⟩) (fun _ _ _ _ n => n)
    (fun b o hc e => ⟨o, k b o (fun z => hc (by simp [z])) e⟩) (fun _ _ e => e) (fun _ _ _ e => e) (fun b ps e => ⟨#[], by rw [e]; simp⟩) (fun m hm => ?_) (fun b u e => ?_) I.bare
  · have e : b = it := by simpa using hb
    subst e
    exact ⟨h1, hL, h2, h3⟩
  · obtain ⟨o, es, ep, ho, r⟩ := hm
    exact ⟨o, es, ep, k _ o (Ne.symm hL) ho, r⟩
  · refine (I.hok b u e).stay (fun c v hc q => k c v ?_ q) (fun _ q => q) fun _ _ q => q
    rcases hc with z | z
    · rw [z]; exact nit b u e
    · exact nit c _ z
theorem Inv.tok (I : Inv X pins σ H s) (t : Nat) : Inv X pins σ H { s with toks := t } := I.un (h' := s.heap) (t' := t) Un.refl I.hok
/-- all objects kept -/
theorem Inv.kept {t' : Nat} (I : Inv X pins σ H s) (k : ∀ b u, s.heap.get? b = some u → h'.get? b = some u) : Inv X pins σ H { s with heap := h', toks := t' } := I.un (Un.kept k) (I.hok.kept k)
/-- a new object laid and tracked -/
theorem Inv.laid {a : Addr} {o : HO} {t' : Nat} (I : Inv X pins σ H s) (k : ∀ b u, s.heap.get? b = some u → h'.get? b = some u) (hp : s.heap.objs.size ≤ a) (new : ObjOk X.prog X.w (upd H a o) h' a o) :
    Inv X pins σ (upd H a o) { s with heap := h', toks := t' } := I.un (Un.laid k hp (I.hok.fresh hp)) (I.hok.laid k hp new)
/-- an object written -/
theorem Inv.write {x e : Addr} {o : HO} {t' : Nat} (I : Inv X pins σ H s) (mu : Mut (H x)) (he : e = x ∨ H e = some (.own x)) (k : ∀ b u, b ≠ e → s.heap.get? b = some u → h'.get? b = some u) (heo : ∃ u, h'.get? e = some u)
    (new : ObjOk X.prog X.w (upd H x o) h' x o) : Inv X pins σ (upd H x o) { s with heap := h', toks := t' } := I.un (Un.write mu he k heo) (I.hok.write mu he k heo new)
/-- forgetting slots, pins -/
theorem Inv.weak {σ' : List (Option V)} (I : Inv X pins σ H s) (hl : σ'.length = σ.length) (w : ∀ (i : Nat) v, σ'[i]? = some (some v) → σ[i]? = some (some v)) : Inv X pins σ' H s :=
  ⟨I.ok, I.os, I.bare, I.base, let ⟨m, hn, hl'⟩ := I.loc; ⟨m, hn, fun i x v e1 e2 e3 => hl' i x v e1 (w i v e2) e3⟩, I.cell, I.free, I.freeC, I.pin, I.hok, hl.trans I.len⟩
theorem Inv.pins_of {pins' : List (Addr × Obj)} (I : Inv X pins σ H s) (h : ∀ p ∈ pins', s.heap.get? p.1 = some p.2 ∧ H p.1 = none ∧ p.1 ≠ X.env.locals ∧ p.1 ∉ X.fs ∧ ∀ v, p.2.data ≠ .cell v) : Inv X pins' σ H s :=
  ⟨I.ok, I.os, I.bare, I.base, I.loc, I.cell, I.free, I.freeC, fun p hp => (List.mem_append.mp hp).elim (fun z => I.pin p (List.mem_append_left _ z)) (h p), I.hok, I.len⟩

theorem nodup_ix {N : List Str} (hN : N.Nodup) {i j : Nat} {x : Str} (a : N[i]? = some x) (b : N[j]? = some x) : i = j := by
  obtain ⟨h1, e1⟩ := List.getElem?_eq_some_iff.mp a
  obtain ⟨h2, e2⟩ := List.getElem?_eq_some_iff.mp b
  exact (List.getElem_inj hN).mp (e1.trans e2.symm)

/-- a name is stored; what changed -/
theorem store_ok2 {M : Model} {A : Around} {E : Value → Shared → Prop} {i : Nat} {x : Str} {v : V} {u : Value} {Q : Unit → Shared → Prop} (I : Inv X pins σ H s) (hN : X.N.Nodup) (hi : X.N[i]? = some x) (hx : Loc X.env.scope x) (r : RelV v u)
    (h : ∀ s', Inv X pins (σ.set i (some v)) H s' → (∃ a, Heap.SameBut a s.heap s'.heap ∧ (a = X.env.locals ∨ X.env.cells.lookup x = some a)) → Q () s') (hf : X.fn x = true ∨ X.env.scope.names.lookup x = some .local := by first | exact .inl rfl | exact .inr rfl | assumption) : wpAny M A (storeName X.env x u) Q E s := by
  obtain ⟨m, hn, hl⟩ := id I.loc
  have hcls : (X.env.scope.kind == .class || (X.env.scope.kind == .module && X.env.locals != X.env.globals)) = false := by rw [I.ok.kind]; rfl
  have hiσ : i < σ.length := by rw [I.len]; exact (List.getElem?_eq_some_iff.mp hi).1
  have cne := I.cne
  have tracked : ∀ {a : Addr} {h' : Heap}, (∃ o, s.heap.get? a = some o ∧ H a = none) → Heap.SameBut a s.heap h' → HOk X.prog X.w H h' := fun {a h'} ha hs b ob e => by
    obtain ⟨_, _, hfree⟩ := ha
    refine (I.hok b ob e).stay (fun c w' hc q => (hs.2 c ?_).trans q) (fun _ q => q) fun _ _ q => q
    rintro rfl
    rcases hc with rfl | hc
    · rw [hfree] at e; cases e
    · rw [hfree] at hc; cases hc
  rcases hx with hk | hk
  · refine wpAny_storeName_local hk hn (fun h' hn' hs => ?_) hcls
    obtain ⟨oL, _, _, hoL, _⟩ := id hn
    refine h _ ⟨I.ok, I.os, I.bare, ⟨fun b o e n hb hx => ?_, fun b o e n hb hx => ?_, I.base.free, fun b o e hx => ?_, I.base.tups, I.base.frzs, I.base.tbls⟩, ⟨_, hn', fun j y v' e1 e2 e3 => ?_⟩, fun y c e => ?_, I.free, I.freeC, fun p hp => ?_, tracked ⟨oL, hoL, I.free⟩ hs, by simpa using I.len⟩ ⟨_, hs, .inl rfl⟩
    · exact (hs.2 b (Nat.ne_of_lt (Nat.lt_of_lt_of_le (Heap.lt_size e) I.ok.above))).trans (I.base.keep b o e n hb hx)
    · obtain ⟨sl, e1⟩ := I.base.slot b o e n hb hx
      exact ⟨sl, (hs.2 b (Nat.ne_of_lt (Nat.lt_of_lt_of_le (Heap.lt_size e) I.ok.above))).trans e1⟩
    · obtain ⟨o', e1⟩ := I.base.there b o e hx
      exact ⟨o', (hs.2 b (Nat.ne_of_lt (Nat.lt_of_lt_of_le (Heap.lt_size e) I.ok.above))).trans e1⟩
    · by_cases hj : j = i
      · subst hj
        rw [hi] at e1; cases e1
        rw [List.getElem?_set_self hiσ] at e2
        cases e2
        exact ⟨u, r, .inl ⟨hk, by simp⟩⟩
      · rw [List.getElem?_set_ne (Ne.symm hj)] at e2
        obtain ⟨u', r', q⟩ := hl j y v' e1 e2 e3
        refine ⟨u', r', ?_⟩
        rcases q with ⟨k, e⟩ | ⟨k, c, e, z⟩
        · refine .inl ⟨k, ?_⟩
          have : y ≠ x := fun e => hj (nodup_ix hN e1 (e ▸ hi))
          simp [this, e]
        · exact .inr ⟨k, c, e, z.sameBut hs (cne y c e)⟩
    · obtain ⟨w', z⟩ := I.cell y c e
      exact ⟨w', z.sameBut hs (cne y c e)⟩
    · obtain ⟨e, n, ne, nf, d⟩ := I.pin p hp
      exact ⟨(hs.2 p.1 ne).trans e, n, ne, nf, d⟩
  · have hfn : X.fn x = true := by
      rcases hf with z | z
      · exact z
      · rw [z] at hk; cases hk
    obtain ⟨c, hc⟩ := I.ok.has x (.inl hk)
    obtain ⟨w', z⟩ := I.cell x c hc
    refine wpAny_storeName_cell I.ok.kind hk hc z (fun h' hc' hs => ?_)
    obtain ⟨oc, hoc, hocd⟩ := id z
    refine h { s with heap := h' } ⟨I.ok, I.os, I.bare, ⟨fun b o e n hb hx => ?_, fun b o e n hb hx => ?_, I.base.free, fun b o e hx => ?_, I.base.tups, I.base.frzs, I.base.tbls⟩, ⟨m, hn.sameBut hs (Ne.symm (cne x c hc)), fun j y v' e1 e2 e3 => ?_⟩, fun y c' e => ?_, I.free, I.freeC, fun p hp => ?_, tracked ⟨oc, hoc, I.freeC x c hc⟩ hs, by simpa using I.len⟩ ⟨c, hs, .inr hc⟩
    · exact (hs.2 b (Nat.ne_of_lt (Nat.lt_of_lt_of_le (Heap.lt_size e) (I.ok.cab x c hfn hc)))).trans (I.base.keep b o e n hb hx)
    · obtain ⟨sl, e1⟩ := I.base.slot b o e n hb hx
      exact ⟨sl, (hs.2 b (Nat.ne_of_lt (Nat.lt_of_lt_of_le (Heap.lt_size e) (I.ok.cab x c hfn hc)))).trans e1⟩
    · obtain ⟨o', e1⟩ := I.base.there b o e hx
      exact ⟨o', (hs.2 b (Nat.ne_of_lt (Nat.lt_of_lt_of_le (Heap.lt_size e) (I.ok.cab x c hfn hc)))).trans e1⟩
    · by_cases hj : j = i
      · subst hj
        rw [hi] at e1; cases e1
        rw [List.getElem?_set_self hiσ] at e2
        cases e2
        exact ⟨u, r, .inr ⟨.inl hk, c, hc, hc'⟩⟩
      · rw [List.getElem?_set_ne (Ne.symm hj)] at e2
        obtain ⟨u', r', q⟩ := hl j y v' e1 e2 e3
        refine ⟨u', r', ?_⟩
        rcases q with q | ⟨k, c', e, z'⟩
        · exact .inl q
        · refine .inr ⟨k, c', e, z'.sameBut hs ?_⟩
          rintro rfl
          exact hj (nodup_ix hN e1 (I.ok.inj _ _ _ e hc ▸ hi))
    · by_cases hcc : c' = c
      · subst hcc; exact ⟨_, hc'⟩
      · obtain ⟨w2, z2⟩ := I.cell y c' e
        exact ⟨w2, z2.sameBut hs hcc⟩
    · obtain ⟨e, n, ne, nf, d⟩ := I.pin p hp
      refine ⟨(hs.2 p.1 ?_).trans e, n, ne, nf, d⟩
      intro q
      rw [q, hoc] at e
      have q' : oc = p.2 := Option.some.inj e
      exact d w' (by rw [← q']; exact hocd)
theorem store_ok {M : Model} {A : Around} {E : Value → Shared → Prop} {i : Nat} {x : Str} {v : V} {u : Value} {Q : Unit → Shared → Prop} (I : Inv X pins σ H s) (hN : X.N.Nodup) (hi : X.N[i]? = some x) (hx : Loc X.env.scope x) (r : RelV v u)
    (h : ∀ s', Inv X pins (σ.set i (some v)) H s' → Q () s') (hf : X.fn x = true ∨ X.env.scope.names.lookup x = some .local := by first | exact .inl rfl | exact .inr rfl | assumption) : wpAny M A (storeName X.env x u) Q E s :=
  store_ok2 I hN hi hx r (fun s' I' _ => h s' I') hf
/-- behind a call or a block, the state as it is -/
theorem Inv.call' {s' : Shared} {ch : List Addr} (I : Inv X pins σ H s) (ho : s'.os = s.os) (u : Un (frs X.stack) ch H H' s.heap s'.heap) (hok : HOk X.prog X.w H' s'.heap) (hg : AllBare s'.gens)
    (hch : ∀ b ∈ ch, (b ∈ X.ex ∨ X.s₀.heap.objs.size ≤ b) ∧ b ≠ X.env.locals ∧ (∀ x c, X.env.cells.lookup x = some c → c ≠ b) ∧ ∀ p ∈ X.pn ++ pins, p.1 ≠ b) : Inv X pins σ H' s' := by
  obtain ⟨h', g', d', t', o'⟩ := s'
  have e : o' = s.os := ho
  subst e
  exact I.call (g' := g') (t' := t') (d' := d') u hok hg hch
end
/-! ### the judgements -/
/-- an exception: its class, its own dict's address (where it has one), the abstract heap behind it -/
abbrev XK := Value → Option Addr → Hp → Prop
abbrev St := List (Option V)
abbrev VK := V → Hp → Prop
/-- an expression's reading; a test's; an argument list's -/
abbrev TE := St → Hp → VK → Prop
abbrev TT := St → Hp → (Bool → Hp → Prop) → Prop
abbrev TA := St → Hp → (List V → Hp → Prop) → Prop
/-- what is wanted behind a statement -/
structure Ends where
  nx : St → Hp → Prop
  rt : VK
  bk : St → Hp → Prop := fun _ _ => False
  ct : St → Hp → Prop := fun _ _ => False
abbrev TS := Ends → St → Hp → Prop

def EP (X : Cx) (pins : List (Addr × Obj)) (σ : St) (Q : VK) (u : Value) (s' : Shared) : Prop := ∃ v H', Inv X pins σ H' s' ∧ RelV v u ∧ Q v H'
def TP (X : Cx) (pins : List (Addr × Obj)) (σ : St) (Q : Bool → Hp → Prop) (b : Bool) (s' : Shared) : Prop := ∃ H', Inv X pins σ H' s' ∧ Q b H'
def AP (X : Cx) (pins : List (Addr × Obj)) (σ : St) (Q : List V → Hp → Prop) (us : List Value) (s' : Shared) : Prop := ∃ vs H', Inv X pins σ H' s' ∧ Vals vs us ∧ Q vs H'
def SP (X : Cx) (pins : List (Addr × Obj)) (D : Ends) (f : Flow) (s' : Shared) : Prop :=
  match f with
  | .next => ∃ σ' H', Inv X pins σ' H' s' ∧ D.nx σ' H'
  | .brk => ∃ σ' H', Inv X pins σ' H' s' ∧ D.bk σ' H'
  | .cont => ∃ σ' H', Inv X pins σ' H' s' ∧ D.ct σ' H'
  | .ret u => ∃ v σ' H', Inv X pins σ' H' s' ∧ RelV v u ∧ D.rt v H'

def PE (X : Cx) (e : Expr) (t : TE) : Prop :=
  ∀ (pins : List (Addr × Obj)) (s : Shared) (σ : St) (H : Hp) (Q : VK), Inv X pins σ H s → t σ H Q → wpAny (model X.prog X.w) X.A (eval e X.env) (EP X pins σ Q) X.xe s
def PT (X : Cx) (e : Expr) (t : TT) : Prop :=
  ∀ (pins : List (Addr × Obj)) (s : Shared) (σ : St) (H : Hp) (Q : Bool → Hp → Prop), Inv X pins σ H s → t σ H Q → wpAny (model X.prog X.w) X.A (isTrue e X.env (eval e X.env)) (TP X pins σ Q) X.xe s
/-- a test whatever its 'whole' is (and, or) -/
def PW (X : Cx) (e : Expr) (t : TT) : Prop :=
  ∀ (whole : Sem Value) (pins : List (Addr × Obj)) (s : Shared) (σ : St) (H : Hp) (Q : Bool → Hp → Prop), Inv X pins σ H s → t σ H Q → wpAny (model X.prog X.w) X.A (isTrue e X.env whole) (TP X pins σ Q) X.xe s
theorem PW.pt {X : Cx} {e : Expr} {t : TT} (h : PW X e t) : PT X e t := h _
/-- an argument list (no star), from the left -/
def PA (X : Cx) (es : List Expr) (t : TA) : Prop :=
  ∀ (pos : Pos) (pins : List (Addr × Obj)) (s : Shared) (σ : St) (H : Hp) (Q : List V → Hp → Prop), Inv X pins σ H s → t σ H Q → wpAny (model X.prog X.w) X.A (spliced (backTo pos (starEach es X.env))) (AP X pins σ Q) X.xe s
def PS (X : Cx) (st : Stmt) (t : TS) : Prop :=
  ∀ (pins : List (Addr × Obj)) (s : Shared) (σ : St) (H : Hp) (D : Ends), Inv X pins σ H s → t D σ H → wpAny (model X.prog X.w) X.A (exec st X.env) (SP X pins D) X.xe s
def PSs (X : Cx) (st : List Stmt) (t : TS) : Prop :=
  ∀ (pins : List (Addr × Obj)) (s : Shared) (σ : St) (H : Hp) (D : Ends), Inv X pins σ H s → t D σ H → wpAny (model X.prog X.w) X.A (execs st X.env) (SP X pins D) X.xe s
/-- weaken the end -/
theorem thn {α : Type} {t : Sem α} {Q Q' : α → Shared → Prop} {M : Model} {A : Around} {E : Value → Shared → Prop} {s : Shared} (h : wpAny M A t Q E s) (hQ : ∀ a s, Q a s → Q' a s) : wpAny M A t Q' E s := wpAny_mono h hQ fun _ _ x => x
end L2
namespace L2
open PySem PySem.Spec PyProof.Rows
section
variable {X : Cx}

/-! ### names and constants -/
def tVar (i : Nat) : TE := fun σ H Q => ∃ v, σ[i]? = some (some v) ∧ Q v H
def tC (v : V) : TE := fun _ H Q => Q v H
theorem pe_var {i : Nat} {x : Str} {pos : Pos} (hN : X.N[i]? = some x) (hv : Vis X.env.scope x) (hd : (x == ("__debug__" : Str)) = false := by decide) (hcd : (x == ("__classdict__" : Str)) = false := by decide) : PE X (.Name x pos) (tVar i) := by
  intro pins s σ H Q I h
  obtain ⟨v, e, h⟩ := h
  obtain ⟨m, hn, hl⟩ := I.loc
  obtain ⟨u, r, l⟩ := hl i x v hN e hv
  have fin : EP X pins σ Q u s := ⟨v, H, I, r, h⟩
  rcases l with ⟨hk, hm⟩ | ⟨hk, c, hc, hcell⟩
  · exact wpAny_Name (wpAny_loadName_local I.ok.kind hk hn hm fin) hd
  · rcases hk with hk | hk
    · exact wpAny_Name (wpAny_loadName_cell I.ok.kind hk hc hcell fin) hd
    · exact wpAny_Name (wpAny_loadName_free I.ok.kind hk hc hcell fin hcd) hd
theorem pe_int {i j pos} : PE X (.Constant (.int i) j pos) (tC (.int i)) := fun _ _ _ H _ I h => wpAny_Constant_int ⟨.int i, H, I.tok _, ⟨_, rfl⟩, h⟩
theorem pe_bl {b j pos} : PE X (.Constant (.bool b) j pos) (tC (.bl b)) := fun _ _ _ H _ I h => Constant_bool ⟨.bl b, H, I, rfl, h⟩
theorem pe_non {j pos} : PE X (.Constant .none j pos) (tC .non) := fun _ _ _ H _ I h => Constant_none ⟨.non, H, I, rfl, h⟩
/-- a global name of the def -/
def Gl (X : Cx) (x : Str) : Prop := X.env.kindOf x = some .globalImplicit
theorem ld_glob {E : Value → Shared → Prop} {pins : List (Addr × Obj)} {s : Shared} {σ : St} {H : Hp} {x : Str} {u : Value} {pos : Pos} {Q : Value → Shared → Prop} (I : Inv X pins σ H s) (hg : Gl X x) (hm : X.mg x = some u) (h : Q u s)
    (hd : (x == ("__debug__" : Str)) = false := by decide) : wpAny (model X.prog X.w) X.A (eval (.Name x pos) X.env) Q E s :=
  Calls.Name_function_global I.ok.kind hg (Calls.loadGlobal_global (by rw [I.ok.glob]; exact I.mod.glob.keeps I.bk) hm h) hd
theorem ld_blt {E : Value → Shared → Prop} {pins : List (Addr × Obj)} {s : Shared} {σ : St} {H : Hp} {x : Str} {u : Value} {pos : Pos} {Q : Value → Shared → Prop} (I : Inv X pins σ H s) (hg : Gl X x) (hm : X.mg x = none) (hv : bootBuiltins x = some u) (h : Q u s)
    (hn : x ≠ "__name__" := by decide) (hd : (x == ("__debug__" : Str)) = false := by decide) : wpAny (model X.prog X.w) X.A (eval (.Name x pos) X.env) Q E s := by
  obtain ⟨mb, h1, h2⟩ := I.mod.blt
  exact Calls.Name_function_global I.ok.kind hg (Calls.loadGlobal_builtin (by rw [I.ok.glob]; exact I.mod.glob.keeps I.bk) hm (by rw [I.ok.blt]; exact h1.keeps I.bk) ((h2 x hn).trans hv) h) hd
/-- a module's constant, a class, a function, as a value -/
theorem pe_glob {x : Str} {v : V} {u : Value} {pos : Pos} (hg : Gl X x) (hm : X.mg x = some u) (r : RelV v u) (hd : (x == ("__debug__" : Str)) = false := by decide) : PE X (.Name x pos) (tC v) :=
  fun _ _ _ H _ I h => ld_glob I hg hm ⟨v, H, I, r, h⟩ hd
variable {a b : Expr} {ta tb : TE} {pos : Pos}
/-! ### comparisons -/
def PC (X : Cx) (op : CmpOp) (a b : Expr) (t : TE) : Prop :=
  ∀ (pins : List (Addr × Obj)) (s : Shared) (σ : St) (H : Hp) (Q : VK), Inv X pins σ H s → t σ H Q →
    wpAny (model X.prog X.w) X.A (eval a X.env) (fun v s₁ => wpAny (model X.prog X.w) X.A (eval b X.env) (fun u s₂ => wpAny (model X.prog X.w) X.A (compareOp op v u) (EP X pins σ Q) X.xe s₂) X.xe s₁) X.xe s
theorem nobehind (b : Expr) {op : CmpOp} (h : op ≠ .In) (h2 : op ≠ .NotIn) : behindInMarks op b = false := by
  have e1 : (op == CmpOp.In) = false := by cases op <;> first | rfl | exact absurd rfl h
  have e2 : (op == CmpOp.NotIn) = false := by cases op <;> first | rfl | exact absurd rfl h2
  cases b <;> simp [behindInMarks, e1, e2]
/-- is None -/
def tIsN (ta : TE) : TE := fun σ H Q => ta σ H fun x H1 => Q (.bl (decide (x = .non))) H1
def tNotN (ta : TE) : TE := fun σ H Q => ta σ H fun x H1 => Q (.bl (!decide (x = .non))) H1
theorem RelV.none_iff {x : V} {v : Value} (r : RelV x v) : (v == Value.none) = decide (x = .non) := by
  cases x with
  | non => cases r; rfl
  | bl _ => cases r; rfl
  | int _ => obtain ⟨t, rfl⟩ := r; rfl
  | str _ => obtain ⟨t, rfl⟩ := r; rfl
  | byt _ => obtain ⟨t, rfl⟩ := r; rfl
  | flt _ => obtain ⟨t, rfl⟩ := r; rfl
  | ref _ => cases r; rfl
  | ty _ => cases r; rfl
theorem pc_isN {j pos'} (ha : PE X a ta) : PC X .Is a (.Constant .none j pos') (tIsN ta) := by
  intro pins s σ H Q I h
  refine thn (ha pins s σ H _ I h) fun v s1 ⟨x, H1, I1, r1, q1⟩ => ?_
  exact Constant_none (is_none_gen ⟨.bl _, H1, I1, by rw [r1.none_iff]; rfl, q1⟩)
theorem pc_notN {j pos'} (ha : PE X a ta) : PC X .IsNot a (.Constant .none j pos') (tNotN ta) := by
  intro pins s σ H Q I h
  refine thn (ha pins s σ H _ I h) fun v s1 ⟨x, H1, I1, r1, q1⟩ => ?_
  exact Constant_none (isnot_none_gen ⟨.bl _, H1, I1, by rw [r1.none_iff]; rfl, q1⟩)
/-- a comparison as a value, as a test -/
def tB (t : TE) : TT := fun σ H Q => t σ H fun x H1 => ∃ c, x = .bl c ∧ Q c H1
theorem pe_cmp {op : CmpOp} {t : TE} (h : PC X op a b t) (h1 : behindInMarks op b = false := by first | exact nobehind _ (by decide) (by decide) | rfl) : PE X (.Compare a [op] [b] pos) t := fun pins s σ H Q I hw => wpAny_Compare1 (h pins s σ H Q I hw) h1
theorem pt_cmp {op : CmpOp} {t : TE} (h : PC X op a b t) (h1 : behindInMarks op b = false := by first | exact nobehind _ (by decide) (by decide) | rfl) : PT X (.Compare a [op] [b] pos) (tB t) := by
  intro pins s σ H Q I hw
  refine wpAny_isTrue_Compare1 (thn (h pins s σ H _ I hw) fun v s1 h1 => thn h1 fun u s2 h2 => thn h2 fun c s3 ⟨x, H1, I1, r1, q1⟩ => ?_) h1
  obtain ⟨d, rfl, q⟩ := q1
  cases r1
  exact wpAny_truthy_bool ⟨H1, I1, q⟩
/-- an expression whose value is a bool, as a test -/
theorem pt_val {e : Expr} {t : TE} (h : PE X e t) (he : ∀ whole, isTrue e X.env whole = (do let v ← whole; standAt e.pos; holding [v] (truthy v)) := by intro _; rfl) : PT X e (tB t) := by
  intro pins s σ H Q I hw
  refine isTrue_plain (thn (h pins s σ H _ I hw) fun v s1 ⟨x, H1, I1, r1, q1⟩ => ?_) (he _)
  obtain ⟨d, rfl, q⟩ := q1
  cases r1
  exact wpAny_truthy_bool ⟨H1, I1, q⟩

variable {tA tB' : TT} {rest : List Expr}
def tAnd (t u : TT) : TT := fun σ H Q => t σ H fun c H1 => if c = true then u σ H1 Q else Q false H1
def tOr (t u : TT) : TT := fun σ H Q => t σ H fun c H1 => if c = true then Q true H1 else u σ H1 Q
def tNot (t : TT) : TT := fun σ H Q => t σ H fun c H1 => Q (!c) H1
theorem pw_and1 (ha : PT X a tA) : PW X (.BoolOp .And [a] pos) tA := by
  intro wh pins s σ H Q I h
  refine isTrue_and (thn (ha pins s σ H Q I h) fun c s1 e => ?_)
  cases c with
  | true => exact isTrue_and_nil e
  | false => exact e
theorem pw_or1 (ha : PT X a tA) : PW X (.BoolOp .Or [a] pos) tA := by
  intro wh pins s σ H Q I h
  refine isTrue_or (thn (ha pins s σ H Q I h) fun c s1 e => ?_)
  cases c with
  | false => exact isTrue_or_nil e
  | true => exact e
theorem pw_and (ha : PT X a tA) (hb : PW X (.BoolOp .And (b :: rest) pos) tB') : PW X (.BoolOp .And (a :: b :: rest) pos) (tAnd tA tB') := by
  intro wh pins s σ H Q I h
  refine isTrue_and (thn (ha pins s σ H _ I h) fun c s1 ⟨H1, I1, q1⟩ => ?_)
  cases c with
  | true => exact hb wh pins s1 σ H1 Q I1 q1
  | false => exact ⟨H1, I1, q1⟩
theorem pw_or (ha : PT X a tA) (hb : PW X (.BoolOp .Or (b :: rest) pos) tB') : PW X (.BoolOp .Or (a :: b :: rest) pos) (tOr tA tB') := by
  intro wh pins s σ H Q I h
  refine isTrue_or (thn (ha pins s σ H _ I h) fun c s1 ⟨H1, I1, q1⟩ => ?_)
  cases c with
  | true => exact ⟨H1, I1, q1⟩
  | false => exact hb wh pins s1 σ H1 Q I1 q1
theorem pt_not (ha : PT X a tA) : PT X (.UnaryOp .Not a pos) (tNot tA) := by
  intro pins s σ H Q I h
  exact isTrue_not (ha pins s σ H (fun c H1 => Q (!c) H1) I h)
/-- .. as values (bools) -/
def tAndV (ta tb : TE) : TE := fun σ H Q => ta σ H fun x H1 => ∃ c, x = .bl c ∧ if c = true then tb σ H1 Q else Q (.bl false) H1
def tOrV (ta tb : TE) : TE := fun σ H Q => ta σ H fun x H1 => ∃ c, x = .bl c ∧ if c = true then Q (.bl true) H1 else tb σ H1 Q
def tNotV (ta : TE) : TE := fun σ H Q => ta σ H fun x H1 => ∃ c, x = .bl c ∧ Q (.bl (!c)) H1
theorem pe_one {op} {t : TE} (h : PE X a t) : PE X (.BoolOp op [a] pos) t := fun pins s σ H Q I hw => BoolOp_one (h pins s σ H Q I hw)
theorem pe_and (ha : PE X a ta) (hb : PE X (.BoolOp .And (b :: rest) pos) tb) : PE X (.BoolOp .And (a :: b :: rest) pos) (tAndV ta tb) := by
  intro pins s σ H Q I h
  refine BoolOp_and (thn (ha pins s σ H _ I h) fun v s1 ⟨x, H1, I1, r1, q1⟩ => ?_)
  obtain ⟨c, rfl, q1⟩ := q1
  cases r1
  refine wpAny_truthy_bool ?_
  cases c with
  | true => exact hb pins s1 σ H1 Q I1 q1
  | false => exact ⟨.bl false, H1, I1, rfl, q1⟩
theorem pe_or (ha : PE X a ta) (hb : PE X (.BoolOp .Or (b :: rest) pos) tb) : PE X (.BoolOp .Or (a :: b :: rest) pos) (tOrV ta tb) := by
  intro pins s σ H Q I h
  refine BoolOp_or (thn (ha pins s σ H _ I h) fun v s1 ⟨x, H1, I1, r1, q1⟩ => ?_)
  obtain ⟨c, rfl, q1⟩ := q1
  cases r1
  refine wpAny_truthy_bool ?_
  cases c with
  | false => exact hb pins s1 σ H1 Q I1 q1
  | true => exact ⟨.bl true, H1, I1, rfl, q1⟩
theorem pe_not (ha : PE X a ta) : PE X (.UnaryOp .Not a pos) (tNotV ta) := by
  intro pins s σ H Q I h
  refine UnaryOp_ (thn (ha pins s σ H _ I h) fun v s1 ⟨x, H1, I1, r1, q1⟩ => ?_)
  obtain ⟨c, rfl, q1⟩ := q1
  cases r1
  exact not_of (wpAny_truthy_bool ⟨.bl (!c), H1, I1, rfl, q1⟩)
/-- a if t else b -/
def tIf (t : TT) (ta tb : TE) : TE := fun σ H Q => t σ H fun c H1 => if c = true then ta σ H1 Q else tb σ H1 Q
theorem pe_ifExp {c : Expr} (hc : PT X c tA) (ha : PE X a ta) (hb : PE X b tb) : PE X (.IfExp c a b pos) (tIf tA ta tb) := by
  intro pins s σ H Q I h
  refine wpAny_IfExp (thn (hc pins s σ H _ I h) fun d s1 ⟨H1, I1, q1⟩ => ?_)
  cases d with
  | true => exact ha pins s1 σ H1 Q I1 q1
  | false => exact hb pins s1 σ H1 Q I1 q1
end
end L2
namespace L2
open PySem PySem.Spec PyProof.Rows
/-! ### a list, a tuple that is read: tracked, frozen, or an object of the module -/
def SqL (K : PySem.W.Frag) (H : Hp) (a : Addr) (xs : List V) : Prop :=
  Rd H a (.lst xs) ∨
    ∃ (o : Obj) (its : Array Value) (n : Nat), K.lookup a = some o ∧ o.cls = .type "list" ∧ o.dict = none ∧ o.data = .seq its n ∧ its.size ≤ sizeLine ∧ Vals xs its.toList
def SqT (K : PySem.W.Frag) (H : Hp) (a : Addr) (xs : List V) : Prop :=
  Rd H a (.tup xs) ∨
    ∃ (o : Obj) (its : Array Value) (n : Nat), K.lookup a = some o ∧ o.cls = .type "tuple" ∧ o.data = .seq its n ∧ its.size ≤ sizeLine ∧ Vals xs its.toList
def absV : Value → Option V
  | .none => some .non
  | .bool b => some (.bl b)
  | .int i _ => some (.int i)
  | .str x _ => some (.str x)
  | .bytes b _ => some (.byt b)
  | .float b _ => some (.flt b)
  | .ref a => some (.ref a)
  | .type n => some (.ty n)
  | _ => none
theorem RelV.abs {x : V} {u : Value} (r : RelV x u) : absV u = some x := by
  cases x with
  | non => cases r; rfl
  | bl _ => cases r; rfl
  | int _ => obtain ⟨t, rfl⟩ := r; rfl
  | str _ => obtain ⟨t, rfl⟩ := r; rfl
  | byt _ => obtain ⟨t, rfl⟩ := r; rfl
  | flt _ => obtain ⟨t, rfl⟩ := r; rfl
  | ref _ => cases r; rfl
  | ty _ => cases r; rfl
theorem RelV.inj {x y : V} {u : Value} (r : RelV x u) (q : RelV y u) : x = y := Option.some.inj (r.abs.symm.trans q.abs)
theorem Vals.inj : ∀ {xs ys : List V} {us : List Value}, Vals xs us → Vals ys us → xs = ys
  | _, _, _, .nil, .nil => rfl
  | _, _, _, .cons r t, .cons r' t' => by rw [r.inj r', Vals.inj t t']
section
variable {X : Cx} {pins : List (Addr × Obj)} {σ : St} {H : Hp} {s : Shared} {a : Addr} {xs ys : List V}
theorem SqL.of {K : PySem.W.Frag} (h : H a = some (.lst xs)) : SqL K H a xs := .inl (.inl h)
theorem SqT.of {K : PySem.W.Frag} (h : H a = some (.tup xs)) : SqT K H a xs := .inl (.inl h)
theorem Inv.list (I : Inv X pins σ H s) (h : SqL X.K H a xs) : ∃ its : List Value, Vals xs its ∧ PlainL s.heap a its.toArray ∧ xs.length ≤ sizeLine := by
  rcases h with h | ⟨o, its, n, hk, hc, hd, hs, hz, r⟩
  · obtain ⟨z, its, n, r, e⟩ := h.ok I.hok
    exact ⟨its, r, ⟨_, n, e, rfl, rfl, rfl⟩, z⟩
  · refine ⟨its.toList, r, ⟨o, n, I.kIn a o hk, hc, hd, by simpa using hs⟩, ?_⟩
    have e := r.length
    simp only [Array.length_toList] at e
    omega
theorem Inv.tuple (I : Inv X pins σ H s) (h : SqT X.K H a xs) : ∃ its : List Value, Vals xs its ∧ IsTup s.heap a its.toArray ∧ xs.length ≤ sizeLine := by
  rcases h with h | ⟨o, its, n, hk, hc, hs, hz, r⟩
  · obtain ⟨z, its, r, p⟩ := h.ok I.hok
    exact ⟨its, r, p, z⟩
  · refine ⟨its.toList, r, ⟨o, I.kIn a o hk, hc, n, by simpa using hs⟩, ?_⟩
    have e := r.length
    simp only [Array.length_toList] at e
    omega
theorem Inv.list_inj (I : Inv X pins σ H s) (h : SqL X.K H a xs) (h' : SqL X.K H a ys) : xs = ys := by
  obtain ⟨its, r, ⟨o, n, e, _, _, d⟩, _⟩ := I.list h
  obtain ⟨its', r', ⟨o', n', e', _, _, d'⟩, _⟩ := I.list h'
  rw [e] at e'; cases e'
  rw [d] at d'
  injection d' with d1 _
  have : its = its' := by simpa using congrArg Array.toList d1
  subst this
  exact r.inj r'
end
/-! ### another wish about exceptions -/
abbrev Cx.wish (X : Cx) (E : Value → Shared → Prop) : Cx := { X with xe := E }
/-- no exception leaves -/
abbrev Cx.nox (X : Cx) : Cx := X.wish fun _ _ => False
theorem Cx.Ok.wish {X : Cx} (ok : X.Ok) (E : Value → Shared → Prop) : (X.wish E).Ok :=
  ⟨ok.mod, ok.kind, ok.glob, ok.blt, ok.above, ok.inj, ok.has, ok.cab, ok.hd, ok.frames, ok.stk, ok.exf, ok.bs, ok.bsz, ok.noex, ok.exfs, ok.funs, ok.frf⟩
theorem Cx.Ok.unwish {X : Cx} {E : Value → Shared → Prop} (ok : (X.wish E).Ok) : X.Ok :=
  ⟨ok.mod, ok.kind, ok.glob, ok.blt, ok.above, ok.inj, ok.has, ok.cab, ok.hd, ok.frames, ok.stk, ok.exf, ok.bs, ok.bsz, ok.noex, ok.exfs, ok.funs, ok.frf⟩
section
variable {X : Cx} {pins : List (Addr × Obj)} {σ : St} {H : Hp} {s : Shared} {E : Value → Shared → Prop}
theorem Inv.wish (I : Inv X pins σ H s) (E : Value → Shared → Prop) : Inv (X.wish E) pins σ H s := ⟨I.ok.wish E, I.os, I.bare, I.base, I.loc, I.cell, I.free, I.freeC, I.pin, I.hok, I.len⟩
theorem Inv.unwish (I : Inv (X.wish E) pins σ H s) : Inv X pins σ H s := ⟨I.ok.unwish, I.os, I.bare, I.base, I.loc, I.cell, I.free, I.freeC, I.pin, I.hok, I.len⟩
theorem SP.unwish {D : Ends} {f : Flow} {s' : Shared} (h : SP (X.wish E) pins D f s') : SP X pins D f s' := by
  cases f with
  | next => obtain ⟨σ', H', I, q⟩ := h; exact ⟨σ', H', I.unwish, q⟩
  | brk => obtain ⟨σ', H', I, q⟩ := h; exact ⟨σ', H', I.unwish, q⟩
  | cont => obtain ⟨σ', H', I, q⟩ := h; exact ⟨σ', H', I.unwish, q⟩
  | ret u => obtain ⟨v, σ', H', I, r, q⟩ := h; exact ⟨v, σ', H', I.unwish, r, q⟩
theorem PE.nox {e : Expr} {t : TE} (h : PE X.nox e t) : PE X e t := fun pins s σ H Q I hw =>
  wpAny_mono (h pins s σ H Q (I.wish _) hw) (fun _ _ ⟨v, H', I', r, q⟩ => ⟨v, H', I'.unwish, r, q⟩) fun _ _ z => False.elim z
theorem PT.nox {e : Expr} {t : TT} (h : PT X.nox e t) : PT X e t := fun pins s σ H Q I hw =>
  wpAny_mono (h pins s σ H Q (I.wish _) hw) (fun _ _ ⟨H', I', q⟩ => ⟨H', I'.unwish, q⟩) fun _ _ z => False.elim z
theorem PSs.nox {st : List Stmt} {t : TS} (h : PSs X.nox st t) : PSs X st t := fun pins s σ H D I hw =>
  wpAny_mono (h pins s σ H D (I.wish _) hw) (fun _ _ q => q.unwish) fun _ _ z => False.elim z
end
section
variable {X : Cx} {st : Stmt} {rest : List Stmt} {t u : TS} {e : Expr} {te : TE} {pos : Pos}
def tNext : TS := fun D σ H => D.nx σ H
def tSeq (t u : TS) : TS := fun D σ H => t { D with nx := u D } σ H
theorem pss_nil : PSs X [] tNext := fun _ _ σ H _ I h => wpAny_execs_nil ⟨σ, H, I, h⟩
theorem pss_cons (h1 : PS X st t) (h2 : PSs X rest u) : PSs X (st :: rest) (tSeq t u) := by
  intro pins s σ H D I h
  refine wpAny_execs_cons (thn (h1 pins s σ H { D with nx := u D } I h) fun f s1 q => ?_)
  cases f with
  | next =>
    obtain ⟨σ', H', I', q⟩ := q
    exact h2 pins s1 σ' H' D I' q
  | ret v => exact q
  | brk => exact q
  | cont => exact q
theorem pss_one (h1 : PS X st t) : PSs X [st] t := by
  intro pins s σ H D I h
  refine wpAny_execs_cons (thn (h1 pins s σ H D I h) fun f s1 q => ?_)
  cases f with
  | next => exact wpAny_execs_nil q
  | ret v => exact q
  | brk => exact q
  | cont => exact q
/-- in a def's body nothing is shown -/
theorem Inv.quiet {pins : List (Addr × Obj)} {σ : St} {H : Hp} {s : Shared} (I : Inv X pins σ H s) : interactive X.env = false := by simp [interactive, I.ok.kind]
/-- an expression whose value is dropped -/
def tDrop (te : TE) : TS := fun D σ H => te σ H fun _ H1 => D.nx σ H1
theorem ps_expr (he : PE X e te) (hs : swapsWith e none pos.line X.env = pure false := by rfl) : PS X (.Expr e pos) (tDrop te) := by
  intro pins s σ H D I h
  exact wpAny_Expr_any (thn (he pins s σ H _ I h) fun v s1 ⟨x, H1, I1, r1, q1⟩ => ⟨σ, H1, I1, q1⟩) I.quiet hs
def tRet (te : TE) : TS := fun D σ H => te σ H D.rt
theorem ps_ret (he : PE X e te) : PS X (.Return (some e) pos) (tRet te) := by
  intro pins s σ H D I h
  exact wpAny_Return_some (thn (he pins s σ H _ I h) fun v s1 ⟨x, H1, I1, r1, q1⟩ => ⟨x, σ, H1, I1, r1, q1⟩)
def tIfS (c : TT) (t u : TS) : TS := fun D σ H => c σ H fun b H1 => if b = true then t D σ H1 else u D σ H1
theorem ps_if {c : Expr} {a b : List Stmt} {tc : TT} (hc : PT X c tc) (ha : PSs X a t) (hb : PSs X b u) : PS X (.If c a b pos) (tIfS tc t u) := by
  intro pins s σ H D I h
  refine wpAny_If (thn (hc pins s σ H _ I h) fun d s1 ⟨H1, I1, q1⟩ => ?_)
  cases d with
  | true => exact ha pins s1 σ H1 D I1 q1
  | false => exact hb pins s1 σ H1 D I1 q1
/-- code that the proof never comes to -/
def tNever : TS := fun _ _ _ => False
theorem ps_never : PS X st tNever := fun _ _ _ _ _ _ h => h.elim
end
/-! ### targets -/
abbrev TG := V → St → Hp → (St → Hp → Prop) → Prop
def PG (X : Cx) (target : Expr) (t : TG) : Prop :=
  ∀ (pins : List (Addr × Obj)) (s : Shared) (σ : St) (H : Hp) (v : V) (u : Value) (Q : St → Hp → Prop), Inv X pins σ H s → RelV v u → t v σ H Q →
    wpAny (model X.prog X.w) X.A (assign target X.env u) (fun _ s' => ∃ σ' H', Inv X pins σ' H' s' ∧ Q σ' H') X.xe s
/-- a op= b, by values -/
abbrev TIp := V → V → Hp → VK → Prop
def PIp (X : Cx) (op : Operator) (t : TIp) : Prop :=
  ∀ (pins : List (Addr × Obj)) (s : Shared) (σ : St) (H : Hp) (x y : V) (v u : Value) (Q : VK), Inv X pins σ H s → RelV x v → RelV y u → t x y H Q →
    wpAny (model X.prog X.w) X.A (inplaceOp op v u) (EP X pins σ Q) X.xe s
section
variable {X : Cx} {pos : Pos}
def gName (i : Nat) : TG := fun v σ H Q => Q (σ.set i (some v)) H
theorem pg_name {i : Nat} {x : Str} (hN : X.N.Nodup) (hi : X.N[i]? = some x) (hx : Loc X.env.scope x) (hf : X.fn x = true ∨ X.env.scope.names.lookup x = some .local := by first | exact .inl rfl | exact .inr rfl | assumption) : PG X (.Name x pos) (gName i) := by
  intro pins s σ H v u Q I r h
  exact wpAny_assign_Name (store_ok I hN hi hx r (fun s' I' => ⟨_, H, I', h⟩) hf)
/-- target = value -/
def tAsg (te : TE) (g : TG) : TS := fun D σ H => te σ H fun x H1 => g x σ H1 D.nx
/-- name = value -/
theorem ps_set {i : Nat} {x : Str} {e : Expr} {te : TE} {pos' : Pos} (hN : X.N.Nodup) (hi : X.N[i]? = some x) (hx : Loc X.env.scope x) (he : PE X e te) (hs : swapsWith e (some (.Name x pos')) pos.line X.env = pure false := by rfl) (hf : X.fn x = true ∨ X.env.scope.names.lookup x = some .local := by first | exact .inl rfl | exact .inr rfl | assumption) :
    PS X (.Assign [.Name x pos'] e pos) (tAsg te (gName i)) := by
  intro pins s σ H D I h
  refine wpAny_Assign_Name (thn (he pins s σ H _ I h) fun v s1 ⟨y, H1, I1, r1, q1⟩ => ?_) hs
  exact store_ok I1 hN hi hx r1 (fun s2 I2 => ⟨_, H1, I2, q1⟩) hf
/-- name op= e -/
def tAug (i : Nat) (te : TE) (ti : TIp) : TS := fun D σ H => ∃ x, σ[i]? = some (some x) ∧ te σ H fun y H1 => ti x y H1 fun z H2 => D.nx (σ.set i (some z)) H2
theorem ps_aug {i : Nat} {x : Str} {e : Expr} {te : TE} {op : Operator} {ti : TIp} {pos' : Pos} (hN : X.N.Nodup) (hi : X.N[i]? = some x) (hx : Loc X.env.scope x) (he : PE X e te) (ho : PIp X op ti) (hf : X.fn x = true ∨ X.env.scope.names.lookup x = some .local := by first | exact .inl rfl | exact .inr rfl | assumption) :
    PS X (.AugAssign (.Name x pos') op e pos) (tAug i te ti) := by
  intro pins s σ H D I h
  obtain ⟨v, e1, h⟩ := h
  obtain ⟨m, hn, hl⟩ := I.loc
  have vis : Vis X.env.scope x := by rcases hx with k | k; exact .inl k; exact .inr (.inl k)
  obtain ⟨u, r, l⟩ := hl i x v hi e1 vis
  refine wpAny_AugAssign_Name ?_
  have go : wpAny (model X.prog X.w) X.A (eval e X.env) (fun w s₂ => wpAny (model X.prog X.w) X.A (inplaceOp op u w) (fun r s₃ => wpAny (model X.prog X.w) X.A (storeName X.env x r) (fun _ => SP X pins D .next) X.xe s₃) X.xe s₂) X.xe s := by
    refine thn (he pins s σ H _ I h) fun w s1 ⟨y, H1, I1, r1, q1⟩ => ?_
    refine thn (ho pins s1 σ H1 v y u w _ I1 r r1 q1) fun z s2 ⟨zv, H2, I2, r2, q2⟩ => ?_
    exact store_ok I2 hN hi hx r2 (fun s3 I3 => ⟨_, H2, I3, q2⟩) hf
  rcases l with ⟨hk, hm⟩ | ⟨hk, c, hc, hcell⟩
  · exact wpAny_loadName_local I.ok.kind hk hn hm go
  · rcases hk with hk | hk
    · exact wpAny_loadName_cell I.ok.kind hk hc hcell go
    · rcases hx with k | k
      · have : X.env.scope.names.lookup x = some .free := hk
        rw [k] at this; cases this
      · have : X.env.scope.names.lookup x = some .free := hk
        rw [k] at this; cases this
/-- ints -/
def ipI (f : Int → Int → Int) : TIp := fun x y H Q => ∃ i j, x = .int i ∧ y = .int j ∧ Q (.int (f i j)) H
theorem ip_add : PIp X .Add (ipI fun i j => i + j) := by
  intro pins s σ H x y v u Q I r1 r2 h
  obtain ⟨i, j, e1, e2, q⟩ := h
  subst e1; subst e2
  obtain ⟨t, rfl⟩ := r1
  obtain ⟨t', rfl⟩ := r2
  exact iadd_int ⟨.int _, H, I.tok _, ⟨_, rfl⟩, q⟩
end
section
variable {X : Cx} {pos : Pos}
/-- the invariant W with its measure -/
def tWhile (c : TT) (tb : TS) : TS := fun D σ H => ∃ W : Nat → St → Hp → Prop, (∃ m, W m σ H) ∧ ∀ m σ H, W m σ H →
  c σ H fun b H1 => if b = true then ∃ N : St → Hp → Prop, (∀ σ' H', N σ' H' → ∃ m', m' < m ∧ W m' σ' H') ∧ tb { D with nx := N, ct := N, bk := D.nx } σ H1 else D.nx σ H1
theorem ps_while {c : Expr} {body : List Stmt} {tc : TT} {tb : TS} (hp : PassesOwn (model X.prog X.w) X.A X.env X.xe) (hc : PT X c tc) (hb : PSs X body tb) : PS X (.While c body [] pos) (tWhile tc tb) := by
  intro pins s σ H D I h
  obtain ⟨W, ⟨m0, w0⟩, turn⟩ := h
  refine wpAny_While (codeAny_whileLoop (fun n s' => ∃ σ' H', Inv X pins σ' H' s' ∧ W n σ' H') ?_ m0 ⟨σ, H, I, w0⟩)
  rintro n s1 ⟨σ1, H1, I1, w1⟩
  refine wpAny_passesOwn hp (thn (hc pins s1 σ1 H1 _ I1 (turn n σ1 H1 w1)) fun b s2 ⟨H2, I2, q2⟩ => ?_)
  cases b with
  | true =>
    obtain ⟨N, hN, q2⟩ := q2
    rw [if_pos rfl]
    refine wpAny_passesOwn hp (thn (hb pins s2 σ1 H2 _ I2 q2) fun f s3 q3 => ?_)
    cases f with
    | next =>
      obtain ⟨σ3, H3, I3, n3⟩ := q3
      obtain ⟨m', hm, w3⟩ := hN σ3 H3 n3
      exact ⟨m', hm, σ3, H3, I3, w3⟩
    | cont =>
      obtain ⟨σ3, H3, I3, n3⟩ := q3
      obtain ⟨m', hm, w3⟩ := hN σ3 H3 n3
      exact ⟨m', hm, σ3, H3, I3, w3⟩
    | brk => exact q3
    | ret v => exact q3
  | false =>
    rw [if_neg Bool.false_ne_true]
    exact wpAny_execs_nil ⟨σ1, H2, I2, q2⟩
end
/-! ### what a loop or a comprehension walks -/
/-- at turn i: it yields x (the heap may grow), or it stops -/
structure It where
  go : Nat → Hp → Prop
  yld : Nat → Hp → V → Hp → Prop
  stop : Nat → Hp → Prop
/-- the iterator's own objects may turn: they are not the frame's, not pinned, younger than the entry (or a comprehension's own) -/
def FpOk (X : Cx) (pins : List (Addr × Obj)) (H : Hp) (b : Addr) : Prop :=
  H b = none ∧ b ≠ X.env.locals ∧ b ∉ X.fs ∧ (b ∈ X.ex ∨ X.s₀.heap.objs.size ≤ b) ∧ (∀ x c, X.env.cells.lookup x = some c → c ≠ b) ∧ ∀ p ∈ X.pn ++ pins, p.1 ≠ b
theorem Inv.fpOk {X : Cx} {pins : List (Addr × Obj)} {σ : St} {H H' : Hp} {s : Shared} {b : Addr} (I : Inv X pins σ H s) (hb : s.heap.objs.size ≤ b) (hn : H' b = none) : FpOk X pins H' b := by
  refine ⟨hn, Nat.ne_of_gt (Nat.lt_of_lt_of_le I.lt hb), I.nofs hb, .inr (Nat.le_trans I.sz hb), fun x c e z => ?_, fun p hp z => ?_⟩
  · obtain ⟨v, q⟩ := I.cell x c e
    exact absurd (Nat.lt_of_lt_of_le q.lt (by rw [z]; exact hb)) (Nat.lt_irrefl _)
  · exact absurd (Nat.lt_of_lt_of_le (Heap.lt_size (I.pin p hp).1) (by rw [z]; exact hb)) (Nat.lt_irrefl _)
structure Turn (P : Program) (w : World) (K : PySem.W.Frag) (tg : Expr) (J : It) (fp : List Addr) (it : Addr) (tn : Nat → Heap → Prop) : Prop where
  mem : it ∈ fp
  obj : ∀ i h, tn i h → ∀ b ∈ fp, ∃ o, h.get? b = some o ∧ ∀ v, o.data ≠ .cell v
  keep : ∀ i h h', tn i h → (∀ b ∈ fp, ∀ o, h.get? b = some o → h'.get? b = some o) → tn i h'
  item : ∀ (X : Cx), X.prog = P → X.w = w → X.K = K → X.calm = true → ∀ (i : Nat) (pins : List (Addr × Obj)) (s : Shared) (σ : St) (H : Hp) (E : Value → Shared → Prop), Inv X pins σ H s → (∀ b ∈ fp, FpOk X pins H b) → tn i s.heap → J.go i H →
    wpAny (model P w) X.A (pyNext (.ref it)) (fun r s1 => ∃ u, r = some u ∧
      wpAny (model P w) X.A (letOwnedTupleGo tg (.ref it) u) (fun _ s2 => ∃ x H', Inv X pins σ H' s2 ∧ RelV x u ∧ J.yld i H x H' ∧ tn (i + 1) s2.heap ∧ ∀ b ∈ fp, H' b = none) E s1) E s
  done : ∀ (X : Cx), X.prog = P → X.w = w → X.K = K → X.calm = true → ∀ (i : Nat) (pins : List (Addr × Obj)) (s : Shared) (σ : St) (H : Hp) (E : Value → Shared → Prop), Inv X pins σ H s → (∀ b ∈ fp, FpOk X pins H b) → tn i s.heap → J.stop i H →
    wpAny (model P w) X.A (pyNext (.ref it)) (fun r s1 => r = none ∧ Inv X pins σ H s1) E s
  self : ∀ (A : Around) (i : Nat) (s : Shared) (Q : Value → Shared → Prop) (E : Value → Shared → Prop), tn i s.heap → Q (.ref it) s → wpAny (model P w) A (pyIter (.ref it)) Q E s
abbrev TI := St → Hp → (It → Hp → Prop) → Prop
/-- an iterator has come -/
def PIE (X : Cx) (pins : List (Addr × Obj)) (σ : St) (tg : Expr) (R : It → Hp → Prop) (itv : Value) (s2 : Shared) : Prop :=
  ∃ (it : Addr) (fp : List Addr) (tn : Nat → Heap → Prop) (J : It) (H' : Hp), itv = .ref it ∧ Inv X pins σ H' s2 ∧ Turn X.prog X.w X.K tg J fp it tn ∧ tn 0 s2.heap ∧ (∀ b ∈ fp, FpOk X pins H' b) ∧ R J H'
def PI (X : Cx) (tg iter : Expr) (wi : TI) : Prop :=
  ∀ (pins : List (Addr × Obj)) (s : Shared) (σ : St) (H : Hp) (R : It → Hp → Prop), Inv X pins σ H s → wi σ H R →
    wpAny (model X.prog X.w) X.A (eval iter X.env) (fun v s1 => wpAny (model X.prog X.w) X.A (pyIter v) (PIE X pins σ tg R) X.xe s1) X.xe s

/-- the step ahead of the store is nothing for an iterator that keeps no tuple -/
theorem go_of {M : Model} {A : Around} {E : Value → Shared → Prop} {s : Shared} {tg : Expr} {it : Addr} {u : Value} {o : Obj} {n : String} {vs : Array Value} {Q : Unit → Shared → Prop} (ho : s.heap.get? it = some o) (hc : o.cls = .type n) (hd : o.data = .fields vs)
    (hn : ["enumerate", "zip", "dict_itemiterator", "dict_reverseitemiterator", "odict_iterator", "itertools.zip_longest", "itertools.pairwise"].contains n = false) (hQ : Q () s) : wpAny M A (letOwnedTupleGo tg (.ref it) u) Q E s := by
  unfold letOwnedTupleGo
  cases tg <;> first
    | exact wpAny_pure hQ
    | (cases u <;> first
        | exact wpAny_pure hQ
        | (refine wpAny_bind (wpAny_load ho ?_)
           rw [hc, hd]
           show wpAny M A (if (["enumerate", "zip", "dict_itemiterator", "dict_reverseitemiterator", "odict_iterator", "itertools.zip_longest", "itertools.pairwise"].contains n && vs[0]? == some (rawInt _)) = true then _ else _) Q E s
           rw [if_neg (by intro h; rw [hn, Bool.false_and] at h; cases h)]
           exact wpAny_pure hQ))

/-- the list at a, as it stands at each turn (a loop may append to it) -/
def Itl (K : PySem.W.Frag) (a : Addr) : It :=
  ⟨fun i H => ∃ xs x, SqL K H a xs ∧ xs[i]? = some x, fun i H x H' => H' = H ∧ ∀ xs, SqL K H a xs → xs[i]? = some x, fun i H => ∃ xs, SqL K H a xs ∧ xs.length ≤ i⟩
/-- lo, lo + 1, .. (n of them) -/
def Itr (lo : Int) (n : Nat) : It := ⟨fun i _ => i < n, fun i H x H' => H' = H ∧ x = .int (lo + i), fun i _ => n ≤ i⟩
theorem turn_list {P : Program} {w : World} {K : PySem.W.Frag} {tg : Expr} (a it : Addr) : Turn P w K tg (Itl K a) [it] it (fun i h => h.IsListIter it a i) where
  mem := by simp
  obj := fun i h st b hb => by
    have e : b = it := by simpa using hb
    subst e
    obtain ⟨o, e, c, d⟩ := st
    exact ⟨o, e, fun v z => by rw [d] at z; cases z⟩
  keep := fun i h h' st k => st.at fun o e => k it (by simp) o e
  item := by
    intro X hP hw hK hc i pins s σ H E I hf st hg
    subst hP hw hK
    obtain ⟨xs, x, hq, hx⟩ := hg
    obtain ⟨its, rv, p, hz⟩ := I.list hq
    obtain ⟨u, hu, ru⟩ := rv.get hx
    obtain ⟨f0, f1, f2, f3, f4, f5⟩ := hf it (by simp)
    refine wpAny_pyNext_list_item st p.isList (x := u) (by simpa using hu) fun h' st' sb => ?_
    have I1 : Inv X pins σ H { s with heap := h' } := I.turned (t' := s.toks) (fun b o hb e => (sb.2 b hb).trans e) f0 f1 f3 f4 f5
    obtain ⟨o, e, c, d⟩ := id st'
    exact ⟨u, rfl, go_of (s := { s with heap := h' }) e c d (by decide) ⟨x, H, I1, ru, ⟨rfl, fun ys hy => by rw [I.list_inj hy hq]; exact hx⟩, st', fun b hb => (hf b hb).1⟩⟩
  done := by
    intro X hP hw hK hc i pins s σ H E I hf st hg
    subst hP hw hK
    obtain ⟨xs, hq, hx⟩ := hg
    obtain ⟨its, rv, p, hz⟩ := I.list hq
    obtain ⟨f0, f1, f2, f3, f4, f5⟩ := hf it (by simp)
    have hl := rv.length
    exact wpAny_pyNext_list_end (I.ok.hd hc) st p.isList (by simp; omega) fun h' eb => ⟨rfl, I.turned (t' := s.toks) (fun b o hb e => eb b o hb e) f0 f1 f3 f4 f5⟩
  self := fun _ _ _ _ _ st h => wpAny_pyIter_listiter st h
theorem turn_range {P : Program} {w : World} {K : PySem.W.Frag} {tg : Expr} (it : Addr) (lo : Int) (n : Nat) : Turn P w K tg (Itr lo n) [it] it (fun i h => IsRangeIter h it (lo + (i : Nat) * 1) ((n : Int) - (i : Nat)) 1) where
  mem := by simp
  obj := fun i h st b hb => by
    have e : b = it := by simpa using hb
    subst e
    exact ⟨_, st, fun v z => by
      have z' : Data.fields _ = Data.cell v := z
      cases z'⟩
  keep := fun i h h' st k => k it (by simp) _ st
  item := by
    intro X hP hw hK hc i pins s σ H E I hf st hg
    subst hP hw hK
    obtain ⟨f0, f1, f2, f3, f4, f5⟩ := hf it (by simp)
    have W := Walks.range (prog := X.prog) (w := X.w) (I.ok.hd hc) it lo 1 n
    refine W.item i s _ _ hg st fun v h' tk hv st' kk => ?_
    obtain ⟨t, rfl⟩ := hv
    have I1 : Inv X pins σ H { s with heap := h', toks := tk } := I.turned (fun b o hb e => kk b o (by simpa using hb) e) f0 f1 f3 f4 f5
    refine ⟨_, rfl, go_of (s := { s with heap := h', toks := tk }) (n := "range_iterator") st' rfl rfl (by decide) ⟨.int (lo + i), H, I1, ⟨t, ?_⟩, ⟨rfl, rfl⟩, st', fun b hb => (hf b hb).1⟩⟩
    rw [Int.mul_one]
  done := by
    intro X hP hw hK hc i pins s σ H E I hf st hg
    subst hP hw hK
    obtain ⟨f0, f1, f2, f3, f4, f5⟩ := hf it (by simp)
    exact wpAny_pyNext_range_end (I.ok.hd hc) st (by have : n ≤ i := hg; omega) fun h' eb => ⟨rfl, I.turned (t' := s.toks) (fun b o hb e => eb b o hb e) f0 f1 f3 f4 f5⟩
  self := fun _ _ _ _ _ st h => wpAny_pyIter_rangeiter st h
end L2
namespace L2
open PySem PySem.Spec PyProof.Rows
section
variable {X : Cx} {tg : Expr}
def iList (K : PySem.W.Frag) (tl : TE) : TI := fun σ H R => tl σ H fun x H1 => ∃ a, x = .ref a ∧ (∃ xs, SqL K H1 a xs) ∧ R (Itl K a) H1
theorem pi_list {l : Expr} {tl : TE} (hl : PE X l tl) : PI X tg l (iList X.K tl) := by
  intro pins s σ H R I h
  refine thn (hl pins s σ H _ I h) fun v s1 ⟨x, H1, I1, r1, q1⟩ => ?_
  obtain ⟨a, e, ⟨xs, hq⟩, q⟩ := q1
  subst e
  cases r1
  obtain ⟨its, rv, p, hz⟩ := I1.list hq
  refine wpAny_pyIter_list p.isList ?_
  refine ⟨s1.heap.objs.size, [s1.heap.objs.size], _, _, H1, rfl, I1.kept (t' := s1.toks) fun b o e => Heap.get?_push_of_some _ e, turn_list a _, ⟨_, Heap.get?_push_size _ rfl, rfl, rfl⟩, fun b hb => ?_, q⟩
  have e : b = s1.heap.objs.size := by simpa using hb
  subst e
  exact I1.fpOk (Nat.le_refl _) (I1.hok.fresh (Nat.le_refl _))
/-- a range object just made, walked -/
theorem range_it {pins : List (Addr × Obj)} {σ : St} {H : Hp} {s : Shared} {R : It → Hp → Prop} {E : Value → Shared → Prop} {lo hi : Int} {t u v : Tok} {tk : Nat} (I : Inv X pins σ H s) (h1 : -(2 ^ 62) ≤ lo) (h2 : lo < 2 ^ 62) (h3 : -(2 ^ 62) ≤ hi) (h4 : hi < 2 ^ 62)
    (q : R (Itr lo (hi - lo).toNat) H) : wpAny (model X.prog X.w) X.A (pyIter (.ref s.heap.objs.size)) (PIE X pins σ tg R) E { s with heap := s.heap.push { cls := .type "range", data := .fields #[.int lo t, .int hi u, .int 1 v] }, toks := tk } := by
  refine wpAny_pyIter_range (IsRange.new ..) (small_one h1 h2 h3 h4) ?_
  have I1 : Inv X pins σ H { s with heap := s.heap.push { cls := .type "range", data := .fields #[.int lo t, .int hi u, .int 1 v] }, toks := tk } := I.kept fun b o e => Heap.get?_push_of_some _ e
  refine ⟨(s.heap.push { cls := .type "range", data := .fields #[.int lo t, .int hi u, .int 1 v] }).objs.size, [(s.heap.push { cls := .type "range", data := .fields #[.int lo t, .int hi u, .int 1 v] }).objs.size], _, _, H, rfl,
    I1.kept (t' := tk) fun b o e => Heap.get?_push_of_some _ e, turn_range _ lo (hi - lo).toNat, ?_, fun b hb => ?_, q⟩
  · have e1 : lo + ((0 : Nat) : Int) * 1 = lo := by simp
    have e2 : (((hi - lo).toNat : Nat) : Int) - ((0 : Nat) : Int) = Builtin.Range.rangeSize lo hi 1 := by rw [rangeSize_one]; split <;> omega
    show IsRangeIter _ _ (lo + ((0 : Nat) : Int) * 1) ((((hi - lo).toNat : Nat) : Int) - ((0 : Nat) : Int)) 1
    rw [e1, e2]
    exact Heap.get?_push_size _ rfl
  · have e : b = (s.heap.push { cls := .type "range", data := .fields #[.int lo t, .int hi u, .int 1 v] }).objs.size := by simpa using hb
    subst e
    exact I1.fpOk (Nat.le_refl _) (I1.hok.fresh (Nat.le_refl _))
def iRng1 (ta : TA) : TI := fun σ H R => ta σ H fun vs H1 => ∃ j : Int, vs = [.int j] ∧ -(2 ^ 62) ≤ j ∧ j < 2 ^ 62 ∧ R (Itr 0 j.toNat) H1
theorem pi_range1 {a : Expr} {ta : TA} {p pos : Pos} (hg : Gl X "range") (hm : X.mg "range" = none) (ha : PA X [a] ta) (hs : starEach [a] X.env = [(false, eval a X.env)] := by rfl) : PI X tg (.Call (.Name "range" p) [a] [] pos) (iRng1 ta) := by
  intro pins s σ H R I h
  refine Call_ (ld_blt I hg hm boot_range (PyProof.Rows.callWith_type1 (thn (ha pos pins s σ H _ I h) fun us s1 ⟨vs, H1, I1, r1, q1⟩ => ?_) hs rfl))
  obtain ⟨j, e, q1, q2, q⟩ := q1
  subst e
  cases r1 with
  | cons r rr =>
    cases rr
    obtain ⟨t, rfl⟩ := r
    exact call_range_1 (range_it I1 (by omega) (by omega) q1 q2 (by simpa using q))
/-! ### for -/
/-- W: the invariant by the turn and a measure; N: what the body is to reach -/
def tFor (wi : TI) (g : TG) (tb : TS) : TS := fun D σ H => wi σ H fun J H1 => ∃ W : Nat → Nat → St → Hp → Prop, (∃ m, W 0 m σ H1) ∧ ∀ i m σ H, W i m σ H →
  (J.stop i H ∧ D.nx σ H) ∨ (J.go i H ∧ ∃ N : St → Hp → Prop, (∀ σ' H', N σ' H' → ∃ m', m' < m ∧ W (i + 1) m' σ' H') ∧ ∀ x H', J.yld i H x H' → g x σ H' fun σ2 H2 => tb { D with nx := N, ct := N, bk := D.nx } σ2 H2)
/-- the records at fp as they stand -/
def pinsAt (fp : List Addr) (h : Heap) : List (Addr × Obj) := fp.filterMap fun b => (h.get? b).map fun o => (b, o)
theorem mem_pinsAt {fp : List Addr} {h : Heap} {b : Addr} {o : Obj} (hb : b ∈ fp) (e : h.get? b = some o) : (b, o) ∈ pinsAt fp h := List.mem_filterMap.mpr ⟨b, hb, by rw [e]; rfl⟩
theorem of_pinsAt {fp : List Addr} {h : Heap} {p : Addr × Obj} (hp : p ∈ pinsAt fp h) : p.1 ∈ fp ∧ h.get? p.1 = some p.2 := by
  obtain ⟨b, hb, e⟩ := List.mem_filterMap.mp hp
  cases q : h.get? b with
  | none => rw [q] at e; cases e
  | some o =>
    rw [q] at e
    have e' : (b, o) = p := Option.some.inj e
    subst e'
    exact ⟨hb, q⟩
theorem Inv.pinned {pins : List (Addr × Obj)} {σ : St} {H : Hp} {s : Shared} {fp : List Addr} (I : Inv X pins σ H s) (hf : ∀ b ∈ fp, FpOk X pins H b) (ho : ∀ b ∈ fp, ∃ o, s.heap.get? b = some o ∧ ∀ v, o.data ≠ .cell v) : Inv X (pins ++ pinsAt fp s.heap) σ H s :=
  I.pins_of fun p hp => (List.mem_append.mp hp).elim (fun z => I.pin p (List.mem_append_right _ z)) fun z => by
    obtain ⟨hb, e⟩ := of_pinsAt z
    obtain ⟨f0, f1, f2, _⟩ := hf p.1 hb
    obtain ⟨o, e', d⟩ := ho p.1 hb
    rw [e] at e'; cases e'
    exact ⟨e, f0, f1, f2, d⟩
theorem Inv.unpinned {pins pl : List (Addr × Obj)} {σ : St} {H : Hp} {s : Shared} (I : Inv X (pins ++ pl) σ H s) : Inv X pins σ H s := I.pins_of fun p hp => I.pin p (List.mem_append_right _ (List.mem_append_left _ hp))
theorem ps_for {iter : Expr} {body : List Stmt} {wi : TI} {g : TG} {tb : TS} {pos : Pos} (hp : PassesOwn (model X.prog X.w) X.A X.env X.xe) (hc : X.calm = true) (hi : PI X tg iter wi) (hg : PG X tg g) (hb : PSs X body tb)
    (hs : ∀ x, foldedSetIterable iter X.env x = pure x := by intro _; rfl) : PS X (.For tg iter body [] pos) (tFor wi g tb) := by
  intro pins s σ H D I h
  refine wpAny_For (thn (hi pins s σ H _ I h) fun v s1 h1 => thn h1 fun itv s2 h2 => ?_) hs
  obtain ⟨it, fp, tn, J, H2, e, I2, T, st2, f2, W, ⟨m0, w0⟩, turn⟩ := h2
  subst e
  -- what stays true of the iterator's objects through the loop
  have stat : ∀ {H' : Hp}, (∀ b ∈ fp, H' b = none) → ∀ b ∈ fp, FpOk X pins H' b := fun hn b hb => ⟨hn b hb, (f2 b hb).2⟩
  refine codeAny_forLoop_any (fun n s' => ∃ i σ' H', Inv X pins σ' H' s' ∧ tn i s'.heap ∧ (∀ b ∈ fp, H' b = none) ∧ W i n σ' H') ?_ m0 ⟨0, σ, H2, I2, st2, fun b hb => (f2 b hb).1, w0⟩
  rintro n s3 ⟨i, σ3, H3, I3, st3, fr3, w3⟩
  rcases turn i n σ3 H3 w3 with ⟨stop, qn⟩ | ⟨go, N, hN, step⟩
  · refine wpAny_passesOwn hp (thn (T.done X rfl rfl rfl hc i pins s3 σ3 H3 X.xe I3 (stat fr3) st3 stop) fun r s4 ⟨hr, I4⟩ => ?_)
    subst hr
    exact wpAny_execs_nil ⟨σ3, H3, I4, qn⟩
  · refine wpAny_passesOwn hp (thn (T.item X rfl rfl rfl hc i pins s3 σ3 H3 X.xe I3 (stat fr3) st3 go) fun r s4 ⟨u, hr, h4⟩ => ?_)
    subst hr
    refine wpAny_passesOwn hp (thn h4 fun _ s5 ⟨x, H5, I5, r5, y5, st5, fr5⟩ => ?_)
    have I5' := I5.pinned (stat fr5) (T.obj _ _ st5)
    refine wpAny_passesOwn hp (thn (hg _ s5 σ3 H5 x u _ I5' r5 (step x H5 y5)) fun _ s6 ⟨σ6, H6, I6, q6⟩ => ?_)
    refine wpAny_passesOwn hp (thn (hb _ s6 σ6 H6 _ I6 q6) fun f s7 q7 => ?_)
    have again : ∀ {σ7 : St} {H7 : Hp}, Inv X (pins ++ pinsAt fp s5.heap) σ7 H7 s7 → N σ7 H7 → ∃ m, m < n ∧ ∃ i σ' H', Inv X pins σ' H' s7 ∧ tn i s7.heap ∧ (∀ b ∈ fp, H' b = none) ∧ W i m σ' H' := fun {σ7 H7} I7 n7 => by
      obtain ⟨m', hm, w7⟩ := hN σ7 H7 n7
      refine ⟨m', hm, i + 1, σ7, H7, I7.unpinned, T.keep _ _ _ st5 fun b hb o e => (I7.pin (b, o) (List.mem_append_right _ (List.mem_append_right _ (mem_pinsAt hb e)))).1, fun b hb => ?_, w7⟩
      obtain ⟨o, e, d⟩ := T.obj _ _ st5 b hb
      exact (I7.pin (b, o) (List.mem_append_right _ (List.mem_append_right _ (mem_pinsAt hb e)))).2.1
    cases f with
    | next => obtain ⟨σ7, H7, I7, n7⟩ := q7; exact again I7 n7
    | cont => obtain ⟨σ7, H7, I7, n7⟩ := q7; exact again I7 n7
    | brk => obtain ⟨σ7, H7, I7, q7⟩ := q7; exact ⟨σ7, H7, I7.unpinned, q7⟩
    | ret v => obtain ⟨x7, σ7, H7, I7, r7, q7⟩ := q7; exact ⟨x7, σ7, H7, I7.unpinned, r7, q7⟩
end
/-! ### the forms one uses -/
/-- over a list that the body leaves as it is -/
theorem for_list {K : PySem.W.Frag} {a : Addr} {xs : List V} {g : TG} {tb : TS} {D : Ends} {σ : St} {H : Hp} (Pv : Nat → St → Hp → Prop) (h0 : Pv 0 σ H) (hl : ∀ i σ H, i ≤ xs.length → Pv i σ H → SqL K H a xs)
    (hs : ∀ i x σ H, xs[i]? = some x → Pv i σ H → g x σ H fun σ2 H2 => tb { D with nx := Pv (i + 1), ct := Pv (i + 1), bk := D.nx } σ2 H2) (hd : ∀ σ H, Pv xs.length σ H → D.nx σ H) :
    ∃ W : Nat → Nat → St → Hp → Prop, (∃ m, W 0 m σ H) ∧ ∀ i m σ H, W i m σ H →
      ((Itl K a).stop i H ∧ D.nx σ H) ∨ ((Itl K a).go i H ∧ ∃ N : St → Hp → Prop, (∀ σ' H', N σ' H' → ∃ m', m' < m ∧ W (i + 1) m' σ' H') ∧ ∀ x H', (Itl K a).yld i H x H' → g x σ H' fun σ2 H2 => tb { D with nx := N, ct := N, bk := D.nx } σ2 H2) := by
  refine ⟨fun i m σ H => m = xs.length - i ∧ i ≤ xs.length ∧ Pv i σ H, ⟨xs.length, by simp, Nat.zero_le _, h0⟩, ?_⟩
  rintro i m σ H ⟨rfl, hi, p⟩
  have q := hl i σ H hi p
  by_cases hlt : i < xs.length
  · refine .inr ⟨⟨xs, xs[i], q, by simp [hlt]⟩, Pv (i + 1), fun σ' H' p' => ⟨xs.length - (i + 1), by omega, rfl, hlt, p'⟩, fun x H' y => ?_⟩
    obtain ⟨e, y⟩ := y
    subst e
    exact hs i x σ _ (y xs q) p
  · have e : i = xs.length := by omega
    subst e
    exact .inl ⟨⟨xs, q, Nat.le_refl _⟩, hd σ H p⟩
theorem for_range {lo : Int} {n : Nat} {g : TG} {tb : TS} {D : Ends} {σ : St} {H : Hp} (Pv : Nat → St → Hp → Prop) (h0 : Pv 0 σ H)
    (hs : ∀ i σ H, i < n → Pv i σ H → g (.int (lo + i)) σ H fun σ2 H2 => tb { D with nx := Pv (i + 1), ct := Pv (i + 1), bk := D.nx } σ2 H2) (hd : ∀ σ H, Pv n σ H → D.nx σ H) :
    ∃ W : Nat → Nat → St → Hp → Prop, (∃ m, W 0 m σ H) ∧ ∀ i m σ H, W i m σ H →
      ((Itr lo n).stop i H ∧ D.nx σ H) ∨ ((Itr lo n).go i H ∧ ∃ N : St → Hp → Prop, (∀ σ' H', N σ' H' → ∃ m', m' < m ∧ W (i + 1) m' σ' H') ∧ ∀ x H', (Itr lo n).yld i H x H' → g x σ H' fun σ2 H2 => tb { D with nx := N, ct := N, bk := D.nx } σ2 H2) := by
  refine ⟨fun i m σ H => m = n - i ∧ i ≤ n ∧ Pv i σ H, ⟨n, by simp, Nat.zero_le _, h0⟩, ?_⟩
  rintro i m σ H ⟨rfl, hi, p⟩
  by_cases hlt : i < n
  · refine .inr ⟨hlt, Pv (i + 1), fun σ' H' p' => ⟨n - (i + 1), by omega, rfl, hlt, p'⟩, fun x H' y => ?_⟩
    obtain ⟨e, y⟩ := y
    subst e y
    exact hs i σ _ hlt p
  · have e : i = n := by omega
    subst e
    exact .inl ⟨Nat.le_refl _, hd σ H p⟩
/-- while, by a word and a measure of the state -/
theorem while_by {c : TT} {tb : TS} {D : Ends} {σ : St} {H : Hp} (Pv : St → Hp → Prop) (μ : St → Hp → Nat) (h0 : Pv σ H)
    (hs : ∀ σ H, Pv σ H → c σ H fun b H1 => if b = true then tb { D with nx := fun σ' H' => Pv σ' H' ∧ μ σ' H' < μ σ H, ct := fun σ' H' => Pv σ' H' ∧ μ σ' H' < μ σ H, bk := D.nx } σ H1 else D.nx σ H1)
    (mono : ∀ σ H Q Q', (∀ b H1, Q b H1 → Q' b H1) → c σ H Q → c σ H Q') : tWhile c tb D σ H := by
  refine ⟨fun m σ H => m = μ σ H ∧ Pv σ H, ⟨_, rfl, h0⟩, ?_⟩
  rintro m σ H ⟨rfl, p⟩
  refine mono σ H _ _ (fun b H1 q => ?_) (hs σ H p)
  cases b with
  | true => exact ⟨_, fun σ' H' ⟨p', l⟩ => ⟨_, l, rfl, p'⟩, q⟩
  | false => exact q
end L2
namespace L2
open PySem PySem.Spec PyProof.Rows
abbrev R2 := V → V → Hp → VK → Prop
/-- a two-place operation on values: f is binaryOp op, inplaceOp op or compareOp op -/
def OpR (X : Cx) (f : Value → Value → Sem Value) (r : R2) : Prop :=
  ∀ (pins : List (Addr × Obj)) (s : Shared) (σ : St) (H : Hp) (x y : V) (v u : Value) (Q : VK), Inv X pins σ H s → RelV x v → RelV y u → r x y H Q →
    wpAny (model X.prog X.w) X.A (f v u) (EP X pins σ Q) X.xe s
/-- a one-place operation -/
def UnR (X : Cx) (f : Value → Sem Value) (r : V → Hp → VK → Prop) : Prop :=
  ∀ (pins : List (Addr × Obj)) (s : Shared) (σ : St) (H : Hp) (x : V) (v : Value) (Q : VK), Inv X pins σ H s → RelV x v → r x H Q →
    wpAny (model X.prog X.w) X.A (f v) (EP X pins σ Q) X.xe s
/-- a call of a value that is known (a builtin, a type) with values -/
def CallR (X : Cx) (f : Value) (r : List V → Hp → VK → Prop) : Prop :=
  ∀ (pins : List (Addr × Obj)) (s : Shared) (σ : St) (H : Hp) (xs : List V) (us : List Value) (Q : VK), Inv X pins σ H s → Vals xs us → r xs H Q →
    wpAny (model X.prog X.w) X.A (call f us) (EP X pins σ Q) X.xe s
/-- a value's truth -/
def TruR (X : Cx) (r : V → Hp → (Bool → Hp → Prop) → Prop) : Prop :=
  ∀ (pins : List (Addr × Obj)) (s : Shared) (σ : St) (H : Hp) (x : V) (v : Value) (Q : Bool → Hp → Prop), Inv X pins σ H s → RelV x v → r x H Q →
    wpAny (model X.prog X.w) X.A (truthy v) (TP X pins σ Q) X.xe s

def tOp (r : R2) (ta tb : TE) : TE := fun σ H Q => ta σ H fun x H1 => tb σ H1 fun y H2 => r x y H2 Q
def tUn (r : V → Hp → VK → Prop) (ta : TE) : TE := fun σ H Q => ta σ H fun x H1 => r x H1 Q
/-- ints in, under C, and a value out -/
def rI (C : Int → Int → Prop) (g : Int → Int → V) : R2 := fun x y H Q => ∃ i j, x = .int i ∧ y = .int j ∧ C i j ∧ Q (g i j) H
def rI0 (g : Int → Int → V) : R2 := fun x y H Q => ∃ i j, x = .int i ∧ y = .int j ∧ Q (g i j) H
def rU (g : Int → V) : V → Hp → VK → Prop := fun x H Q => ∃ i, x = .int i ∧ Q (g i) H

section
variable {X : Cx} {a b c : Expr} {ta tb tc : TE} {pos : Pos}

theorem binT (ha : PE X a ta) (hb : PE X b tb) {pins : List (Addr × Obj)} {s : Shared} {σ : St} {H : Hp} {R : V → V → Hp → Prop} (I : Inv X pins σ H s)
    (h : ta σ H fun x H1 => tb σ H1 fun y H2 => R x y H2) {Q : Value → Shared → Prop} {f : Value → Value → Sem Value}
    (hf : ∀ v u s2 x y H2, Inv X pins σ H2 s2 → RelV x v → RelV y u → R x y H2 → wpAny (model X.prog X.w) X.A (f v u) Q X.xe s2) :
    wpAny (model X.prog X.w) X.A (eval a X.env) (fun v s₁ => wpAny (model X.prog X.w) X.A (eval b X.env) (fun u s₂ => wpAny (model X.prog X.w) X.A (f v u) Q X.xe s₂) X.xe s₁) X.xe s := by
  refine thn (ha pins s σ H _ I h) fun v s1 ⟨x, H1, I1, r1, q1⟩ => ?_
  refine thn (hb pins s1 σ H1 _ I1 q1) fun u s2 ⟨y, H2, I2, r2, q2⟩ => ?_
  exact hf v u s2 x y H2 I2 r1 r2 q2

theorem pe_op {op : Operator} {r : R2} (ho : OpR X (binaryOp op) r) (ha : PE X a ta) (hb : PE X b tb) : PE X (.BinOp a op b pos) (tOp r ta tb) := by
  intro pins s σ H Q I h
  exact wpAny_BinOp (binT ha hb I h fun v u s2 x y H2 I2 rx ry q => ho pins s2 σ H2 x y v u Q I2 rx ry q)
theorem pe_un {op : UnaryOp} {r : V → Hp → VK → Prop} (ho : UnR X (unaryOp op) r) (ha : PE X a ta) : PE X (.UnaryOp op a pos) (tUn r ta) := by
  intro pins s σ H Q I h
  exact UnaryOp_ (thn (ha pins s σ H _ I h) fun v s1 ⟨x, H1, I1, r1, q1⟩ => ho pins s1 σ H1 x v Q I1 r1 q1)
/-! ### ints -/
theorem opI {f : Value → Value → Sem Value} {C : Int → Int → Prop} {g : Int → Int → Int}
    (rule : ∀ (i j : Int) (t u : Tok) (s : Shared) (Q : Value → Shared → Prop) (E : Value → Shared → Prop), C i j → Q (.int (g i j) s.toks) { s with toks := s.toks + 1 } → wpAny (model X.prog X.w) X.A (f (.int i t) (.int j u)) Q E s) :
    OpR X f (rI C fun i j => .int (g i j)) := by
  intro pins s σ H x y v u Q I rx ry h
  obtain ⟨i, j, rfl, rfl, hc, q⟩ := h
  obtain ⟨t, rfl⟩ := rx
  obtain ⟨t', rfl⟩ := ry
  exact rule i j t t' s _ _ hc ⟨.int (g i j), H, I.tok _, ⟨_, rfl⟩, q⟩
theorem opI0 {f : Value → Value → Sem Value} {g : Int → Int → Int}
    (rule : ∀ (i j : Int) (t u : Tok) (s : Shared) (Q : Value → Shared → Prop) (E : Value → Shared → Prop), Q (.int (g i j) s.toks) { s with toks := s.toks + 1 } → wpAny (model X.prog X.w) X.A (f (.int i t) (.int j u)) Q E s) :
    OpR X f (rI0 fun i j => .int (g i j)) := by
  intro pins s σ H x y v u Q I rx ry h
  obtain ⟨i, j, rfl, rfl, q⟩ := h
  obtain ⟨t, rfl⟩ := rx
  obtain ⟨t', rfl⟩ := ry
  exact rule i j t t' s _ _ ⟨.int (g i j), H, I.tok _, ⟨_, rfl⟩, q⟩
theorem opB0 {f : Value → Value → Sem Value} {g : Int → Int → Bool}
    (rule : ∀ (i j : Int) (t u : Tok) (s : Shared) (Q : Value → Shared → Prop) (E : Value → Shared → Prop), Q (.bool (g i j)) s → wpAny (model X.prog X.w) X.A (f (.int i t) (.int j u)) Q E s) :
    OpR X f (rI0 fun i j => .bl (g i j)) := by
  intro pins s σ H x y v u Q I rx ry h
  obtain ⟨i, j, rfl, rfl, q⟩ := h
  obtain ⟨t, rfl⟩ := rx
  obtain ⟨t', rfl⟩ := ry
  exact rule i j t t' s _ _ ⟨.bl (g i j), H, I, rfl, q⟩

def CDiv (i j : Int) : Prop := 0 < j ∧ j < 1073741824
def CMul (i j : Int) : Prop := (-(2 ^ 64) < i ∧ i < 2 ^ 64) ∨ (-(2 ^ 64) < j ∧ j < 2 ^ 64)
theorem CMul.ok {i j : Int} (h : CMul i j) : IntMulOk i j := by
  rcases h with ⟨h1, h2⟩ | ⟨h1, h2⟩
  · exact .of_left (intBits_le_64 h1 h2)
  · exact .of_right (intBits_le_64 h1 h2)
theorem op_add : OpR X (binaryOp .Add) (rI0 fun i j => .int (i + j)) := opI0 fun _ _ _ _ _ _ _ q => add_int q
theorem op_sub : OpR X (binaryOp .Sub) (rI0 fun i j => .int (i - j)) := opI0 fun _ _ _ _ _ _ _ q => sub_int q
theorem op_mul : OpR X (binaryOp .Mult) (rI CMul fun i j => .int (i * j)) := opI fun _ _ _ _ _ _ _ hc q => mul_int q hc.ok
/-- // by a positive divisor -/
theorem op_fdiv : OpR X (binaryOp .FloorDiv) (rI CDiv fun i j => .int (i / j)) := opI fun i j _ _ _ _ _ hc q => by
  have h1 : (0 : Int) < j := hc.1
  have h2 : j < 1073741824 := hc.2
  exact floordiv_int (by omega) (by rw [Int.fdiv_eq_ediv_of_nonneg i (by omega)]; exact q) (.inl (PyProof.noPylong_small (by omega)))
/-- % by a positive divisor of any size -/
theorem op_mod : OpR X (binaryOp .Mod) (rI (fun _ j => 0 < j) fun i j => .int (i % j)) := opI fun i j _ _ _ _ _ hc q => by
  have h1 : (0 : Int) < j := hc
  exact mod_int' (by omega) (by rw [Int.fmod_eq_emod_of_nonneg i (by omega)]; exact q)
theorem op_and : OpR X (binaryOp .BitAnd) (rI0 fun i j => .int (Builtin.bitAnd i j)) := opI0 fun _ _ _ _ _ _ _ q => and_int q
theorem unI {f : Value → Sem Value} {g : Int → Int}
    (rule : ∀ (i : Int) (t : Tok) (s : Shared) (Q : Value → Shared → Prop) (E : Value → Shared → Prop), Q (.int (g i) s.toks) { s with toks := s.toks + 1 } → wpAny (model X.prog X.w) X.A (f (.int i t)) Q E s) :
    UnR X f (rU fun i => .int (g i)) := by
  intro pins s σ H x v Q I rx h
  obtain ⟨i, rfl, q⟩ := h
  obtain ⟨t, rfl⟩ := rx
  exact rule i t s _ _ ⟨.int (g i), H, I.tok _, ⟨_, rfl⟩, q⟩
theorem un_neg : UnR X (unaryOp .USub) (rU fun i => .int (-i)) := unI fun _ _ _ _ _ q => neg_int q
end
/-! ### comparisons -/
/-- the scalars that == tells apart as data does -/
def scal : V → V → Bool
  | .non, .non => true | .non, .int _ => true | .int _, .non => true | .non, .bl _ => true | .bl _, .non => true | .non, .str _ => true | .str _, .non => true
  | .int _, .int _ => true | .bl _, .bl _ => true | .str _, .str _ => true | .byt _, .byt _ => true
  | .int _, .str _ => true | .str _, .int _ => true | .bl _, .str _ => true | .str _, .bl _ => true
  | _, _ => false
def rEq : R2 := fun x y H Q => scal x y = true ∧ Q (.bl (decide (x = y))) H
def rNe : R2 := fun x y H Q => scal x y = true ∧ Q (.bl (!decide (x = y))) H

theorem dec_int {i j : Int} : decide (V.int i = V.int j) = (i == j) := by
  rw [Bool.eq_iff_iff]
  simp
theorem dec_bl {i j : Bool} : decide (V.bl i = V.bl j) = (i == j) := by
  rw [Bool.eq_iff_iff]
  simp
theorem dec_str {i j : Str} : decide (V.str i = V.str j) = (i == j) := by
  rw [Bool.eq_iff_iff]
  simp
theorem dec_byt {i j : Array UInt8} : decide (V.byt i = V.byt j) = (i.toList == j.toList) := by
  rw [Bool.eq_iff_iff]
  cases i
  cases j
  simp

section
variable {X : Cx} {a b c : Expr} {ta tb tc : TE} {pos : Pos}
theorem fin_bl {pins : List (Addr × Obj)} {σ : St} {H : Hp} {s : Shared} {Q : VK} {k k' : Bool} (I : Inv X pins σ H s) (q : Q (.bl k) H) (e : k = k') : EP X pins σ Q (.bool k') s := by
  subst e
  exact ⟨.bl k, H, I, rfl, q⟩
theorem op_eq : OpR X (compareOp .Eq) rEq := by
  intro pins s σ H x y v u Q I rx ry h
  obtain ⟨hs, q⟩ := h
  cases x with
  | non =>
    cases rx
    cases y with
    | non => cases ry; exact PySem.EqNone.eq_none_none (fin_bl I q (by simp))
    | bl j => cases ry; exact PySem.EqNone.eq_none_bool (fin_bl I q (by simp))
    | int j => obtain ⟨t', rfl⟩ := ry; exact PySem.EqNone.eq_none_int (fin_bl I q (by simp))
    | str j => obtain ⟨t', rfl⟩ := ry; exact PySem.EqNone.eq_none_str (fin_bl I q (by simp))
    | _ => exact absurd (show false = true from hs) Bool.false_ne_true
  | bl i =>
    cases rx
    cases y with
    | non => cases ry; exact PySem.EqNone.eq_bool_none (fin_bl I q (by simp))
    | bl j => cases ry; exact eq_bool (fin_bl I q dec_bl)
    | str j => obtain ⟨t', rfl⟩ := ry; exact PySem.EqMixed.eq_bool_str (fin_bl I q (by simp))
    | _ => exact absurd (show false = true from hs) Bool.false_ne_true
  | int i =>
    obtain ⟨t, rfl⟩ := rx
    cases y with
    | non => cases ry; exact PySem.EqNone.eq_int_none (fin_bl I q (by simp))
    | int j => obtain ⟨t', rfl⟩ := ry; exact eq_int (fin_bl I q dec_int)
    | str j => obtain ⟨t', rfl⟩ := ry; exact PySem.EqMixed.eq_int_str (fin_bl I q (by simp))
    | _ => exact absurd (show false = true from hs) Bool.false_ne_true
  | str i =>
    obtain ⟨t, rfl⟩ := rx
    cases y with
    | non => cases ry; exact PySem.EqNone.eq_str_none (fin_bl I q (by simp))
    | bl j => cases ry; exact PySem.EqMixed.eq_str_bool (fin_bl I q (by simp))
    | int j => obtain ⟨t', rfl⟩ := ry; exact PySem.EqMixed.eq_str_int (fin_bl I q (by simp))
    | str j => obtain ⟨t', rfl⟩ := ry; exact eq_str (fin_bl I q dec_str)
    | _ => exact absurd (show false = true from hs) Bool.false_ne_true
  | byt i =>
    obtain ⟨t, rfl⟩ := rx
    cases y with
    | byt j => obtain ⟨t', rfl⟩ := ry; exact PySem.W.eq_bytes (fin_bl I q dec_byt)
    | _ => exact absurd (show false = true from hs) Bool.false_ne_true
  | _ => cases y <;> exact absurd (show false = true from hs) Bool.false_ne_true
theorem op_ne : OpR X (compareOp .NotEq) rNe := by
  intro pins s σ H x y v u Q I rx ry h
  obtain ⟨hs, q⟩ := h
  cases x with
  | non =>
    cases rx
    cases y with
    | non => cases ry; exact PySem.EqNone.ne_none_none (fin_bl I q (by simp))
    | bl j => cases ry; exact PySem.EqNone.ne_none_bool (fin_bl I q (by simp))
    | int j => obtain ⟨t', rfl⟩ := ry; exact PySem.EqNone.ne_none_int (fin_bl I q (by simp))
    | str j => obtain ⟨t', rfl⟩ := ry; exact PySem.EqNone.ne_none_str (fin_bl I q (by simp))
    | _ => exact absurd (show false = true from hs) Bool.false_ne_true
  | bl i =>
    cases rx
    cases y with
    | non => cases ry; exact PySem.EqNone.ne_bool_none (fin_bl I q (by simp))
    | bl j => cases ry; exact ne_bool (fin_bl I q (congrArg not dec_bl))
    | str j => obtain ⟨t', rfl⟩ := ry; exact PySem.EqMixed.ne_bool_str (fin_bl I q (by simp))
    | _ => exact absurd (show false = true from hs) Bool.false_ne_true
  | int i =>
    obtain ⟨t, rfl⟩ := rx
    cases y with
    | non => cases ry; exact PySem.EqNone.ne_int_none (fin_bl I q (by simp))
    | int j => obtain ⟨t', rfl⟩ := ry; exact ne_int (fin_bl I q (congrArg not dec_int))
    | str j => obtain ⟨t', rfl⟩ := ry; exact PySem.EqMixed.ne_int_str (fin_bl I q (by simp))
    | _ => exact absurd (show false = true from hs) Bool.false_ne_true
  | str i =>
    obtain ⟨t, rfl⟩ := rx
    cases y with
    | non => cases ry; exact PySem.EqNone.ne_str_none (fin_bl I q (by simp))
    | bl j => cases ry; exact PySem.EqMixed.ne_str_bool (fin_bl I q (by simp))
    | int j => obtain ⟨t', rfl⟩ := ry; exact PySem.EqMixed.ne_str_int (fin_bl I q (by simp))
    | str j => obtain ⟨t', rfl⟩ := ry; exact ne_str (fin_bl I q (congrArg not dec_str))
    | _ => exact absurd (show false = true from hs) Bool.false_ne_true
  | byt i =>
    obtain ⟨t, rfl⟩ := rx
    cases y with
    | byt j => obtain ⟨t', rfl⟩ := ry; exact PySem.W.ne_bytes (fin_bl I q (congrArg not dec_byt))
    | _ => exact absurd (show false = true from hs) Bool.false_ne_true
  | _ => cases y <;> exact absurd (show false = true from hs) Bool.false_ne_true

theorem op_lt : OpR X (compareOp .Lt) (rI0 fun i j => .bl (decide (i < j))) := opB0 fun _ _ _ _ _ _ _ q => lt_int q
theorem op_le : OpR X (compareOp .LtE) (rI0 fun i j => .bl (decide (i ≤ j))) := opB0 fun _ _ _ _ _ _ _ q => le_int q
theorem op_gt : OpR X (compareOp .Gt) (rI0 fun i j => .bl (decide (j < i))) := opB0 fun _ _ _ _ _ _ _ q => gt_int q
theorem op_ge : OpR X (compareOp .GtE) (rI0 fun i j => .bl (decide (j ≤ i))) := opB0 fun _ _ _ _ _ _ _ q => ge_int q
/-- two rules for one operation: by cases -/
theorem OpR.or {f : Value → Value → Sem Value} {r r' : R2} (h : OpR X f r) (h' : OpR X f r') : OpR X f (fun x y H Q => r x y H Q ∨ r' x y H Q) := by
  intro pins s σ H x y v u Q I rx ry q
  rcases q with q | q
  · exact h pins s σ H x y v u Q I rx ry q
  · exact h' pins s σ H x y v u Q I rx ry q

theorem nomark (b : Expr) {op : CmpOp} (h : op ≠ .In := by decide) (h2 : op ≠ .NotIn := by decide) : behindInMarks op b = false := by
  have e1 : (op == CmpOp.In) = false := by cases op <;> first | rfl | exact absurd rfl h
  have e2 : (op == CmpOp.NotIn) = false := by cases op <;> first | rfl | exact absurd rfl h2
  cases b <;> simp [behindInMarks, e1, e2]
/-- a comparison as a value; hm: nomark b, or (for in, not in) by with_unfolding_all rfl -/
theorem pe_cmpR {op : CmpOp} {r : R2} (ho : OpR X (compareOp op) r) (ha : PE X a ta) (hb : PE X b tb) (hm : behindInMarks op b = false) : PE X (.Compare a [op] [b] pos) (tOp r ta tb) := by
  intro pins s σ H Q I h
  exact wpAny_Compare1 (binT ha hb I h fun v u s2 x y H2 I2 rx ry q => ho pins s2 σ H2 x y v u Q I2 rx ry q) hm
/-- a reading of a value as a test -/
def tTest (t : TE) : TT := fun σ H Q => t σ H fun x H' => ∃ k, x = .bl k ∧ Q k H'
theorem pt_cmpR {op : CmpOp} {r : R2} (ho : OpR X (compareOp op) r) (ha : PE X a ta) (hb : PE X b tb) (hm : behindInMarks op b = false) : PT X (.Compare a [op] [b] pos) (tTest (tOp r ta tb)) := by
  intro pins s σ H Q I h
  refine wpAny_isTrue_Compare1 (thn (ha pins s σ H _ I h) fun v s1 ⟨x, H1, I1, r1, q1⟩ => thn (hb pins s1 σ H1 _ I1 q1) fun u s2 ⟨y, H2, I2, r2, q2⟩ =>
    thn (ho pins s2 σ H2 x y v u _ I2 r1 r2 q2) fun c s3 ⟨z, H3, I3, r3, k, e, q3⟩ => ?_) hm
  subst e
  cases r3
  exact wpAny_truthy_bool ⟨H3, I3, q3⟩
/-! ### truth -/
/-- a value's truth by the abstract heap -/
def TruV (K : PySem.W.Frag) (x : V) (H : Hp) (k : Bool) : Prop :=
  match x with
  | .non => k = false
  | .bl b => k = b
  | .int i => k = (i != 0)
  | .str y => y.length ≤ sizeLine ∧ k = ((y.length : Int) != 0)
  | .byt y => y.size ≤ sizeLine ∧ k = ((y.size : Int) != 0)
  | .ref p => (∃ xs, SqL K H p xs ∧ k = !xs.isEmpty) ∨ (∃ xs, SqT K H p xs ∧ k = !xs.isEmpty) ∨ ∃ kvs, H p = some (.dK kvs) ∧ k = !kvs.isEmpty
  | _ => False
theorem isEmpty_kv {κ : Type} {kvs : List (κ × V)} {vs : List (κ × Value)} (r : KV kvs vs) : (!vs.isEmpty) = !kvs.isEmpty := by
  cases r <;> rfl
theorem isEmpty_of {xs : List V} {its : List Value} (r : Vals xs its) : (!its.toArray.isEmpty) = !xs.isEmpty := by
  cases r <;> simp
theorem line63 : (sizeLine : Nat) < 2 ^ 63 := by rw [sizeLine_eq]; decide
theorem tru_ok : TruR X (fun x H Q => ∃ k, TruV X.K x H k ∧ Q k H) := by
  intro pins s σ H x v Q I rx h
  obtain ⟨k, e, q⟩ := h
  have hl := line63
  have hs : sizeLine = 16777216 := sizeLine_eq
  cases x with
  | non =>
    cases rx
    have e' : k = false := e
    subst e'
    exact truthy_none ⟨H, I, q⟩
  | bl b =>
    cases rx
    have e' : k = b := e
    subst e'
    exact wpAny_truthy_bool ⟨H, I, q⟩
  | int i =>
    obtain ⟨t, rfl⟩ := rx
    have e' : k = (i != 0) := e
    subst e'
    exact PySem.P.truthy_int ⟨H, I, q⟩
  | str y =>
    obtain ⟨t, rfl⟩ := rx
    obtain ⟨hy, e'⟩ : y.length ≤ sizeLine ∧ k = ((y.length : Int) != 0) := e
    subst e'
    exact PySem.P.truthy_str (by omega) ⟨H, I.tok _, q⟩
  | byt y =>
    obtain ⟨t, rfl⟩ := rx
    obtain ⟨hy, e'⟩ : y.size ≤ sizeLine ∧ k = ((y.size : Int) != 0) := e
    subst e'
    exact PySem.W.truthy_bytes (by omega) ⟨H, I.tok _, q⟩
  | ref p =>
    cases rx
    have e' : (∃ xs, SqL X.K H p xs ∧ k = !xs.isEmpty) ∨ (∃ xs, SqT X.K H p xs ∧ k = !xs.isEmpty) ∨ ∃ kvs, H p = some (.dK kvs) ∧ k = !kvs.isEmpty := e
    rcases e' with ⟨xs, hx, e'⟩ | ⟨xs, hx, e'⟩ | ⟨kvs, hx, e'⟩
    · subst e'
      obtain ⟨its, r, pl, hz⟩ := I.list hx
      have hlen := r.length
      exact wpAny_truthy_list pl.isList (by simp only [List.size_toArray]; omega) ⟨H, I.tok _, by rw [isEmpty_of r]; exact q⟩
    · subst e'
      obtain ⟨its, r, pl, hz⟩ := I.tuple hx
      have hlen := r.length
      exact truthy_tuple pl (by simp only [List.size_toArray]; omega) ⟨H, I.tok _, by rw [isEmpty_of r]; exact q⟩
    · subst e'
      obtain ⟨hz, hS, vs, r, m⟩ : kvs.length ≤ sizeLine ∧ (p == sysModules) = false ∧ ∃ vs, KV kvs vs ∧ s.heap.DictOf (mixKind X.prog X.w) p vs := I.hok p _ hx
      have hlen : kvs.length = vs.length := Paired.length r
      exact wpAny_truthy_dict hS m (by omega) ⟨H, I.tok _, by rw [isEmpty_kv r]; exact q⟩
  | _ => exact (show False from e).elim
/-- any expression whose test is its value's truth (a name, a call, a subscript, a field ..: he by fun _ => rfl) -/
theorem pt_truth (ha : PE X a ta) (he : ∀ whole, isTrue a X.env whole = (do let v ← whole; standAt a.pos; holding [v] (truthy v))) :
    PT X a (fun σ H Q => ta σ H fun x H' => ∃ k, TruV X.K x H' k ∧ Q k H') := by
  intro pins s σ H Q I h
  exact isTrue_plain (thn (ha pins s σ H _ I h) fun v s1 ⟨x, H1, I1, r1, q1⟩ => tru_ok pins s1 σ H1 x v Q I1 r1 q1) (he _)

/-! ### scalar builtins, by CallR -/
theorem vals1 {x : V} {us : List Value} (r : Vals [x] us) : ∃ u, us = [u] ∧ RelV x u := by
  cases r with
  | cons r1 r2 => cases r2; exact ⟨_, rfl, r1⟩
theorem vals2 {x y : V} {us : List Value} (r : Vals [x, y] us) : ∃ u w', us = [u, w'] ∧ RelV x u ∧ RelV y w' := by
  cases r with
  | cons r1 r2 =>
    cases r2 with
    | cons r3 r4 => cases r4; exact ⟨_, _, rfl, r1, r3⟩
theorem call_max2 (hc : X.calm = true) : CallR X (.builtin "max") (fun xs H Q => ∃ i j, xs = [.int i, .int j] ∧ Q (.int (if j > i then j else i)) H) := by
  intro pins s σ H xs us Q I r h
  obtain ⟨i, j, rfl, q⟩ := h
  obtain ⟨u, w', rfl, ⟨t, rfl⟩, ⟨t', rfl⟩⟩ := vals2 r
  refine max_two_ints (I.ok.hd hc) fun h' tk k => ⟨_, H, I.kept k, ?_, q⟩
  by_cases hj : j > i
  · rw [if_pos hj, if_pos hj]; exact ⟨_, rfl⟩
  · rw [if_neg hj, if_neg hj]; exact ⟨_, rfl⟩
theorem call_min2 (hc : X.calm = true) : CallR X (.builtin "min") (fun xs H Q => ∃ i j, xs = [.int i, .int j] ∧ Q (.int (if j < i then j else i)) H) := by
  intro pins s σ H xs us Q I r h
  obtain ⟨i, j, rfl, q⟩ := h
  obtain ⟨u, w', rfl, ⟨t, rfl⟩, ⟨t', rfl⟩⟩ := vals2 r
  refine min_two_ints (I.ok.hd hc) fun h' tk k => ⟨_, H, I.kept k, ?_, q⟩
  by_cases hj : j < i
  · rw [if_pos hj, if_pos hj]; exact ⟨_, rfl⟩
  · rw [if_neg hj, if_neg hj]; exact ⟨_, rfl⟩
end
end L2
namespace L2
open PySem PySem.Spec PyProof.Rows
/-! ### an instance, its attributes a map -/
structure ObjM (h : Heap) (x dx C : Addr) (mA : Str → Option Value) : Prop where
  obj : h.get? x = some (PySem.W.instObj C dx)
  ns : h.Ns1 dx mA
  ne : dx ≠ x

theorem lookIn_ns {h : Heap} {dx : Addr} {mA : Str → Option Value} (n : h.Ns1 dx mA) : ∃ od, h.get? dx = some od ∧ ∀ name, PySem.W.lookIn name od = some (mA name) := by
  obtain ⟨o, es, ep, ho, hd, hk, _, hm⟩ := n
  refine ⟨o, ho, fun name => ?_⟩
  have e := hm name
  unfold nsFind findBy at e
  rw [← Array.find?_toList] at e
  unfold PySem.W.lookIn
  rw [hd]
  dsimp only
  split
  · rename_i y q
    rw [q] at e
    exact congrArg some e
  · rename_i q
    rw [q] at e
    have a : es.toList.any (·.refKey) = false := by
      rw [List.any_eq_false]
      intro y hy
      obtain ⟨z, t, hkey⟩ := hk y (Array.mem_toList_iff.mp hy)
      simp [DictEntry.refKey, hkey]
    have a' : ¬ es.toList.any (·.refKey) = true := by rw [a]; exact Bool.false_ne_true
    rw [if_neg a']
    exact congrArg some e

theorem ObjM.look {h : Heap} {x dx C : Addr} {mA : Str → Option Value} (I : ObjM h x dx C mA) : ∃ od, PySem.W.InstAt h x (PySem.W.instObj C dx) C (some od) ∧ ∀ name, PySem.W.lookIn name od = some (mA name) :=
  let ⟨od, ho, hl⟩ := lookIn_ns I.ns
  ⟨od, ⟨I.obj, rfl, rfl, ho⟩, hl⟩

section
variable {prog : Program} {w : World} {A : Around} {E : Value → Shared → Prop} {s : Shared} {K : PySem.W.Frag} {x dx C f : Addr} {mA : Str → Option Value} {name : Str} {v : Value}

theorem get_map {expr : Bool} {Q : Value → Shared → Prop} (X : K.In s.heap) (I : ObjM s.heap x dx C mA) (hg : PySem.W.plainGet K C name = true) (hh : PySem.W.hasDictIn K C = true)
    (ha : PySem.W.findIn K (.ref C) name = some none) (hv : mA name = some v) (hv' : PySem.W.handedIn v = true) (h : Q v { s with toks := s.toks + 1 }) :
    wpAny (model prog w) A (getAttr (.ref x) name expr) Q E s := by
  obtain ⟨od, J, hl⟩ := I.look
  exact PySem.W.get_value X J (PySem.W.plainGet_of hg).1 (PySem.W.findObj_own hh ha rfl (by rw [hl, hv])) hv' h

theorem get_meth {pl : Sem Bool} {Q : Value × List Value → Shared → Prop} (X : K.In s.heap) (I : ObjM s.heap x dx C mA) (hg : PySem.W.plainGet K C name = true)
    (hf : PySem.W.findIn K (.ref C) name = some (some (.ref f))) (ht : PySem.W.isFn K (.ref f) = true) (hv : mA name = none) (h : Q (.ref f, [.ref x]) s) :
    wpAny (model prog w) A (getMethod (.ref x) name pl) Q E s := by
  obtain ⟨od, J, hl⟩ := I.look
  exact PySem.W.method_fn X J (PySem.W.plainGet_of hg).1 (PySem.W.plainGet_of hg).2 hf (beq_iff_eq.mp ht) (by show (PySem.W.lookIn name od).map (·.isSome) = some false; rw [hl, hv]; rfl) h

theorem set_map {ns : List Str} {Q : Unit → Shared → Prop} (X : K.In s.heap) (I : ObjM s.heap x dx C mA)
    (hs : PySem.W.findIn K (.ref C) "__setattr__" = some (some (.builtin "object.__setattr__"))) (hp : PySem.W.plainOver K C = true) (ht : PySem.W.takerIn K C name = some none) (hh : PySem.W.hasDictIn K C = true)
    (hw : PySem.Within mA ns) (hsz : ns.length ≤ sizeLine)
    (h : ∀ h', ObjM h' x dx C (fun y => if y = name then some v else mA y) → Heap.SameBut dx s.heap h' → Q () { s with heap := h', toks := s.toks + 2 }) :
    wpAny (model prog w) A (setAttr (.ref x) name v) Q E s := by
  obtain ⟨od, J, hl⟩ := I.look
  refine PySem.W.set_plain X J hs (PySem.W.osa_open (s := { s with toks := s.toks + 1 }) (r := none) X J hp ht fun b => ?_)
  obtain ⟨cd, hc, hd'⟩ := PySem.W.any_some hh
  have hx : s.heap.get? x = some ⟨.ref C, some dx, .plain, #[]⟩ := I.obj
  refine wpAny_bind (wpAny_pure (wpAny_bind (wpAny_bind (wpAny_loadPart hx (wpAny_bind (PySem.W.Looks.here (s := { s with toks := s.toks + 1 }) (PySem.W.looks_clsIn X hc) ?_))))))
  rw [hd']
  refine wpAny_pure (a := some dx) (wpAny_bind (wpAny_pure (wpAny_bind ?_)))
  refine wpAny_nsSet1 (s := { s with toks := s.toks + 1 }) I.ns fun h' hn2 hs2 => ?_
  obtain ⟨oD, esD, epD, hoD, hdD, hcD⟩ := hn2.count (PySem.Within.cons name v hw)
  refine wpAny_bind (wpAny_lookBehind hoD (by rw [hdD]; exact pastItsLine_dict (Nat.le_trans hcD (by rw [List.length_cons]; omega))) ?_)
  exact wpAny_pure (h _ ⟨(hs2.2 _ (Ne.symm I.ne)).trans I.obj, hn2, I.ne⟩ hs2)

/-- C(..): the dict at the heap's end, the instance behind it; then its __init__ -/
theorem make_map {R : Result → Shared → Prop} {vs : List Value} {kw : List (Str × Value)} (X : K.In s.heap) (hm : PySem.W.makesIn K C = true)
    (hi : PySem.W.findIn K (.ref C) "__init__" = some (some (.ref f))) (hf : PySem.W.typeIn K (.ref f) = some (.type "function"))
    (h : codeAny (model prog w) (A.under (.builtin "type.__call__" ⟨.ref C :: vs, kw⟩)) (.call (.ref f) ⟨.ref (s.heap.objs.size + 1) :: vs, kw⟩) (PySem.W.InitBack (s.heap.objs.size + 1) R)
      { s with heap := (s.heap.push PySem.W.emptyDict).push (PySem.W.instObj C s.heap.objs.size) }) :
    codeAny (model prog w) A (.call (.ref C) ⟨vs, kw⟩) R s := by
  obtain ⟨hh, g, d, t, os⟩ := s
  exact PySem.W.make_core (PySem.W.makes_of X hm) (PySem.W.looks_findIn X hi) (fun self => PySem.W.bind_fn X self hf) (.inl rfl) h
end
/-! ### the attributes as a list of pairs -/
def putF (f : Str) (v : V) : List (Str × V) → List (Str × V)
  | [] => [(f, v)]
  | (g, x) :: r => if g = f then (g, v) :: r else (g, x) :: putF f v r
theorem lookup_putF (f g : Str) (v : V) : ∀ fs : List (Str × V), (putF f v fs).lookup g = if g = f then some v else fs.lookup g
  | [] => by
    show List.lookup g [(f, v)] = _
    by_cases h : g = f
    · have hb : (g == f) = true := beq_iff_eq.mpr h
      simp only [List.lookup, hb, if_pos h]
    · have hb : (g == f) = false := beq_eq_false_iff_ne.mpr h
      simp only [List.lookup, hb, if_neg h]
  | (k, x) :: r => by
    have ih := lookup_putF f g v r
    rw [show putF f v ((k, x) :: r) = (if k = f then (k, v) :: r else (k, x) :: putF f v r) from rfl]
    by_cases hk : k = f
    · rw [if_pos hk]
      by_cases h : g = k
      · have hb : (g == k) = true := beq_iff_eq.mpr h
        simp only [List.lookup, hb, if_pos (h.trans hk)]
      · have hb : (g == k) = false := beq_eq_false_iff_ne.mpr h
        simp only [List.lookup, hb, if_neg (fun e : g = f => h (e.trans hk.symm))]
    · rw [if_neg hk]
      by_cases h : g = k
      · have hb : (g == k) = true := beq_iff_eq.mpr h
        simp only [List.lookup, hb, if_neg (fun e : g = f => hk (h.symm.trans e))]
      · have hb : (g == k) = false := beq_eq_false_iff_ne.mpr h
        simp only [List.lookup, hb]
        exact ih
theorem keys_putF (f : Str) (v : V) : ∀ fs : List (Str × V), f ∈ (putF f v fs).map (·.1) ∧ ∀ g, g ∈ fs.map (·.1) → g ∈ (putF f v fs).map (·.1)
  | [] => ⟨by simp [putF], fun g h => by simp at h⟩
  | (k, x) :: r => by
    obtain ⟨i1, i2⟩ := keys_putF f v r
    rw [show putF f v ((k, x) :: r) = (if k = f then (k, v) :: r else (k, x) :: putF f v r) from rfl]
    by_cases hk : k = f
    · rw [if_pos hk]
      subst hk
      exact ⟨by simp, fun g h => by simpa using h⟩
    · rw [if_neg hk]
      refine ⟨?_, fun g h => ?_⟩
      · rw [List.map_cons]
        exact List.mem_cons_of_mem _ i1
      · rw [List.map_cons] at h ⊢
        rcases List.mem_cons.mp h with e | e
        · exact List.mem_cons.mpr (.inl e)
        · exact List.mem_cons_of_mem _ (i2 g e)
theorem length_putF (f : Str) (v : V) : ∀ fs : List (Str × V), (putF f v fs).length ≤ fs.length + 1
  | [] => by simp [putF]
  | (k, x) :: r => by
    have ih := length_putF f v r
    rw [show putF f v ((k, x) :: r) = (if k = f then (k, v) :: r else (k, x) :: putF f v r) from rfl]
    by_cases hk : k = f
    · rw [if_pos hk, List.length_cons, List.length_cons]; omega
    · rw [if_neg hk, List.length_cons, List.length_cons]; omega

theorem RelO.some_of {v : V} {o : Option Value} (r : RelO (some v) o) : ∃ u, o = some u ∧ RelV v u := by
  cases o with
  | none => exact (show False from r).elim
  | some u => exact ⟨u, rfl, r⟩
theorem RelO.none_of {o : Option Value} (r : RelO none o) : o = none := by
  cases o with
  | none => rfl
  | some u => exact (show False from r).elim
theorem handed_of {v : V} {u : Value} (r : RelV v u) : PySem.W.handedIn u = true := by
  cases v with
  | non => cases (show u = Value.none from r); rfl
  | bl b => cases (show u = Value.bool b from r); rfl
  | int i => obtain ⟨t, e⟩ := (show ∃ t, u = Value.int i t from r); cases e; rfl
  | str x => obtain ⟨t, e⟩ := (show ∃ t, u = Value.str x t from r); cases e; rfl
  | byt b => obtain ⟨t, e⟩ := (show ∃ t, u = Value.bytes b t from r); cases e; rfl
  | flt b => obtain ⟨t, e⟩ := (show ∃ t, u = Value.float b t from r); cases e; rfl
  | ref a => cases (show u = Value.ref a from r); rfl
  | ty n => cases (show u = Value.type n from r); rfl

section
variable {P : Program} {w : World} {H H' : Hp} {h h' : Heap} {a C dx : Addr} {fs fs' : List (Str × V)}
theorem ins_get (hok : HOk P w H h) (e : H a = some (.ins C dx fs)) : ∃ mA, ObjM h a dx C mA ∧ (∀ f, RelO (fs.lookup f) (mA f)) ∧ PySem.Within mA (fs.map (·.1)) ∧ fs.length ≤ 1000 ∧ H dx = some (.own a) := by
  obtain ⟨d, z, ne, ob, mA, n, r, q⟩ := (show ObjOk P w H h a (.ins C dx fs) from hok a _ e)
  exact ⟨mA, ⟨ob, n, ne⟩, r, q, z, d⟩
end
/-! ### what of the text a class must have -/
structure Cls (K : PySem.W.Frag) (C : Addr) : Prop where
  pg : PySem.W.plainGet K C Str.empty = true
  hd : PySem.W.hasDictIn K C = true
  po : PySem.W.plainOver K C = true
  sa : PySem.W.findIn K (.ref C) "__setattr__" = some (some (.builtin "object.__setattr__"))
theorem Cls.get {K : PySem.W.Frag} {C : Addr} (c : Cls K C) (f : Str) : PySem.W.plainGet K C f = true := c.pg
/-- no class of it has the name -/
def NoAttr (K : PySem.W.Frag) (C : Addr) (f : Str) : Prop := PySem.W.findIn K (.ref C) f = some none
theorem NoAttr.taker {K : PySem.W.Frag} {C : Addr} {f : Str} (n : NoAttr K C f) : PySem.W.takerIn K C f = some none := by
  unfold PySem.W.takerIn
  rw [show PySem.W.findIn K (.ref C) f = some none from n]
  rfl
/-- a method: a plain def of the class or of one above it -/
structure Meth (K : PySem.W.Frag) (C : Addr) (m : Str) (f : Addr) : Prop where
  at_ : PySem.W.findIn K (.ref C) m = some (some (.ref f))
  fn : PySem.W.isFn K (.ref f) = true
  kp : PySem.W.keepIn K (.ref f) = true

section
variable {X : Cx} {pins : List (Addr × Obj)} {σ : St} {H : Hp} {s : Shared} {a C dx : Addr} {fs : List (Str × V)} {f : Str} {v : V} {A : Around} {E : Value → Shared → Prop}

theorem getattr_ok {b : Bool} {Q : Value → Shared → Prop} (I : Inv X pins σ H s) (e : H a = some (.ins C dx fs)) (c : Cls X.K C) (n : NoAttr X.K C f) (l : fs.lookup f = some v)
    (h : ∀ u s', Inv X pins σ H s' → RelV v u → Q u s') : wpAny (model X.prog X.w) A (getAttr (.ref a) f b) Q E s := by
  obtain ⟨mA, O, r, _, _, _⟩ := ins_get I.hok e
  obtain ⟨u, hu, ru⟩ := RelO.some_of (v := v) (o := mA f) (by rw [← l]; exact r f)
  exact get_map I.kIn O (c.get f) c.hd n hu (handed_of ru) (h u _ (I.tok _) ru)

theorem getmeth_ok {m : Str} {g : Addr} {pl : Sem Bool} {Q : Value × List Value → Shared → Prop} (I : Inv X pins σ H s) (e : H a = some (.ins C dx fs)) (c : Cls X.K C) (k : Meth X.K C m g) (l : fs.lookup m = none)
    (h : Q (.ref g, [.ref a]) s) : wpAny (model X.prog X.w) A (getMethod (.ref a) m pl) Q E s := by
  obtain ⟨mA, O, r, _, _, _⟩ := ins_get I.hok e
  have hn : mA m = none := RelO.none_of (by rw [← l]; exact r m)
  exact get_meth I.kIn O (c.get m) k.at_ k.fn hn h

theorem setattr_ok {y : V} {u : Value} {Q : Unit → Shared → Prop} (I : Inv X pins σ H s) (e : H a = some (.ins C dx fs)) (c : Cls X.K C) (n : NoAttr X.K C f) (hl : fs.length < 1000) (ry : RelV y u)
    (h : ∀ s', Inv X pins σ (upd H a (.ins C dx (putF f y fs))) s' → Q () s') : wpAny (model X.prog X.w) A (setAttr (.ref a) f u) Q E s := by
  obtain ⟨mA, O, r, wi, _, ho⟩ := ins_get I.hok e
  have hz : (fs.map (·.1)).length ≤ sizeLine := by rw [List.length_map, sizeLine_eq]; omega
  refine set_map I.kIn O c.sa c.po n.taker c.hd wi hz fun h' O' sb => h _ ?_
  have hd : ∃ o, h'.get? dx = some o := let ⟨o, _, _, e', _⟩ := O'.ns; ⟨o, e'⟩
  refine I.write (x := a) (e := dx) (by rw [e]; exact True.intro) (.inr ho) (fun b q hb z => (sb.2 b hb).trans z) hd ?_
  refine ⟨by rw [upd_ne O.ne]; exact ho, ?_, O.ne, O'.obj, _, O'.ns, fun g => ?_, fun g hg => ?_⟩
  · have := length_putF f y fs; omega
  · show RelO ((putF f y fs).lookup g) (if g = f then some u else mA g)
    rw [lookup_putF]
    by_cases q : g = f
    · rw [if_pos q, if_pos q]; exact ry
    · rw [if_neg q, if_neg q]; exact r g
  · by_cases q : g = f
    · rw [q]; exact (keys_putF f y fs).1
    · refine (keys_putF f y fs).2 g (wi g fun z => hg ?_)
      show (if g = f then some u else mA g) = none
      rw [if_neg q]; exact z

/-- a new instance, tracked, without attributes -/
theorem Inv.made (I : Inv X pins σ H s) : Inv X pins σ (upd (upd H s.heap.objs.size (.own (s.heap.objs.size + 1))) (s.heap.objs.size + 1) (.ins C s.heap.objs.size []))
    { s with heap := (s.heap.push PySem.W.emptyDict).push (PySem.W.instObj C s.heap.objs.size) } := by
  have e1 : (s.heap.push PySem.W.emptyDict).get? s.heap.objs.size = some PySem.W.emptyDict := Heap.get?_push_size s.heap rfl
  have e2 : ((s.heap.push PySem.W.emptyDict).push (PySem.W.instObj C s.heap.objs.size)).get? (s.heap.objs.size + 1) = some (PySem.W.instObj C s.heap.objs.size) := by
    have := Heap.get?_push_size (s.heap.push PySem.W.emptyDict) (o := PySem.W.instObj C s.heap.objs.size) rfl
    rwa [Heap.size_push] at this
  have e3 : (s.heap.push PySem.W.emptyDict).Ns s.heap.objs.size (fun _ => none) := ⟨PySem.W.emptyDict, #[], _, e1, rfl, (fun e he => absurd he (by simp)), fun _ => rfl⟩
  have I1 := I.laid (a := s.heap.objs.size) (o := .own (s.heap.objs.size + 1)) (h' := s.heap.push PySem.W.emptyDict) (t' := s.toks) (fun b u q => Heap.get?_push_of_some _ q) (Nat.le_refl _) ⟨_, e1⟩
  refine I1.laid (a := s.heap.objs.size + 1) (o := .ins C s.heap.objs.size []) (t' := s.toks) (fun b u q => Heap.get?_push_of_some _ q) (Nat.le_of_eq (Heap.size_push _ _)) ?_
  have ne : s.heap.objs.size ≠ s.heap.objs.size + 1 := Nat.ne_of_lt (Nat.lt_succ_self _)
  refine ⟨by rw [upd_ne ne, upd_same], Nat.zero_le _, ne, e2, fun _ => none, (Heap.Ns1.of_empty e3).at fun o q => Heap.get?_push_of_some _ q, fun _ => True.intro, fun y hy => absurd rfl hy⟩

/-- e.f where nothing but the object is asked: through attributeBase (super) and the last hold -/
theorem attr_of {prog : Program} {w : World} {env : Env} {e : Expr} {f : Str} {pos : Pos} {s : Shared} {Q : Value → Shared → Prop} (hb : attributeBase e f env (eval e env) = eval e env)
    (h : wpAny (model prog w) A (eval e env) (fun o s₁ => wpAny (model prog w) A (getAttr o f true) Q E s₁) E s) : wpAny (model prog w) A (eval (.Attribute e f pos) env) Q E s :=
  Attribute_any_ h (by rw [arm_eval_Attribute, hb])
end
/-! ### readings and rules -/
/-- e.f, an attribute of the instance -/
def tFld (K : PySem.W.Frag) (ta : TE) (f : Str) : TE := fun σ H Q => ta σ H fun x H1 => ∃ a C dx fs v, x = .ref a ∧ H1 a = some (.ins C dx fs) ∧ Cls K C ∧ NoAttr K C f ∧ fs.lookup f = some v ∧ Q v H1
/-- e.f = value -/
def sFld (K : PySem.W.Frag) (ta tv : TE) (f : Str) : TS := fun D σ H => tv σ H fun y H1 => ta σ H1 fun x H2 => ∃ a C dx fs, x = .ref a ∧ H2 a = some (.ins C dx fs) ∧ Cls K C ∧ NoAttr K C f ∧ fs.length < 1000 ∧
  D.nx σ (upd H2 a (.ins C dx (putF f y fs)))
/-- an augmented operator on two values -/
def InOp (X : Cx) (op : Operator) (rd : V → V → Hp → VK → Prop) : Prop :=
  ∀ (pins : List (Addr × Obj)) (s : Shared) (σ : St) (H : Hp) (x y : V) (u v : Value) (Q : VK), Inv X pins σ H s → RelV x u → RelV y v → rd x y H Q → wpAny (model X.prog X.w) X.A (inplaceOp op u v) (EP X pins σ Q) X.xe s
/-- e.f op= value -/
def sFldAug (K : PySem.W.Frag) (ta tv : TE) (rd : V → V → Hp → VK → Prop) (f : Str) : TS := fun D σ H => ta σ H fun x H1 => ∃ a C dx fs v, x = .ref a ∧ H1 a = some (.ins C dx fs) ∧ Cls K C ∧ NoAttr K C f ∧ fs.lookup f = some v ∧
  tv σ H1 fun y H2 => rd v y H2 fun z H3 => ∃ dx' fs', H3 a = some (.ins C dx' fs') ∧ fs'.length < 1000 ∧ D.nx σ (upd H3 a (.ins C dx' (putF f z fs')))

section
variable {X : Cx} {o e value : Expr} {f : Str} {pos pos' tpos : Pos} {ta tv : TE}
theorem pe_fld (he : PE X e ta) (hb : attributeBase e f X.env (eval e X.env) = eval e X.env) : PE X (.Attribute e f pos) (tFld X.K ta f) := by
  intro pins s σ H Q I h
  refine attr_of hb (thn (he pins s σ H _ I h) fun u s1 ⟨x, H1, I1, rx, a, C, dx, fs, v, ex, ea, c, n, l, q⟩ => ?_)
  subst ex
  obtain rfl : u = Value.ref a := rx
  exact getattr_ok I1 ea c n l fun u' s2 I2 ru => ⟨v, H1, I2, ru, q⟩
theorem ps_fld (ha : PE X o ta) (hv : PE X value tv) (hs : swapsWith value (some (.Attribute o f pos')) pos.line X.env = pure false) : PS X (.Assign [.Attribute o f pos'] value pos) (sFld X.K ta tv f) := by
  intro pins s σ H D I h
  refine plainObj_wpAny_Assign_Attribute (thn (hv pins s σ H _ I h) fun u s1 ⟨y, H1, I1, ry, q⟩ => thn (ha pins s1 σ H1 _ I1 q) fun ov s2 ⟨x, H2, I2, rx, a, C, dx, fs, ex, ea, c, n, l, q2⟩ => ?_) hs
  subst ex
  obtain rfl : ov = Value.ref a := rx
  exact setattr_ok I2 ea c n l ry fun s3 I3 => ⟨σ, _, I3, q2⟩
theorem ps_fldaug {op : Operator} {rd : V → V → Hp → VK → Prop} (ha : PE X o ta) (hv : PE X value tv) (hop : InOp X op rd) : PS X (.AugAssign (.Attribute o f tpos) op value pos) (sFldAug X.K ta tv rd f) := by
  intro pins s σ H D I h
  refine wpAny_AugAssign_AttributeAny (thn (ha pins s σ H _ I h) fun ov s1 ⟨x, H1, I1, rx, a, C, dx, fs, v, ex, ea, c, n, l, q⟩ => ?_)
  subst ex
  obtain rfl : ov = Value.ref a := rx
  refine getattr_ok I1 ea c n l fun u s2 I2 ru => thn (hv pins s2 σ H1 _ I2 q) fun w3 s3 ⟨y, H2, I3, ry, q3⟩ => thn (hop pins s3 σ H2 v y u w3 _ I3 ru ry q3) fun w4 s4 ⟨z, H3, I4, rz, dx', fs', ea', l', q4⟩ => ?_
  exact setattr_ok I4 ea' c n l' rz fun s5 I5 => ⟨σ, _, I5, q4⟩
def rAdd : V → V → Hp → VK → Prop := fun x y H Q => ∃ i j, x = .int i ∧ y = .int j ∧ Q (.int (i + j)) H
theorem in_add : InOp X .Add rAdd := by
  rintro pins s σ H x y u v Q I rx ry ⟨i, j, rfl, rfl, q⟩
  obtain ⟨t, rfl⟩ := (show ∃ t, u = Value.int i t from rx)
  obtain ⟨t', rfl⟩ := (show ∃ t', v = Value.int j t' from ry)
  exact PyProof.Rows.iadd_int ⟨.int (i + j), H, I.tok _, ⟨_, rfl⟩, q⟩
end
end L2
namespace L2
open PySem PySem.Spec PyProof.Rows
/-! ### room -/
structure Room (k : Nat) (A : Around) : Prop where
  hd : A.handled = none
  dp : A.depth + 3 * k + 5 < recursionLimit
  un : A.units + 16 * k + 200 < cLine
theorem Room.mono {j k : Nat} {A : Around} (r : Room k A) (h : j ≤ k) : Room j A := ⟨r.hd, by have := r.dp; omega, by have := r.un; omega⟩
theorem Room.deeper {k : Nat} {A : Around} (r : Room (k + 1) A) (env : Env) : Room k (A.deeper env) :=
  ⟨r.hd, by have := r.dp; show A.depth + 1 + 3 * k + 5 < _; omega, by have := r.un; show A.units + 3 + 16 * k + 200 < _; omega⟩
theorem Room.in1 {k : Nat} {A : Around} (r : Room (k + 1) A) : Room k A.in1 :=
  ⟨r.hd, by have := r.dp; show A.depth + 3 * k + 5 < _; omega, by have := r.un; show A.units + 1 + 16 * k + 200 < _; omega⟩
theorem make_depth {A : Around} {C : Addr} {us : List Value} {kw : List (Str × Value)} : (A.under (.builtin "type.__call__" ⟨.ref C :: us, kw⟩)).depth = A.depth + 1 := by
  first | rfl | simp [Around.under, Code.weight, Code.isCreation, Code.isGuard, Code.isCaller, Code.frames, Code.isFrame, guardIds]
theorem make_units {A : Around} {C : Addr} {us : List Value} {kw : List (Str × Value)} : (A.under (.builtin "type.__call__" ⟨.ref C :: us, kw⟩)).units = A.units + 1 := by
  first | rfl | simp [Around.under, Code.cUnits, Code.frames, Code.isFrame]
theorem Room.make {k : Nat} {A : Around} (r : Room (k + 1) A) (C : Addr) (us : List Value) (kw : List (Str × Value)) : Room k (A.under (.builtin "type.__call__" ⟨.ref C :: us, kw⟩)) :=
  ⟨r.hd, by have := r.dp; rw [make_depth]; omega, by have := r.un; rw [make_units]; omega⟩
theorem Room.depth {k : Nat} {A : Around} (r : Room k A) : A.depth < recursionLimit := by have := r.dp; omega
theorem Room.units {k : Nat} {A : Around} (r : Room k A) : A.units + 64 < cLine := by have := r.un; omega
/-! ### argument lists and displays -/
def tNil : TA := fun _ H Q => Q [] H
def tCons (ta : TE) (tr : TA) : TA := fun σ H Q => ta σ H fun x H1 => tr σ H1 fun xs H2 => Q (x :: xs) H2
section
variable {X : Cx} {e : Expr} {es : List Expr} {te : TE} {t : TA} {pos : Pos}
theorem pa_nil : PA X [] tNil := fun _ _ _ _ H Q I h => Calls.spliced_nil ⟨[], H, I, .nil, h⟩
theorem pa_cons (ha : PE X e te) (hr : PA X es t) (hs : starEach (e :: es) X.env = (false, eval e X.env) :: starEach es X.env := by rfl) : PA X (e :: es) (tCons te t) := by
  intro pos pins s σ H Q I h
  rw [hs]
  show wpAny _ _ (spliced ((false, eval e X.env) :: backTo pos (starEach es X.env))) _ _ s
  refine Calls.spliced_cons (thn (ha pins s σ H _ I h) fun u s1 ⟨x, H1, I1, r1, q1⟩ => ?_)
  exact thn (hr pos pins s1 σ H1 _ I1 q1) fun us s2 ⟨xs, H2, I2, r2, q2⟩ => ⟨x :: xs, H2, I2, .cons r1 r2, q2⟩

def tLst (t : TA) : TE := fun σ H Q => t σ H fun xs H1 => xs.length ≤ sizeLine ∧ ∀ p, H1 p = none → Q (.ref p) (upd H1 p (.lst xs))
theorem pe_lst (h : PA X es t) : PE X (.List es pos) (tLst t) := by
  intro pins s σ H Q I hq
  refine wpAny_List_spliced (thn (h pos pins s σ H _ I hq) fun us s1 ⟨xs, H1, I1, r, z, q⟩ => ⟨by rw [← r.length]; exact z, ?_⟩)
  have hf : H1 s1.heap.objs.size = none := I1.hok.fresh (Nat.le_refl _)
  refine ⟨.ref s1.heap.objs.size, upd H1 s1.heap.objs.size (.lst xs), I1.laid (t' := s1.toks) (fun b u e => Heap.get?_push_of_some _ e) (Nat.le_refl _) ?_, rfl, q _ hf⟩
  exact ⟨z, us, 0, r, Heap.get?_push_size _ rfl⟩
end
/-! ### what a def promises -/
/-- a def's promise: the bound arguments in the parameters' order, the heap, the wanted end, the wanted exception -/
abbrev Sp := List V → Hp → VK → XK → Prop
/-- how an exception lies behind a call (file 08 gives it): the callers' frames, abstract heap and state ahead of the call, the wish, the exception, the state -/
abbrev CXT := List Env → Hp → Shared → XK → Value → Shared → Prop

/-- the state at a call -/
structure Env0 (P : Program) (w : World) (K : PySem.W.Frag) (mg : Str → Option Value) (base : Heap) (A : Around) (outer : List Env) (s : Shared) (H : Hp) : Prop where
  frames : A.frames = some outer
  mod : Mod K mg base
  bs : ∀ b o, base.get? b = some o → s.heap.get? b = some o ∧ H b = none
  bsz : base.objs.size ≤ s.heap.objs.size
  funs : s.heap.FunFrames base outer
  frf : ∀ b ∈ frs outer, H b = none
  hok : HOk P w H s.heap
  bare : AllBare s.gens
/-- a call's end -/
def CE (outer : List Env) (P : Program) (w : World) (H : Hp) (s : Shared) (Q : VK) (u : Value) (s' : Shared) : Prop :=
  ∃ v H', s'.os = s.os ∧ AllBare s'.gens ∧ Un (frs outer) [] H H' s.heap s'.heap ∧ HOk P w H' s'.heap ∧ RelV v u ∧ Q v H'
def CR (CX : CXT) (outer : List Env) (P : Program) (w : World) (H : Hp) (s : Shared) (Q : VK) (E : XK) (r : Result) (s' : Shared) : Prop :=
  match r with
  | .ok (.ret u) => CE outer P w H s Q u s'
  | .ok _ => False
  | .error e => CX outer H s E e s'
structure FnOk (P : Program) (w : World) (K : PySem.W.Frag) (mg : Str → Option Value) (base : Heap) (CX : CXT) (k : Nat) (f : Addr) (fd : FuncData) (ps : List Str) (sp : Sp) : Prop where
  len : ∀ vs H Q E, sp vs H Q E → vs.length = ps.length
  run : ∀ (A : Around) (outer : List Env) (s : Shared) (H : Hp) (args : Args) (us : List Value) (vs : List V) (Q : VK) (E : XK), Room k A → Env0 P w K mg base A outer s H → BindsTo s fd args (ps.zip us) → Vals vs us → sp vs H Q E →
    codeAny (model P w) A (.call (.ref f) args) (CR CX outer P w H s Q E) s
theorem FnOk.mono {P : Program} {w : World} {K : PySem.W.Frag} {mg : Str → Option Value} {base : Heap} {CX : CXT} {j k : Nat} {f : Addr} {fd : FuncData} {ps : List Str} {sp : Sp} (F : FnOk P w K mg base CX j f fd ps sp) (h : j ≤ k) :
    FnOk P w K mg base CX k f fd ps sp := ⟨F.len, fun A outer s H args us vs Q E hr => F.run A outer s H args us vs Q E (hr.mono h)⟩
theorem Env0.make {P : Program} {w : World} {K : PySem.W.Frag} {mg : Str → Option Value} {base : Heap} {A : Around} {outer : List Env} {s : Shared} {H : Hp} (e : Env0 P w K mg base A outer s H) (C : Addr) (us : List Value) (kw : List (Str × Value)) :
    Env0 P w K mg base (A.under (.builtin "type.__call__" ⟨.ref C :: us, kw⟩)) outer s H := ⟨by first | exact e.frames | (simpa [Around.under, Code.envs, Code.isFrame, pushEnvs] using e.frames), e.mod, e.bs, e.bsz, e.funs, e.frf, e.hok, e.bare⟩
theorem Env0.in1 {P : Program} {w : World} {K : PySem.W.Frag} {mg : Str → Option Value} {base : Heap} {A : Around} {outer : List Env} {s : Shared} {H : Hp} (e : Env0 P w K mg base A outer s H) :
    Env0 P w K mg base A.in1 outer s H := ⟨e.frames, e.mod, e.bs, e.bsz, e.funs, e.frf, e.hok, e.bare⟩

section
variable {X : Cx} {pins : List (Addr × Obj)} {σ : St} {H : Hp} {s s' : Shared}
/-- from a body: what a callee wants -/
theorem Inv.env0 (I : Inv X pins σ H s) : Env0 X.prog X.w X.K X.mg X.base X.A X.stack s H :=
  ⟨I.ok.frames, I.ok.mod, I.bs, Nat.le_trans I.ok.bsz I.sz, I.stack, I.stkFree, I.hok, I.bare⟩
/-- behind a call -/
theorem Inv.after {Q : VK} {u : Value} (I : Inv X pins σ H s) (h : CE X.stack X.prog X.w H s Q u s') : EP X pins σ Q u s' := by
  obtain ⟨v, H', os, bare, un, hok, r, q⟩ := h
  obtain ⟨hh, g, d, t, os'⟩ := s'
  obtain rfl : os' = s.os := os
  exact ⟨v, H', I.call (h' := hh) (g' := g) (d' := d) (t' := t) (ch := []) un hok bare (fun b z => absurd z (by simp)), r, q⟩
end
/-! ### calls -/
/-- f(..): the written arguments, then the defaults dvs; E: what is wanted of an exception -/
def tCall (sp : Sp) (dvs : List V) (E : XK) (t : TA) : TE := fun σ H Q => t σ H fun vs H1 => sp (vs ++ dvs) H1 Q E
/-- o.m(..) of an instance of the class at C -/
def tMeth (C : Addr) (m : Str) (sp : Sp) (dvs : List V) (E : XK) (ta : TE) (t : TA) : TE := fun σ H Q => ta σ H fun x H1 => ∃ a dx fs, x = .ref a ∧ H1 a = some (.ins C dx fs) ∧ fs.lookup m = none ∧
  t σ H1 fun vs H2 => sp (x :: (vs ++ dvs)) H2 Q E
/-- C(..): a new instance and its dict, then __init__ -/
def tMake (C : Addr) (sp : Sp) (dvs : List V) (E : XK) (t : TA) : TE := fun σ H Q => t σ H fun vs H1 => ∀ x dx, H1 x = none → H1 dx = none → dx ≠ x →
  sp (.ref x :: (vs ++ dvs)) (upd (upd H1 dx (.own x)) x (.ins C dx [])) (fun v H2 => v = .non ∧ Q (.ref x) H2) E

/-- how the parameters are bound: us the positional arguments, kw the keywords' values by name, ds the defaults that fill up -/
def Binds (K : PySem.W.Frag) (fd : FuncData) (ps : List Str) (ds : List Value) : Prop :=
  ∀ (s : Shared) (us : List Value), K.In s.heap → (us ++ ds).length = ps.length → BindsTo s fd ⟨us, []⟩ (ps.zip (us ++ ds))
/-- every parameter is given -/
theorem Binds.all {K : PySem.W.Frag} {fd : FuncData} {ps : List Str} (h : ∀ us : List Value, us.length = ps.length → bindArgs fd ⟨us, []⟩ = pure (ps.zip us)) : Binds K fd ps [] := fun s us _ hl => by
  rw [List.append_nil] at hl ⊢
  exact .of_eq (h us hl)

/-- an exception of a callee reaches what this body wants of exceptions -/
def Passes (CX : CXT) (X : Cx) (E : XK) : Prop := ∀ (pins : List (Addr × Obj)) (σ : St) (H : Hp) (s : Shared) (e : Value) (s' : Shared), Inv X pins σ H s → CX X.stack H s E e s' → X.xe e s'

section
variable {X : Cx} {CX : CXT} {k : Nat} {f C : Addr} {fd : FuncData} {ps : List Str} {sp : Sp} {dvs : List V} {ds : List Value} {E : XK} {x m : Str} {p pos apos : Pos} {e o : Expr} {es : List Expr} {ta : TE} {t : TA}

/-- the callee runs -/
theorem run_fn {pins : List (Addr × Obj)} {σ : St} {H : Hp} {s : Shared} {Q : VK} {us : List Value} {vs : List V} (F : FnOk X.prog X.w X.K X.mg X.base CX k f fd ps sp) (hr : Room k X.A) (hb : Binds X.K fd ps ds) (hd : Vals dvs ds) (hx : Passes CX X E)
    (I : Inv X pins σ H s) (r : Vals vs us) (h : sp (vs ++ dvs) H Q E) : wpAny (model X.prog X.w) X.A (call (.ref f) us) (EP X pins σ Q) X.xe s := by
  have r2 : Vals (vs ++ dvs) (us ++ ds) := r.append hd
  have hl : (us ++ ds).length = ps.length := by rw [← r2.length]; exact F.len _ _ _ _ h
  refine wpAny_call (codeAny_mono (F.run X.A X.stack s H ⟨us, []⟩ (us ++ ds) (vs ++ dvs) Q E hr I.env0 (hb s us I.kIn hl) r2 h) fun r s' hq => ?_)
  cases r with
  | error e => exact hx pins σ H s e s' I hq
  | ok fl =>
    cases fl with
    | ret u => exact I.after hq
    | next => exact False.elim hq
    | brk => exact False.elim hq
    | cont => exact False.elim hq

theorem pe_call (F : FnOk X.prog X.w X.K X.mg X.base CX k f fd ps sp) (hr : Room k X.A) (hg : Gl X x) (hm : X.mg x = some (.ref f)) (hk : PySem.W.keepIn X.K (.ref f) = true) (hb : Binds X.K fd ps ds) (hd : Vals dvs ds) (hx : Passes CX X E)
    (ha : PA X (e :: es) t) (hdb : (x == ("__debug__" : Str)) = false := by decide) (he : starEach (e :: es) X.env = (false, eval e X.env) :: starEach es X.env := by rfl) (hpl : (backTo pos (starEach es X.env)).any (·.1) = false := by rfl) :
    PE X (.Call (.Name x p) (e :: es) [] pos) (tCall sp dvs E t) := by
  intro pins s σ H Q I h
  refine wpAny_Call_Name_kw (ld_glob I hg hm ?_ hdb)
  refine PySem.W.callWith_K (h₀ := X.base) I.ok.mod.kin hk (thn (ha pos pins s σ H _ I h) fun us s1 ⟨vs, H1, I1, r, q⟩ => ⟨I1.kIn, ?_⟩) he hpl
  exact run_fn F hr hb hd hx I1 r q
/-- o.m(e, ..) -/
theorem pe_meth {pl : Sem Bool} (he : PE X o ta) (c : Cls X.K C) (hm : Meth X.K C m f) (F : FnOk X.prog X.w X.K X.mg X.base CX k f fd ps sp) (hr : Room k X.A) (hb : Binds X.K fd ps ds) (hd : Vals dvs ds) (hx : Passes CX X E) (ha : PA X (e :: es) t)
    (hst : starEach (e :: es) X.env = (false, eval e X.env) :: starEach es X.env := by rfl) (hpl : (backTo pos (starEach es X.env)).any (·.1) = false := by rfl)
    (ht : eval (.Call (.Attribute o m apos) (e :: es) [] pos) X.env = (do
      let ov ← eval o X.env
      standAt apos.atName
      let (f, first) ← holding [ov] (getMethod ov m pl)
      callWith pos f first (backTo pos (starEach (e :: es) X.env)) (backToKw pos (keywordEach [] X.env))) := by rfl) :
    PE X (.Call (.Attribute o m apos) (e :: es) [] pos) (tMeth C m sp dvs E ta t) := by
  intro pins s σ H Q I h
  refine PySem.W.methodCall_KW (pl := pl) (thn (he pins s σ H _ I h) fun u s1 ⟨x, H1, I1, rx, a, dx, fs, ex, ea, l, q⟩ => ?_) ht
  subst ex
  obtain rfl : u = Value.ref a := rx
  refine getmeth_ok I1 ea c hm l ?_
  refine PySem.W.callWith_K (first := [.ref a]) (h₀ := X.base) I.ok.mod.kin hm.kp (thn (ha pos pins s1 σ H1 _ I1 q) fun us s2 ⟨vs, H2, I2, r, q2⟩ => ⟨I2.kIn, ?_⟩) hst hpl
  exact run_fn (us := .ref a :: us) (vs := .ref a :: vs) F hr hb hd hx I2 (.cons rfl r) q2
/-- o.m() -/
theorem pe_meth0 {pl : Sem Bool} (he : PE X o ta) (c : Cls X.K C) (hm : Meth X.K C m f) (F : FnOk X.prog X.w X.K X.mg X.base CX k f fd ps sp) (hr : Room k X.A) (hb : Binds X.K fd ps ds) (hd : Vals dvs ds) (hx : Passes CX X E)
    (ht : eval (.Call (.Attribute o m apos) [] [] pos) X.env = (do
      let ov ← eval o X.env
      standAt apos.atName
      let (f, first) ← holding [ov] (getMethod ov m pl)
      callWith pos f first (backTo pos (starEach [] X.env)) (backToKw pos (keywordEach [] X.env))) := by rfl) :
    PE X (.Call (.Attribute o m apos) [] [] pos) (tMeth C m sp dvs E ta tNil) := by
  intro pins s σ H Q I h
  refine PySem.W.methodCall_KW (pl := pl) (thn (he pins s σ H _ I h) fun u s1 ⟨x, H1, I1, rx, a, dx, fs, ex, ea, l, q⟩ => ?_) ht
  subst ex
  obtain rfl : u = Value.ref a := rx
  refine getmeth_ok I1 ea c hm l ?_
  exact PySem.W.callWith_K0 (first := [.ref a]) I1.kIn hm.kp (run_fn (us := [.ref a]) (vs := [.ref a]) F hr hb hd hx I1 (.cons rfl .nil) q)

/-- what a class must have to be made -/
structure Mk (K : PySem.W.Frag) (C f : Addr) : Prop where
  makes : PySem.W.makesIn K C = true
  init : PySem.W.findIn K (.ref C) "__init__" = some (some (.ref f))
  fn : PySem.W.isFn K (.ref f) = true
  kp : PySem.W.keepIn K (.ref C) = true

theorem run_make {pins : List (Addr × Obj)} {σ : St} {H : Hp} {s : Shared} {Q : VK} {us : List Value} {vs : List V} (M : Mk X.K C f) (F : FnOk X.prog X.w X.K X.mg X.base CX k f fd ps sp) (hr : Room (k + 1) X.A) (hb : Binds X.K fd ps ds) (hd : Vals dvs ds)
    (hx : Passes CX X E) (I : Inv X pins σ H s) (r : Vals vs us)
    (h : ∀ x dx, H x = none → H dx = none → dx ≠ x → sp (.ref x :: (vs ++ dvs)) (upd (upd H dx (.own x)) x (.ins C dx [])) (fun v H2 => v = .non ∧ Q (.ref x) H2) E) :
    wpAny (model X.prog X.w) X.A (call (.ref C) us) (EP X pins σ Q) X.xe s := by
  have hq := h (s.heap.objs.size + 1) s.heap.objs.size (I.hok.fresh (Nat.le_succ _)) (I.hok.fresh (Nat.le_refl _)) (Nat.ne_of_lt (Nat.lt_succ_self _))
  have I2 := Inv.made (C := C) I
  have r2 : Vals (V.ref (s.heap.objs.size + 1) :: (vs ++ dvs)) (Value.ref (s.heap.objs.size + 1) :: (us ++ ds)) := .cons rfl (r.append hd)
  have hl : (Value.ref (s.heap.objs.size + 1) :: us ++ ds).length = ps.length := by
    have e := r2.length
    rw [F.len _ _ _ _ hq] at e
    exact e.symm
  refine wpAny_call (make_map (f := f) I.kIn M.makes M.init (beq_iff_eq.mp M.fn) (codeAny_mono (F.run _ X.stack _ _ ⟨Value.ref (s.heap.objs.size + 1) :: us, []⟩ (Value.ref (s.heap.objs.size + 1) :: (us ++ ds)) _ _ E (hr.make C us [])
    (I2.env0.make C us []) (hb _ (Value.ref (s.heap.objs.size + 1) :: us) I2.kIn hl) r2 hq) fun r s' hq' => ?_))
  cases r with
  | error e => exact hx pins σ _ _ e s' I2 hq'
  | ok fl =>
    cases fl with
    | ret u =>
      obtain ⟨v, H', I3, rv, ev, q3⟩ := I2.after hq'
      subst ev
      exact ⟨rv, ⟨V.ref (s.heap.objs.size + 1), H', I3, rfl, q3⟩⟩
    | next => exact False.elim hq'
    | brk => exact False.elim hq'
    | cont => exact False.elim hq'
theorem pe_make (M : Mk X.K C f) (F : FnOk X.prog X.w X.K X.mg X.base CX k f fd ps sp) (hr : Room (k + 1) X.A) (hg : Gl X x) (hm : X.mg x = some (.ref C)) (hb : Binds X.K fd ps ds) (hd : Vals dvs ds) (hx : Passes CX X E)
    (ha : PA X (e :: es) t) (hdb : (x == ("__debug__" : Str)) = false := by decide) (he : starEach (e :: es) X.env = (false, eval e X.env) :: starEach es X.env := by rfl) (hpl : (backTo pos (starEach es X.env)).any (·.1) = false := by rfl) :
    PE X (.Call (.Name x p) (e :: es) [] pos) (tMake C sp dvs E t) := by
  intro pins s σ H Q I h
  refine wpAny_Call_Name_kw (ld_glob I hg hm ?_ hdb)
  refine PySem.W.callWith_K (h₀ := X.base) I.ok.mod.kin M.kp (thn (ha pos pins s σ H _ I h) fun us s1 ⟨vs, H1, I1, r, q⟩ => ⟨I1.kIn, ?_⟩) he hpl
  exact run_make M F hr hb hd hx I1 r q
theorem pe_make0 (M : Mk X.K C f) (F : FnOk X.prog X.w X.K X.mg X.base CX k f fd ps sp) (hr : Room (k + 1) X.A) (hg : Gl X x) (hm : X.mg x = some (.ref C)) (hb : Binds X.K fd ps ds) (hd : Vals dvs ds) (hx : Passes CX X E)
    (hdb : (x == ("__debug__" : Str)) = false := by decide) : PE X (.Call (.Name x p) [] [] pos) (tMake C sp dvs E tNil) := by
  intro pins s σ H Q I h
  refine wpAny_Call_Name_kw (ld_glob I hg hm ?_ hdb)
  exact PySem.W.callWith_K0 I.kIn M.kp (run_make (us := []) M F hr hb hd hx I .nil h)
end
/-! ### a def's body keeps its promise -/
/-- names: the parameters first -/
structure FnScope (N P : List Str) (sc : Scope) : Prop where
  kind : sc.kind = .function
  co : sc.isCoroutine = false
  gen : sc.isGenerator = false
  nd : N.Nodup
  pre : N.take P.length = P
  par : ∀ x ∈ P, sc.names.lookup x = some .local ∨ sc.names.lookup x = some .cell
  nofree : ∀ y ∈ sc.names, y.2 ≠ .free

theorem bindL_out {kindOf : Str → Option NameKind} {x : Str} : ∀ {binds : List (Str × Value)} {m : Str → Option Value}, (∀ v, (x, v) ∉ binds) → bindL kindOf binds m x = m x
  | [], _, _ => rfl
  | (n, v) :: r, m, h => by
    unfold bindL
    rw [bindL_out fun w hw => h w (List.mem_cons_of_mem _ hw)]
    split
    · have : x ≠ n := by rintro rfl; exact h v List.mem_cons_self
      simp [this]
    · rfl
theorem bindC_out {kindOf : Str → Option NameKind} {x : Str} : ∀ {binds : List (Str × Value)} {m : Str → Option Value}, (∀ v, (x, v) ∉ binds) → bindC kindOf binds m x = m x
  | [], _, _ => rfl
  | (n, v) :: r, m, h => by
    unfold bindC
    rw [bindC_out fun w hw => h w (List.mem_cons_of_mem _ hw)]
    split
    · rfl
    · have : x ≠ n := by rintro rfl; exact h v List.mem_cons_self
      simp [this]
theorem bindL_get {kindOf : Str → Option NameKind} {x : Str} {v : Value} : ∀ {P : List Str} {vs : List Value} {i : Nat} {m : Str → Option Value}, P.Nodup → P[i]? = some x → vs[i]? = some v → kindOf x = some .local →
    bindL kindOf (P.zip vs) m x = some v
  | [], _, _, _, _, h, _, _ => by simp at h
  | _ :: _, [], _, _, _, _, h, _ => by simp at h
  | p :: P, w :: vs, 0, m, nd, h1, h2, hk => by
    simp at h1 h2; subst h1; subst h2
    show bindL kindOf ((p, w) :: P.zip vs) m p = _
    unfold bindL
    rw [bindL_out fun v hv => (List.nodup_cons.mp nd).1 (List.of_mem_zip hv).1, if_pos hk]
    simp
  | p :: P, w :: vs, i + 1, m, nd, h1, h2, hk => by
    show bindL kindOf ((p, w) :: P.zip vs) m x = _
    unfold bindL
    exact bindL_get (i := i) (List.nodup_cons.mp nd).2 (by simpa using h1) (by simpa using h2) hk
theorem bindC_get {kindOf : Str → Option NameKind} {x : Str} {v : Value} : ∀ {P : List Str} {vs : List Value} {i : Nat} {m : Str → Option Value}, P.Nodup → P[i]? = some x → vs[i]? = some v → kindOf x ≠ some .local →
    bindC kindOf (P.zip vs) m x = some v
  | [], _, _, _, _, h, _, _ => by simp at h
  | _ :: _, [], _, _, _, _, h, _ => by simp at h
  | p :: P, w :: vs, 0, m, nd, h1, h2, hk => by
    simp at h1 h2; subst h1; subst h2
    show bindC kindOf ((p, w) :: P.zip vs) m p = _
    unfold bindC
    rw [bindC_out fun v hv => (List.nodup_cons.mp nd).1 (List.of_mem_zip hv).1, if_neg hk]
    simp
  | p :: P, w :: vs, i + 1, m, nd, h1, h2, hk => by
    show bindC kindOf ((p, w) :: P.zip vs) m x = _
    unfold bindC
    exact bindC_get (i := i) (List.nodup_cons.mp nd).2 (by simpa using h1) (by simpa using h2) hk

/-- the names' values at the entry -/
def start (N : List Str) (vs : List V) : St := vs.map some ++ List.replicate (N.length - vs.length) none

/-- the context of a def's body, at its entry; an exception leaves the frame, then lies as CX says -/
def cxOf (CX : CXT) (P : Program) (w : World) (K : PySem.W.Frag) (mg : Str → Option Value) (base : Heap) (N : List Str) (qual : Str) (scope : Scope) (f : Addr) (cd : Value) (A : Around) (outer : List Env) (s : Shared) (H : Hp) (E : XK) : Cx where
  prog := P
  w := w
  K := K
  mg := mg
  base := base
  A := A.deeper (envOfC qual scope s.heap.objs.size f cd)
  N := N
  s₀ := s
  H₀ := H
  env := envOfC qual scope s.heap.objs.size f cd
  outer := outer
  stack := envOfC qual scope s.heap.objs.size f cd :: outer
  ex := []
  calm := true
  fn := fun _ => true
  pn := []
  xe := fun e s' => wpAny (model P w) (A.deeper (envOfC qual scope s.heap.objs.size f cd)) (leaving (envOfC qual scope s.heap.objs.size f cd) e) (fun _ s'' => CX outer H s E e s'') (fun e' s'' => CX outer H s E e' s'') s'

theorem cell_has {sc : Scope} {n : Nat} {x : Str} (h : sc.names.lookup x = some .cell) : ∃ c, (cellsFrom n sc.names []).lookup x = some c := by
  have q := PySem.W.cellsFrom_some sc.names n [] (.inl h)
  exact Option.isSome_iff_exists.mp q

theorem inv_start {CX : CXT} {P : Program} {w : World} {K : PySem.W.Frag} {mg : Str → Option Value} {base : Heap} {N ps : List Str} {qual : Str} {scope : Scope} {f : Addr} {cd : Value} {A : Around} {outer : List Env} {s s1 : Shared} {H : Hp} {E : XK} {us : List Value} {vs : List V}
    (S : FnScope N ps scope) (hd : A.handled = none) (e0 : Env0 P w K mg base A outer s H) (hl : vs.length = ps.length) (r : Vals vs us)
    (x : InCallC s s.heap.objs.size (bindL (envOfC qual scope s.heap.objs.size f cd).kindOf (ps.zip us) fun _ => none) (cellsFrom (s.heap.objs.size + 1) scope.names []) (bindC (envOfC qual scope s.heap.objs.size f cd).kindOf (ps.zip us) fun _ => none) s1) :
    Inv (cxOf CX P w K mg base N qual scope f cd A outer s H E) [] (start N vs) H s1 := by
  have hpl : ps.length ≤ N.length := by have := congrArg List.length S.pre; rw [List.length_take] at this; omega
  obtain ⟨h1, tk, rfl, hk⟩ := x.done
  have noA : ∀ b : Addr, b ∉ (cxOf CX P w K mg base N qual scope f cd A outer s H E).ex := fun b z => absurd (show b ∈ ([] : List Addr) from z) (by simp)
  refine ⟨⟨e0.mod, S.kind, rfl, rfl, Nat.le_refl _, fun y z c h1 h2 => ?_, fun y hy => ?_, fun y c _ h => ?_, fun _ => hd, Around.frames_deeper e0.frames, .inr ⟨rfl, rfl⟩, fun b z => absurd z (noA b), e0.bs, e0.bsz, fun b _ _ => noA b, fun b z => absurd z (noA b), e0.funs, e0.frf⟩,
    rfl, e0.bare, Un.kept hk, ⟨_, x.toInCall.ns, fun i y v h1 h2 h3 => ?_⟩, fun y c h => ⟨_, x.cell y c h⟩, e0.hok.fresh (Nat.le_refl _), fun y c h => ?_, fun p hp => absurd (show p ∈ ([] : List (Addr × Obj)) from hp) (by simp), e0.hok.kept hk, ?_⟩
  · exact name_of_addr x.apart (PySem.mem_of_lookup h1) (PySem.mem_of_lookup h2)
  · have hy : scope.names.lookup y = some .cell ∨ scope.names.lookup y = some .free := hy
    rcases hy with hy | hy
    · exact cell_has hy
    · exact absurd rfl (S.nofree _ (PySem.mem_of_lookup hy))
  · exact Nat.le_of_lt (x.above y c (PySem.mem_of_lookup h))
  · have hi : i < vs.length := by
      unfold start at h2
      by_cases hi : i < vs.length
      · exact hi
      · rw [List.getElem?_append_right (by simpa using hi)] at h2
        rw [List.getElem?_replicate] at h2
        split at h2 <;> cases h2
    have ha : vs[i]? = some v := by
      unfold start at h2
      rw [List.getElem?_append_left (by simpa using hi), List.getElem?_map] at h2
      cases e : vs[i]? with
      | none => rw [e] at h2; cases h2
      | some a => rw [e] at h2; cases h2; rfl
    obtain ⟨u, hu, rv⟩ := r.get ha
    have hp : ps[i]? = some y := by
      rw [← S.pre, List.getElem?_take_of_lt (by omega)]; exact h1
    have ndP : ps.Nodup := by rw [← S.pre]; exact S.nd.sublist (List.take_sublist _ _)
    refine ⟨u, rv, ?_⟩
    rcases S.par y (List.mem_of_getElem? hp) with k | k
    · exact .inl ⟨k, bindL_get ndP hp hu k⟩
    · obtain ⟨c, e⟩ := cell_has (n := s.heap.objs.size + 1) k
      refine .inr ⟨.inl k, c, e, ?_⟩
      have q := x.cell y c e
      rw [bindC_get ndP hp hu (by show scope.names.lookup y ≠ _; rw [k]; decide)] at q
      exact q
  · exact e0.hok.fresh (Nat.le_of_lt (x.above y c (PySem.mem_of_lookup h)))
  · unfold start
    show _ = N.length
    rw [List.length_append, List.length_map, List.length_replicate]
    omega

/-- THE RULE: a def (or a method) of the text, by its body. The body's reading t is chosen for each entry; it is run at the parameters' values -/
theorem fn_of {CX : CXT} {P : Program} {w : World} {K : PySem.W.Frag} {mg : Str → Option Value} {base : Heap} {k : Nat} {f : Addr} {name qual : Str} {params : Arguments} {body : List Stmt} {scope : Scope} {dV kV doc pm cdv ct oc : Value} {an od : Option Addr}
    {osl : Array (Option Value)} {N ps : List Str} {sp : Sp} (lk : K.lookup f = some ⟨oc, od, .func (PySem.W.fnOf name qual params body scope dV kV doc pm an cdv ct), osl⟩) (hcd : PySem.W.codeIn K cdv qual = true) (S : FnScope N ps scope)
    (len : ∀ vs H Q E, sp vs H Q E → vs.length = ps.length)
    (hbody : ∀ (A : Around) (outer : List Env) (s : Shared) (H : Hp) (vs : List V) (Q : VK) (E : XK), Room k (A.deeper (envOfC qual scope s.heap.objs.size f cdv)) → sp vs H Q E →
      ∃ t, PSs (cxOf CX P w K mg base N qual scope f cdv A outer s H E) body t ∧ t { nx := fun _ H' => Q .non H', rt := Q } (start N vs) H) :
    FnOk P w K mg base CX (k + 1) f (PySem.W.fnOf name qual params body scope dV kV doc pm an cdv ct) ps sp := by
  refine ⟨len, fun A outer s H args us vs Q E hr e0 hb r hsp => ?_⟩
  have hl := len _ _ _ _ hsp
  have KX : K.In s.heap := e0.mod.kin.keeps fun b o e => (e0.bs b o e).1
  have lim : s.heap.NoLimit := e0.mod.nolimit.keeps fun b o e => (e0.bs b o e).1
  have hkind : ∀ y ∈ ps.zip us, scope.names.lookup y.1 = some .local ∨ (scope.names.lookup y.1 = some .cell ∧ ((cellsFrom (s.heap.objs.size + 1) scope.names []).lookup y.1).isSome = true) := fun ⟨n, v⟩ hy => by
    rcases S.par n (List.of_mem_zip hy).1 with q | q
    · exact .inl q
    · exact .inr ⟨q, PySem.W.cellsFrom_some _ _ _ (.inl q)⟩
  refine codeAny_call_function hr.depth (KX _ _ lk) rfl S.co S.gen rfl (PySem.W.codeRec_of KX hcd) (hb _ _ _ _ ?_)
  refine wpAny_newFunctionEnv_cells S.kind hkind fun env he s1 x => ?_
  subst he
  refine ⟨lim.keeps x.toInCall.keep, codeAny_func ?_⟩
  obtain ⟨t, ht, hq⟩ := hbody A outer s H vs Q E (hr.deeper _) hsp
  have I : Inv (cxOf CX P w K mg base N qual scope f cdv A outer s H E) [] (start N vs) H s1 := inv_start S hr.hd e0 hl r x
  refine wpAny_mono (ht [] s1 (start N vs) H _ I hq) (fun fl s' hs => ?_) fun e s' hs => hs
  have fin : ∀ {σ' : St} {H' : Hp} {v : V} {u : Value}, Inv (cxOf CX P w K mg base N qual scope f cdv A outer s H E) [] σ' H' s' → RelV v u → Q v H' → CE outer P w H s Q u s' :=
    fun {σ' H' v u} J rv q => ⟨v, H', J.os, J.bare, J.base, J.hok, rv, q⟩
  cases fl with
  | ret u =>
    obtain ⟨v, σ', H', J, rv, q⟩ := hs
    exact fin J rv q
  | next =>
    obtain ⟨σ', H', J, q⟩ := hs
    exact fin (v := V.non) (u := Value.none) J rfl q
  | brk =>
    obtain ⟨_, _, _, q⟩ := hs
    exact False.elim q
  | cont =>
    obtain ⟨_, _, _, q⟩ := hs
    exact False.elim q
end L2
namespace L2
open PySem PySem.Spec PyProof.Rows
section
variable {X : Cx} {x : Str} {p pos : Pos} {e : Expr} {es : List Expr} {t : TA} {id T : String} {r : List V → Hp → VK → Prop}

def tCB (r : List V → Hp → VK → Prop) (t : TA) : TE := fun σ H Q => t σ H fun vs H1 => r vs H1 Q
/-- f(e, ..), f a built-in function -/
theorem pe_callB (hc : CallR X (.builtin id) r) (hg : Gl X x) (hm : X.mg x = none) (hv : bootBuiltins x = some (.builtin id)) (ha : PA X (e :: es) t) (hn : x ≠ "__name__" := by decide) (hdb : (x == ("__debug__" : Str)) = false := by decide)
    (he : starEach (e :: es) X.env = (false, eval e X.env) :: starEach es X.env := by rfl) (hpl : (backTo pos (starEach es X.env)).any (·.1) = false := by rfl) : PE X (.Call (.Name x p) (e :: es) [] pos) (tCB r t) := by
  intro pins s σ H Q I h
  refine wpAny_Call_Name_kw (ld_blt I hg hm hv ?_ hn hdb)
  exact PyProof.Rows.callWith_builtin1 (thn (ha pos pins s σ H _ I h) fun us s1 ⟨vs, H1, I1, r1, q1⟩ => hc pins s1 σ H1 vs us Q I1 r1 q1) he hpl
end
end L2
namespace HT
open PySem PyProof.Rows
section
variable {prog : Program} {w : World} {A : Around} {E : Value → Shared → Prop} {s : Shared}

/-! ### t[a:b], not the whole -/
/-- a slice's bound as a place among n (d where it is left out) -/
def sIx (n d : Nat) : Option Int → Nat
  | none => d
  | some v => if v < 0 then (v + (n : Int)).toNat else min v.toNat n
theorem sIx_none (n d : Nat) : sIx n d none = d := rfl
theorem sIx_nat (n d k : Nat) : sIx n d (some (k : Int)) = min k n := by
  show (if (k : Int) < 0 then ((k : Int) + (n : Int)).toNat else min (k : Int).toNat n) = min k n
  rw [if_neg (by omega), Int.toNat_natCast]
theorem clip_eq (v : Int) (n d : Nat) : (if v < 0 then max (v + (n : Int)) 0 else min v (n : Int)) = ((sIx n d (some v) : Nat) : Int) := by
  show (if v < 0 then max (v + (n : Int)) 0 else min v (n : Int)) = (((if v < 0 then (v + (n : Int)).toNat else min v.toNat n) : Nat) : Int)
  by_cases hv : v < 0
  · simp only [if_pos hv]; omega
  · simp only [if_neg hv]; omega
end
end HT
namespace L2
open PySem PySem.Spec PyProof.Rows
/-! ### the parts of a slice -/
abbrev TO := St → Hp → (Option Int → Hp → Prop) → Prop
/-- a slice's part (left out, or an int) -/
def PO (X : Cx) (e : Option Expr) (t : TO) : Prop :=
  ∀ (pins : List (Addr × Obj)) (s : Shared) (σ : St) (H : Hp) (Q : Option Int → Hp → Prop), Inv X pins σ H s → t σ H Q →
    wpAny (model X.prog X.w) X.A (evalPart e X.env) (fun u s' => ∃ o H', Inv X pins σ H' s' ∧ IsPart u o ∧ Q o H') X.xe s
def tNoPart : TO := fun _ H Q => Q none H
def tPart (t : TE) : TO := fun σ H Q => t σ H fun x H1 => ∃ i, x = .int i ∧ Q (some i) H1

theorem intsAre_of {ns : List Int} : ∀ {us : List Value}, Vals (ns.map V.int) us → IntsAre us ns := by
  induction ns with
  | nil => intro us r; rw [List.map_nil] at r; cases r; exact .nil
  | cons n ns ih =>
    intro us r
    rw [List.map_cons] at r
    cases r with
    | cons r1 r2 =>
      obtain ⟨t, e⟩ := r1
      subst e
      exact .cons n t (ih r2)

section
variable {X : Cx} {e : Expr} {te : TE} {lo hi : Option Expr} {tl th : TO} {pos p2 : Pos}

theorem po_none : PO X none tNoPart := by
  intro pins s σ H Q I h
  rw [evalPart_none]
  exact wpAny_pure ⟨none, H, I, .none, h⟩
theorem po_some (h : PE X e te) : PO X (some e) (tPart te) := by
  intro pins s σ H Q I hw
  rw [evalPart_some]
  refine thn (h pins s σ H _ I hw) fun u s1 ⟨x, H1, I1, r1, q1⟩ => ?_
  obtain ⟨i, rfl, q⟩ := q1
  obtain ⟨t, rfl⟩ := r1
  exact ⟨some i, H1, I1, .int i t, q⟩

/-- what a slice of a value is, by values: the slice object stands at sl -/
def SlR (X : Cx) (r : V → Option Int → Option Int → Hp → VK → Prop) : Prop :=
  ∀ (pins : List (Addr × Obj)) (s : Shared) (σ : St) (H : Hp) (x : V) (v vl vu : Value) (lo hi : Option Int) (sl : Addr) (Q : VK), Inv X pins σ H s → RelV x v → s.heap.IsSliceOf sl vl vu .none → IsPart vl lo → IsPart vu hi → r x lo hi H Q →
    ∃ T id, typeLookup (.type T) "__getitem__" = pure (some (.builtin id)) ∧ s.TypeIs v T ∧ wpAny (model X.prog X.w) X.A (getItem v (.ref sl)) (EP X pins σ Q) X.xe s
theorem SlR.or {r r' : V → Option Int → Option Int → Hp → VK → Prop} (h : SlR X r) (h' : SlR X r') : SlR X (fun x lo hi H Q => r x lo hi H Q ∨ r' x lo hi H Q) := by
  intro pins s σ H x v vl vu lo hi sl Q I rx hs pl pu q
  rcases q with q | q
  · exact h pins s σ H x v vl vu lo hi sl Q I rx hs pl pu q
  · exact h' pins s σ H x v vl vu lo hi sl Q I rx hs pl pu q
def tSl (r : V → Option Int → Option Int → Hp → VK → Prop) (te : TE) (tl th : TO) : TE := fun σ H Q => te σ H fun x H1 => tl σ H1 fun l H2 => th σ H2 fun u H3 => r x l u H3 Q
/-- a[lo:hi], any a -/
theorem pe_slice {r : V → Option Int → Option Int → Hp → VK → Prop} (hr : SlR X r) (he : PE X e te) (hl : PO X lo tl) (hu : PO X hi th) : PE X (.Subscript e (.Slice lo hi none p2) pos) (tSl r te tl th) := by
  intro pins s σ H Q I h
  refine Subscript_ (thn (he pins s σ H _ I h) fun v s1 ⟨x, H1, I1, r1, q1⟩ => ?_)
  refine wpAny_Slice (thn (hl pins s1 σ H1 _ I1 q1) fun vl s2 ⟨l, H2, I2, pl, q2⟩ => thn (hu pins s2 σ H2 _ I2 q2) fun vu s3 ⟨u, H3, I3, pu, q3⟩ => ?_)
  rw [evalPart_none]
  refine wpAny_pure ?_
  have I4 : Inv X pins σ H3 { s3 with heap := s3.heap.push { cls := .type "slice", data := .fields #[vl, vu, .none] } } := I3.kept (t' := s3.toks) fun b ob q => Heap.get?_push_of_some _ q
  obtain ⟨T, id, hT, ht, hg⟩ := hr pins { s3 with heap := s3.heap.push { cls := .type "slice", data := .fields #[vl, vu, .none] } } σ H3 x v vl vu l u s3.heap.objs.size Q I4 r1 (Heap.IsSliceOf.new ..) pl pu q3
  show wpAny (model X.prog X.w) X.A (subscriptTail e (.Slice lo hi none p2) v (.ref s3.heap.objs.size)) (EP X pins σ Q) X.xe { s3 with heap := s3.heap.push { cls := .type "slice", data := .fields #[vl, vu, .none] } }
  exact tail_any (ops := [.ref s3.heap.objs.size, v]) ht hT hg (by with_unfolding_all rfl)

/-- the items of xs[lo:hi] -/
def cutV (xs : List V) (lo hi : Option Int) : List V := (xs.drop (HT.sIx xs.length 0 lo)).take (HT.sIx xs.length xs.length hi - HT.sIx xs.length 0 lo)
theorem cutV_length (xs : List V) (lo hi : Option Int) : (cutV xs lo hi).length ≤ xs.length := by
  unfold cutV
  rw [List.length_take, List.length_drop]
  omega
end
end L2
namespace L2
open PySem PySem.Spec PyProof.Rows
/-! ### places -/
/-- the place that an index of any sign means -/
def ixN (n : Nat) (i : Int) : Option Nat := if 0 ≤ i then (if i < n then some i.toNat else none) else if -(n : Int) ≤ i then some (i + n).toNat else none
def atI {α : Type} (xs : List α) (i : Int) : Option α := (ixN xs.length i).bind fun j => xs[j]?
theorem ixN_seq {n : Nat} {i : Int} {j : Nat} (h : ixN n i = some j) : seqIndex? i n = some j ∧ j < n ∧ -(n : Int) ≤ i ∧ i < n := by
  unfold ixN at h
  by_cases h0 : 0 ≤ i
  · rw [if_pos h0] at h
    by_cases h1 : i < n
    · rw [if_pos h1] at h
      have e : i.toNat = j := Option.some.inj h
      exact ⟨by rw [seqIndex_of h0 h1, e], by omega, by omega, h1⟩
    · rw [if_neg h1] at h; cases h
  · rw [if_neg h0] at h
    by_cases h1 : -(n : Int) ≤ i
    · rw [if_pos h1] at h
      have e : (i + n).toNat = j := Option.some.inj h
      exact ⟨by rw [seqIndex_neg (by omega) h1, e], by omega, h1, by omega⟩
    · rw [if_neg h1] at h; cases h
theorem atI_get {α : Type} {xs : List α} {i : Int} {v : α} (h : atI xs i = some v) : ∃ j, seqIndex? i xs.length = some j ∧ xs[j]? = some v ∧ j < xs.length ∧ -(xs.length : Int) ≤ i ∧ i < xs.length := by
  unfold atI at h
  cases e : ixN xs.length i with
  | none => rw [e] at h; cases h
  | some j =>
    rw [e] at h
    obtain ⟨h1, h2, h3, h4⟩ := ixN_seq e
    exact ⟨j, h1, h, h2, h3, h4⟩
theorem atI_nat {α : Type} {xs : List α} {j : Nat} {v : α} (h : xs[j]? = some v) : atI xs (j : Int) = some v := by
  have hj : j < xs.length := (List.getElem?_eq_some_iff.mp h).1
  have e : ixN xs.length (j : Int) = some j := by
    unfold ixN
    rw [if_pos (by omega), if_pos (by omega)]; simp
  unfold atI; rw [e]; exact h
theorem atI_last {α : Type} (xs : List α) (v : α) : atI (xs ++ [v]) (-1) = some v := by
  have hl : (xs ++ [v]).length = xs.length + 1 := by simp
  have e : ixN (xs ++ [v]).length (-1) = some xs.length := by
    unfold ixN
    rw [hl, if_neg (by decide), if_pos (by omega)]
    congr 1
    omega
  unfold atI
  rw [e]
  show (xs ++ [v])[xs.length]? = some v
  simp

/-! ### what may be subscripted -/
/-- what stands as an index of a plain subscript -/
def PlainIx (b : Expr) : Prop := ∀ o i, subscripted b false o i = operate [o, i] (getItem o i)
/-- a subscript by values -/
def IxR (X : Cx) (r : R2) : Prop :=
  ∀ (value slice : Expr) (pins : List (Addr × Obj)) (s : Shared) (σ : St) (H : Hp) (x y : V) (v u : Value) (Q : VK), Inv X pins σ H s → RelV x v → RelV y u → r x y H Q →
    subscripted slice false v u = operate [v, u] (getItem v u) → wpAny (model X.prog X.w) X.A (subscriptTail value slice v u) (EP X pins σ Q) X.xe s
/-- a call of a builtin's method by values: the receiver, the arguments -/
def MtR (X : Cx) (id : String) (r : V → List V → Hp → VK → Prop) : Prop :=
  ∀ (pins : List (Addr × Obj)) (s : Shared) (σ : St) (H : Hp) (x : V) (xs : List V) (v : Value) (us : List Value) (Q : VK), Inv X pins σ H s → RelV x v → Vals xs us → r x xs H Q →
    wpAny (model X.prog X.w) X.A (call (.builtin id) (v :: us)) (EP X pins σ Q) X.xe s
section
variable {X : Cx} {a b : Expr} {ta tb : TE} {pos : Pos}
theorem IxR.or {r r' : R2} (h : IxR X r) (h' : IxR X r') : IxR X (fun x y H Q => r x y H Q ∨ r' x y H Q) := by
  intro value slice pins s σ H x y v u Q I rx ry q hs
  rcases q with q | q
  · exact h value slice pins s σ H x y v u Q I rx ry q hs
  · exact h' value slice pins s σ H x y v u Q I rx ry q hs
theorem MtR.or {id : String} {r r' : V → List V → Hp → VK → Prop} (h : MtR X id r) (h' : MtR X id r') : MtR X id (fun x xs H Q => r x xs H Q ∨ r' x xs H Q) := by
  intro pins s σ H x xs v us Q I rx rs q
  rcases q with q | q
  · exact h pins s σ H x xs v us Q I rx rs q
  · exact h' pins s σ H x xs v us Q I rx rs q
/-- a[b] -/
theorem pe_ix {r : R2} (hr : IxR X r) (ha : PE X a ta) (hb : PE X b tb) (hs : PlainIx b) : PE X (.Subscript a b pos) (tOp r ta tb) := by
  intro pins s σ H Q I h
  exact Subscript_ (binT ha hb I h fun v u s2 x y H2 I2 rx ry q => hr a b pins s2 σ H2 x y v u Q I2 rx ry q (hs _ _))

def rIxL (K : PySem.W.Frag) : R2 := fun x y H Q => ∃ p xs i v, x = .ref p ∧ y = .int i ∧ SqL K H p xs ∧ atI xs i = some v ∧ Q v H
def rIxT (K : PySem.W.Frag) : R2 := fun x y H Q => ∃ p xs i v, x = .ref p ∧ y = .int i ∧ SqT K H p xs ∧ atI xs i = some v ∧ Q v H
theorem ix_list : IxR X (rIxL X.K) := by
  intro value slice pins s σ H x y v u Q I rx ry h hs
  obtain ⟨p, xs, i, z, rfl, rfl, hq, he, q⟩ := h
  cases rx
  obtain ⟨t, rfl⟩ := ry
  obtain ⟨its, r, pl, hz⟩ := I.list hq
  obtain ⟨j, h1, h2, h3, h4, h5⟩ := atI_get he
  obtain ⟨w, ew, rw'⟩ := r.get h2
  have hl := r.length
  have hn := line63
  have fin : EP X pins σ Q w s := ⟨z, H, I, rw', q⟩
  by_cases h0 : 0 ≤ i
  · have hj : i.toNat = j := by
      rw [seqIndex_of h0 h5] at h1
      exact Option.some.inj h1
    exact item_listR pl.isList h0 (by omega) (by rw [hj]; simpa using ew) fin hs
  · have hj : (i + (its.toArray.size : Int)).toNat = j := by
      rw [seqIndex_neg (by omega) h4] at h1
      rw [List.size_toArray, ← hl]
      exact Option.some.inj h1
    exact subscriptTail_builtinR (x := w) pl.isList.typeIs slot_list_getitem.lookup
      (wpAny_getItem_list_neg (Q := fun r s' => r = w ∧ EP X pins σ Q r s') pl.isList (by omega) (by rw [List.size_toArray] <;> omega) (by omega) (by rw [hj]; simpa using ew) ⟨rfl, fin⟩) hs
theorem ix_tup : IxR X (rIxT X.K) := by
  intro value slice pins s σ H x y v u Q I rx ry h hs
  obtain ⟨p, xs, i, z, rfl, rfl, hq, he, q⟩ := h
  cases rx
  obtain ⟨t, rfl⟩ := ry
  obtain ⟨its, r, pl, hz⟩ := I.tuple hq
  obtain ⟨j, h1, h2, h3, h4, h5⟩ := atI_get he
  obtain ⟨w, ew, rw'⟩ := r.get h2
  have hl := r.length
  have hn := line63
  have fin : EP X pins σ Q w s := ⟨z, H, I, rw', q⟩
  exact subscriptTail_builtinR (x := w) pl.typeIs slot_tuple_getitem.lookup
    (getItem_tuple (j := j) (Q := fun r s' => r = w ∧ EP X pins σ Q r s') pl (by omega) (by omega) (by rw [List.size_toArray, ← hl]; exact h1) (by simpa using ew) ⟨rfl, fin⟩) hs
theorem Inv.lst {pins : List (Addr × Obj)} {σ : St} {H : Hp} {s : Shared} {p : Addr} {xs : List V} (I : Inv X pins σ H s) (h : H p = some (.lst xs)) :
    ∃ (its : List Value) (n : Nat), Vals xs its ∧ s.heap.get? p = some { cls := .type "list", data := .seq its.toArray n } ∧ xs.length ≤ sizeLine := by
  obtain ⟨z, its, n, r, e⟩ := I.hok p _ h
  exact ⟨its, n, r, e, z⟩
/-! ### slices -/
theorem slice_bounds (lo hi : Option Int) (n : Nat) : (sliceBounds lo hi none n).1 = ((HT.sIx n 0 lo : Nat) : Int) ∧ (sliceBounds lo hi none n).2.1 = ((HT.sIx n n hi : Nat) : Int) ∧ (sliceBounds lo hi none n).2.2 = 1 := by
  refine ⟨?_, ?_, rfl⟩
  · cases lo with
    | none => simp [sliceBounds, HT.sIx]
    | some i =>
      simp only [sliceBounds, HT.sIx, Option.getD_none, show (1 : Int) > 0 by decide, if_true]
      by_cases h : i < 0
      · simp only [h, if_true] <;> omega
      · simp only [h, if_false] <;> omega
  · cases hi with
    | none => simp [sliceBounds, HT.sIx]
    | some i =>
      simp only [sliceBounds, HT.sIx, Option.getD_none, show (1 : Int) > 0 by decide, if_true]
      by_cases h : i < 0
      · simp only [h, if_true] <;> omega
      · simp only [h, if_false] <;> omega
theorem slicePick_cut (its : List Value) (lo hi : Option Int) : slicePick its.toArray lo hi none = ((its.drop (HT.sIx its.length 0 lo)).take (HT.sIx its.length its.length hi - HT.sIx its.length 0 lo)).toArray := by
  obtain ⟨h1, h2, h3⟩ := slice_bounds lo hi its.toArray.size
  unfold slicePick
  rw [h1, h2, h3]
  simp only [sliceRange_one, pick_run, List.size_toArray] <;> rfl
/-- xs[lo:hi] of a list: a new list -/
def rSlL (K : PySem.W.Frag) : V → Option Int → Option Int → Hp → VK → Prop := fun x lo hi H Q => ∃ a xs, x = .ref a ∧ SqL K H a xs ∧ ∀ p, H p = none → Q (.ref p) (upd H p (.lst (cutV xs lo hi)))
theorem sl_list : SlR X (rSlL X.K) := by
  intro pins s σ H x v vl vu lo hi sl Q I rx hs pl pu h
  obtain ⟨a, xs, rfl, hx, q⟩ := h
  cases rx
  obtain ⟨its, r, ht, hz⟩ := I.list hx
  have hlen := r.length
  refine ⟨"list", _, slot_list_getitem.lookup, ht.isList.typeIs, ?_⟩
  refine wpAny_getItem_list_slice ht.isList hs pl pu .none (by simp) ?_ (by rw [List.size_toArray] <;> omega)
  rw [slicePick_cut, ← hlen]
  refine ⟨.ref s.heap.objs.size, _, I.laid (t' := s.toks) (o := .lst (cutV xs lo hi)) (fun b ob q => Heap.get?_push_of_some _ q) (Nat.le_refl _) ?_, rfl, q _ (I.hok.fresh (Nat.le_refl _))⟩
  exact ⟨Nat.le_trans (cutV_length xs lo hi) hz, _, 0, (r.drop (HT.sIx xs.length 0 lo)).take (HT.sIx xs.length xs.length hi - HT.sIx xs.length 0 lo), Heap.get?_push_size _ rfl⟩

/-! ### in, not in: flat items -/
def flatV : V → Bool
  | .non => true
  | .bl _ => true
  | .int _ => true
  | .str _ => true
  | _ => false
/-- == of flat values -/
def eqV : V → V → Bool
  | .non, .non => true
  | .bl a, .bl b => a == b
  | .bl a, .int b => (if a then 1 else 0) == b
  | .int a, .bl b => a == (if b then 1 else 0)
  | .int a, .int b => a == b
  | .str a, .str b => a == b
  | _, _ => false
theorem eqAt_V {A : Around} {s : Shared} {y x : V} {u v : Value} (ry : RelV y u) (rx : RelV x v) (fy : flatV y = true) (fx : flatV x = true) : SeqAt.EqAt A s u v (eqV y x) := by
  cases y with
  | non =>
    cases ry
    cases x with
    | non => cases rx; exact SeqAt.EqAt.same _
    | bl b => cases rx; exact SeqAt.EqAt.none_bool b
    | int b => obtain ⟨t, rfl⟩ := rx; exact SeqAt.EqAt.none_int b t
    | str b => obtain ⟨t, rfl⟩ := rx; exact SeqAt.EqAt.none_str b t
    | _ => exact absurd (show false = true from fx) Bool.false_ne_true
  | bl a =>
    cases ry
    cases x with
    | non => cases rx; exact SeqAt.EqAt.bool_none a
    | bl b => cases rx; exact SeqAt.EqAt.bool_bool a b
    | int b => obtain ⟨t, rfl⟩ := rx; exact SeqAt.EqAt.bool_int a b t
    | str b => obtain ⟨t, rfl⟩ := rx; exact SeqAt.EqAt.bool_str a b t
    | _ => exact absurd (show false = true from fx) Bool.false_ne_true
  | int a =>
    obtain ⟨t', rfl⟩ := ry
    cases x with
    | non => cases rx; exact SeqAt.EqAt.int_none a t'
    | bl b => cases rx; exact SeqAt.EqAt.int_bool a t' b
    | int b => obtain ⟨t, rfl⟩ := rx; exact SeqAt.EqAt.int_int a t' b t
    | str b => obtain ⟨t, rfl⟩ := rx; exact SeqAt.EqAt.int_str a t' b t
    | _ => exact absurd (show false = true from fx) Bool.false_ne_true
  | str a =>
    obtain ⟨t', rfl⟩ := ry
    cases x with
    | non => cases rx; exact SeqAt.EqAt.str_none a t'
    | bl b => cases rx; exact SeqAt.EqAt.str_bool a t' b
    | int b => obtain ⟨t, rfl⟩ := rx; exact SeqAt.EqAt.str_int a t' b t
    | str b => obtain ⟨t, rfl⟩ := rx; exact SeqAt.EqAt.str_str a t' b t
    | _ => exact absurd (show false = true from fx) Bool.false_ne_true
  | _ => exact absurd (show false = true from fy) Bool.false_ne_true
/-- the items' answers, read off the values (a value's own answer does not lean on its token) -/
def eqU (x : V) (u : Value) : Bool := match u with
  | .none => eqV .non x
  | .bool b => eqV (.bl b) x
  | .int i _ => eqV (.int i) x
  | .str z _ => eqV (.str z) x
  | _ => false
theorem eqU_of {x y : V} {u : Value} (r : RelV y u) (f : flatV y = true) : eqU x u = eqV y x := by
  cases y with
  | non => cases r; rfl
  | bl b => cases r; rfl
  | int i => obtain ⟨t, rfl⟩ := r; rfl
  | str z => obtain ⟨t, rfl⟩ := r; rfl
  | _ => exact absurd (show false = true from f) Bool.false_ne_true
theorem any_eqU {x : V} : ∀ {xs : List V} {us : List Value}, Vals xs us → xs.all flatV = true → us.any (eqU x) = xs.any fun y => eqV y x
  | _, _, .nil, _ => rfl
  | y :: xs, u :: us, .cons r t, f => by
    rw [List.all_cons, Bool.and_eq_true] at f
    rw [List.any_cons, List.any_cons, eqU_of r f.1, any_eqU t f.2]
theorem mem_eqAt {A : Around} {s : Shared} {x : V} {v : Value} (rx : RelV x v) (fx : flatV x = true) : ∀ {xs : List V} {us : List Value}, Vals xs us → xs.all flatV = true → ∀ u ∈ us, SeqAt.EqAt A s u v (eqU x u)
  | _, _, .nil, _ => fun u hu => by cases hu
  | y :: xs, u :: us, .cons r t, f => fun u' hu => by
    rw [List.all_cons, Bool.and_eq_true] at f
    rcases List.mem_cons.mp hu with rfl | hu
    · rw [eqU_of r f.1]; exact eqAt_V r rx f.1 fx
    · exact mem_eqAt rx fx t f.2 u' hu
def inV (x : V) (xs : List V) : Bool := xs.any fun y => eqV y x
/-- x in a list or tuple of flat items -/
def rIn (K : PySem.W.Frag) (neg : Bool) : R2 := fun x y H Q => ∃ p xs, y = .ref p ∧ (SqL K H p xs ∨ SqT K H p xs) ∧ flatV x = true ∧ xs.all flatV = true ∧ Q (.bl (if neg then !inV x xs else inV x xs)) H
theorem op_in_seq : OpR X (compareOp .In) (rIn X.K false) := by
  intro pins s σ H x y v u Q I rx ry h
  obtain ⟨p, xs, rfl, hq, fx, fs, q⟩ := h
  cases ry
  rcases hq with hq | hq
  · obtain ⟨its, r, pl, hz⟩ := I.list hq
    refine SeqAt.in_listAt (eqU x) pl.isList (fun w hw => mem_eqAt rx fx r fs w (by simpa using hw)) ⟨.bl _, H, I, rfl, ?_⟩
    rw [show its.toArray.any (eqU x) = its.any (eqU x) by simp, any_eqU r fs]
    exact q
  · obtain ⟨its, r, pl, hz⟩ := I.tuple hq
    refine SeqAt.in_tupleAt (eqU x) pl (fun w hw => mem_eqAt rx fx r fs w (by simpa using hw)) ⟨.bl _, H, I, rfl, ?_⟩
    rw [show its.toArray.any (eqU x) = its.any (eqU x) by simp, any_eqU r fs]
    exact q
/-! ### len, list(x), tuple(x) of any list or tuple that is read -/
theorem call_len_seq : CallR X (.builtin "len") (fun xs H Q => ∃ p ys, xs = [.ref p] ∧ (SqL X.K H p ys ∨ SqT X.K H p ys) ∧ Q (.int ys.length) H) := by
  intro pins s σ H xs us Q I r h
  obtain ⟨p, ys, rfl, hq, q⟩ := h
  obtain ⟨u, rfl, rx⟩ := vals1 r
  cases rx
  have hn := line63
  rcases hq with hq | hq
  · obtain ⟨its, r', pl, hz⟩ := I.list hq
    have hlen := r'.length
    exact Calls.call_len_list pl.isList (by simp only [List.size_toArray] <;> omega) ⟨.int ys.length, H, I.tok _, ⟨s.toks + 1, by rw [List.size_toArray, hlen]⟩, q⟩
  · obtain ⟨its, r', pl, hz⟩ := I.tuple hq
    have hlen := r'.length
    exact len_tuple pl (by simp only [List.size_toArray] <;> omega) ⟨.int ys.length, H, I.tok _, ⟨s.toks + 1, by rw [List.size_toArray, hlen]⟩, q⟩
theorem CallR.or {f : Value} {r r' : List V → Hp → VK → Prop} (h : CallR X f r) (h' : CallR X f r') : CallR X f (fun xs H Q => r xs H Q ∨ r' xs H Q) := by
  intro pins s σ H xs us Q I rs q
  rcases q with q | q
  · exact h pins s σ H xs us Q I rs q
  · exact h' pins s σ H xs us Q I rs q
/-! ### the call of a builtin's method: o.m(..) -/
/-- the value is of that builtin type -/
def tyV (K : PySem.W.Frag) (T : String) (x : V) (H : Hp) : Prop := match x with
  | .str _ => T = "str"
  | .int _ => T = "int"
  | .ref p => (T = "list" ∧ ∃ xs, SqL K H p xs) ∨ (T = "tuple" ∧ ∃ o, K.lookup p = some o ∧ o.cls = .type "tuple" ∧ o.dict = none) ∨
      (T = "dict" ∧ ((∃ kvs, H p = some (.dK kvs)) ∨ ∃ kvs, H p = some (.dT kvs))) ∨ (T = "set" ∧ ∃ S n, H p = some (.set S n))
  | _ => False
theorem tyV_is {pins : List (Addr × Obj)} {σ : St} {H : Hp} {s : Shared} {T : String} {x : V} {v : Value} (I : Inv X pins σ H s) (r : RelV x v) (ty : tyV X.K T x H) :
    s.TypeIs v T ∧ ∀ a, v = .ref a → ∃ ob, s.heap.get? a = some ob ∧ ob.dict = none := by
  cases x with
  | str z =>
    obtain ⟨t, rfl⟩ := r
    cases (show T = "str" from ty)
    exact ⟨typeIs_str s z t, fun _ e => nomatch e⟩
  | int i =>
    obtain ⟨t, rfl⟩ := r
    cases (show T = "int" from ty)
    exact ⟨typeIs_int s i t, fun _ e => nomatch e⟩
  | ref p =>
    cases r
    rcases ty with ⟨rfl, xs, hq⟩ | ⟨rfl, o, hk, hc, hd⟩ | ⟨rfl, hk⟩ | ⟨rfl, S, n, hk⟩
    · obtain ⟨its, _, pl, _⟩ := I.list hq
      refine ⟨pl.isList.typeIs, fun a e => ?_⟩
      cases e
      obtain ⟨o, n, e, c, hd, _⟩ := pl
      exact ⟨o, e, hd⟩
    · refine ⟨⟨o, I.kIn p o hk, hc⟩, fun a e => ?_⟩
      cases e
      exact ⟨o, I.kIn _ o hk, hd⟩
    · have z : ∃ o, s.heap.get? p = some o ∧ o.ExactDict := by
        rcases hk with ⟨kvs, hk⟩ | ⟨kvs, hk⟩
        · obtain ⟨_, _, _, _, o, _, _, e, ex, _⟩ := I.hok p _ hk
          exact ⟨o, e, ex⟩
        · obtain ⟨_, _, _, _, o, _, _, e, ex, _⟩ := I.hok p _ hk
          exact ⟨o, e, ex⟩
      obtain ⟨o, e, ex⟩ := z
      refine ⟨⟨o, e, ex.1⟩, fun a e2 => ?_⟩
      cases e2
      exact ⟨o, e, ex.2.1⟩
    · obtain ⟨o, _, _, _, e, ex, _⟩ := I.hok p _ hk
      refine ⟨⟨o, e, ex.1⟩, fun a e2 => ?_⟩
      cases e2
      exact ⟨o, e, ex.2.1⟩
  | _ => exact False.elim ty
def tBM (K : PySem.W.Frag) (T : String) (r : V → List V → Hp → VK → Prop) (to : TE) (t : TA) : TE := fun σ H Q => to σ H fun x H1 => tyV K T x H1 ∧ t σ H1 fun xs H2 => r x xs H2 Q
variable {o e : Expr} {es : List Expr} {to : TE} {t : TA} {name : Str} {apos cpos : Pos} {T id : String} {r : V → List V → Hp → VK → Prop}
theorem pe_bm (pa : PlainAttrs T) (slot : Slot T name id) (hty : typeOf (.builtin id) = pure (.type "method_descriptor")) (hm : MtR X id r) (ho : PE X o to) (ha : PA X (e :: es) t)
    (hbase : attributeBase o name X.env (eval o X.env) = eval o X.env := by rfl)
    (hfew : ((backTo cpos (starEach (e :: es) X.env)).all (fun x => !x.1) && (backToKw cpos (keywordEach [] X.env)).all (fun x => x.1.isSome)
      && decide ((e :: es).length + ([] : List Keyword).length + (if ([] : List Keyword).isEmpty then 0 else 1) < 30)) = true := by rfl)
    (hline : (apos.endLine == cpos.line) = true := by rfl) (hs : starEach (e :: es) X.env = (false, eval e X.env) :: starEach es X.env := by rfl) (hplain : (backTo cpos (starEach es X.env)).any (·.1) = false := by rfl) :
    PE X (.Call (.Attribute o name apos) (e :: es) [] cpos) (tBM X.K T r to t) := by
  intro pins s σ H Q I h
  refine wpAny_Call_method_late hbase hfew hline rfl (thn (ho pins s σ H _ I h) fun v s1 ⟨x, H1, I1, r1, ty, q1⟩ => ?_)
  obtain ⟨h1, h2⟩ := tyV_is I1 r1 ty
  refine ⟨T, id, pa, slot, hty, h1, h2, ?_⟩
  have hA := ha cpos pins s1 σ H1 _ I1 q1
  rw [hs] at hA ⊢
  refine Calls.callWith_builtin (by show (false || (backTo cpos (starEach es X.env)).any (·.1)) = false; rw [hplain] <;> rfl) (Calls.evalArgs_plain ?_)
  exact thn hA fun us s2 ⟨vs, H2, I2, r2, q2⟩ => hm pins s2 σ H2 x vs v us Q I2 r1 r2 q2
end
end L2
namespace L2
open PySem PySem.Spec PyProof.Rows
def MtM (X : Cx) (id : String) (r : V → List V → Hp → VK → Prop) : Prop :=
  ∀ (pins : List (Addr × Obj)) (s : Shared) (σ : St) (H : Hp) (x : V) (xs : List V) (v : Value) (us : List Value) (Q : VK), Inv X pins σ H s → RelV x v → Vals xs us → r x xs H Q →
    wpAny (model X.prog X.w) X.A (call (.builtin id) (v :: us)) (EP X pins σ Q) X.xe s

/-! ### lists of values -/
theorem Vals.one : ∀ {x : V} {us : List Value}, Vals [x] us → ∃ u, us = [u] ∧ RelV x u
  | _, _, .cons r .nil => ⟨_, rfl, r⟩
theorem Vals.two : ∀ {x y : V} {us : List Value}, Vals [x, y] us → ∃ u v, us = [u, v] ∧ RelV x u ∧ RelV y v
  | _, _, _, .cons r (.cons q .nil) => ⟨_, _, rfl, r, q⟩
theorem Vals.dropLast {xs : List V} {us : List Value} (h : Vals xs us) : Vals xs.dropLast us.dropLast := by
  induction h with
  | nil => exact .nil
  | cons r t ih =>
    cases t with
    | nil => exact .nil
    | cons q t' => exact .cons r ih
theorem Vals.rep {xs : List V} {us : List Value} (h : Vals xs us) : ∀ k : Nat, Vals (List.replicate k xs).flatten (List.replicate k us).flatten
  | 0 => .nil
  | k + 1 => by
    rw [List.replicate_succ, List.replicate_succ, List.flatten_cons, List.flatten_cons]
    exact Vals.append h (Vals.rep h k)
section
variable {X : Cx} {pins : List (Addr × Obj)} {σ : St} {H : Hp} {s : Shared} {l b : Addr} {xs ys zs : List V}

/-! ### the two steps: a tracked list is rewritten, a new list is laid -/
theorem Inv.lset {its its' : List Value} {n : Nat} {f : Array Value → Array Value} {t' : Nat} (I : Inv X pins σ H s) (hH : H l = some (.lst xs))
    (e : s.heap.get? l = some { cls := .type "list", data := .seq its.toArray n }) (hf : f its.toArray = its'.toArray) (hv : Vals ys its') (hz : ys.length ≤ sizeLine) :
    Inv X pins σ (upd H l (.lst ys)) { s with heap := s.heap.update l (Obj.mapSeq f), toks := t' } := by
  have q := PySem.IsL.update e f
  rw [hf] at q
  refine I.write (x := l) (e := l) (by rw [hH]; exact trivial) (.inl rfl) (fun b' u hb hu => (Heap.get?_update_other s.heap (Obj.mapSeq f) (Ne.symm hb)).trans hu) ⟨_, q⟩ ?_
  exact ⟨hz, its', _, hv, q⟩
theorem Inv.lnew {its : List Value} {t' : Nat} (I : Inv X pins σ H s) (hv : Vals ys its) (hz : ys.length ≤ sizeLine) :
    Inv X pins σ (upd H s.heap.objs.size (.lst ys)) { s with heap := s.heap.push { cls := .type "list", data := .seq its.toArray }, toks := t' } :=
  I.laid (fun _ _ q => Heap.get?_push_of_some _ q) (Nat.le_refl _) ⟨hz, its, 0, hv, Heap.get?_push_size _ rfl⟩
theorem Inv.fresh (I : Inv X pins σ H s) : H s.heap.objs.size = none := I.hok.fresh (Nat.le_refl _)
theorem Inv.lstM (I : Inv X pins σ H s) (hH : H l = some (.lst xs)) : xs.length ≤ sizeLine ∧ ∃ (its : List Value) (n : Nat), Vals xs its ∧ xs.length = its.length ∧ s.heap.get? l = some { cls := .type "list", data := .seq its.toArray n } := by
  obtain ⟨z, its, n, r, e⟩ := I.hok l _ hH
  exact ⟨z, its, n, r, r.length, e⟩

theorem notLongL {n : Nat} (h : n ≤ sizeLine) : Builtin.List.listTooLong n = false := by
  unfold Builtin.List.listTooLong
  exact decide_eq_false (by omega)
end
section
variable {X : Cx}

/-! ### methods -/
def rAppend : V → List V → Hp → VK → Prop := fun x vs H Q => ∃ l xs y, x = .ref l ∧ vs = [y] ∧ H l = some (.lst xs) ∧ xs.length < sizeLine ∧ Q .non (upd H l (.lst (xs ++ [y])))
theorem mt_append : MtM X "list.append" rAppend := by
  intro pins s σ H x vs v us Q I rx rv h
  obtain ⟨l, xs, y, rfl, rfl, hH, hz, q⟩ := h
  cases rx
  obtain ⟨u, rfl, ru⟩ := rv.one
  obtain ⟨z, its, n, r, hl, e⟩ := I.lstM hH
  refine call_meets F.slot_list_append ⟨_, e, rfl⟩ F.entry_list_append (F.args_list_append_2 _ _) (PySem.list_append l its.toArray n u (by rw [List.size_toArray]; omega)) ⟨e, ?_⟩
  refine ⟨.non, _, I.lset (its' := its ++ [u]) hH e (by simp) (r.append (.cons ru .nil)) ?_, rfl, q⟩
  rw [List.length_append, List.length_singleton]
  omega

def rExtend : V → List V → Hp → VK → Prop := fun x vs H Q => ∃ l b xs zs, x = .ref l ∧ vs = [.ref b] ∧ H l = some (.lst xs) ∧ H b = some (.lst zs) ∧ xs.length + zs.length ≤ sizeLine ∧ Q .non (upd H l (.lst (xs ++ zs)))
theorem mt_extend : MtM X "list.extend" rExtend := by
  intro pins s σ H x vs v us Q I rx rv h
  obtain ⟨l, b, xs, zs, rfl, rfl, hH, hB, hz, q⟩ := h
  cases rx
  obtain ⟨u, rfl, ru⟩ := rv.one
  cases ru
  obtain ⟨z, its, n, r, hl, e⟩ := I.lstM hH
  obtain ⟨z2, its2, n2, r2, hl2, e2⟩ := I.lstM hB
  have hsz : its.toArray.size + its2.toArray.size ≤ sizeLine := by rw [List.size_toArray, List.size_toArray]; omega
  have hlong : ¬ (!its.toArray.isEmpty && Builtin.List.listTooLong (its.toArray.size + its2.toArray.size)) = true := by
    rw [notLongL hsz, Bool.and_false]
    exact Bool.false_ne_true
  refine call_meets F.slot_list_extend ⟨_, e, rfl⟩ F.entry_list_extend (F.args_list_extend_2 _ _)
    (AutoSeq1.list_extend_list_list_0 l its.toArray n b its2.toArray n2 hlong (by rw [List.size_toArray]; omega) (by omega)) ⟨e, e2, ?_⟩
  refine ⟨.non, _, I.lset (its' := its ++ its2) hH e (by simp) (r.append r2) ?_, rfl, q⟩
  rw [List.length_append]
  omega

/-! ### list + list, list += list, list * int -/
def rCat : R2 := fun x y H Q => ∃ l b xs zs, x = .ref l ∧ y = .ref b ∧ H l = some (.lst xs) ∧ H b = some (.lst zs) ∧ xs.length + zs.length ≤ sizeLine ∧ ∀ p, H p = none → Q (.ref p) (upd H p (.lst (xs ++ zs)))
theorem op_cat : OpR X (binaryOp .Add) rCat := by
  intro pins s σ H x y v u Q I rx ry h
  obtain ⟨l, b, xs, zs, rfl, rfl, hH, hB, hz, q⟩ := h
  cases rx
  cases ry
  obtain ⟨z, its, n, r, hl, e⟩ := I.lstM hH
  obtain ⟨z2, its2, n2, r2, hl2, e2⟩ := I.lstM hB
  refine PySem.P.add_list e e2 ?_ (by rw [List.size_toArray, List.size_toArray]; omega)
  have ea : its.toArray ++ its2.toArray = (its ++ its2).toArray := by simp
  rw [ea]
  exact ⟨.ref _, _, I.lnew (t' := s.toks) (r.append r2) (by rw [List.length_append]; omega), rfl, q _ I.fresh⟩
end
section
variable {prog : Program} {w : World} {A : Around} {E : Value → Shared → Prop} {s : Shared}
set_option maxRecDepth 100000 in
end
end L2
namespace L2
open PySem PySem.Spec PyProof.Rows
theorem Vals.ints : ∀ {ns : List Int} {us : List Value}, Vals (ns.map V.int) us → IntsAre us ns
  | [], us, h => by
    rw [List.map_nil] at h
    cases h
    exact IntsAre.nil
  | n :: ns, us, h => by
    rw [List.map_cons] at h
    cases h with
    | cons r t =>
      obtain ⟨k, rfl⟩ := r
      exact IntsAre.cons n k (Vals.ints t)
theorem Vals.strs : ∀ {xs : List Str} {us : List Value}, Vals (xs.map V.str) us → StrsAre us xs
  | [], us, h => by
    rw [List.map_nil] at h
    cases h
    exact StrsAre.nil
  | x :: xs, us, h => by
    rw [List.map_cons] at h
    cases h with
    | cons r t =>
      obtain ⟨k, rfl⟩ := r
      exact StrsAre.cons x k (Vals.strs t)
theorem Vals.bls : ∀ {bs : List Bool} {us : List Value}, Vals (bs.map V.bl) us → us = bs.map Value.bool
  | [], us, h => by
    rw [List.map_nil] at h
    cases h
    rfl
  | b :: bs, us, h => by
    rw [List.map_cons] at h
    cases h with
    | cons r t =>
      cases r
      rw [Vals.bls t, List.map_cons]
theorem Vals.ref1 {a : Addr} {us : List Value} (r : Vals [V.ref a] us) : us = [Value.ref a] := by
  cases r with
  | cons r t =>
    cases t
    cases r
    rfl
/-! ### any(xs), all(xs) of a list of bools -/
theorem iter_any {prog : Program} {w : World} {A : Around} {E : Value → Shared → Prop} {s : Shared} {l : Addr} {items : Array Value} {Q : Value → Shared → Prop} (hl : s.heap.IsList l items)
    (h : ∀ s₂ : Shared, s₂ = { s with heap := s.heap.push { cls := .type "list_iterator", data := .fields #[.ref l, .int 0 0] } } →
      (s₂.heap.IsListIter s.heap.objs.size l 0 ∧ s₂.heap.IsList l items) → l ≠ s.heap.objs.size → Q (.ref s.heap.objs.size) s₂) : wpAny (model prog w) A (pyIter (.ref l)) Q E s := by
  have hlt : l < s.heap.objs.size := by obtain ⟨_, e, _⟩ := hl; exact Heap.lt_size e
  exact wpAny_pyIter_list hl (h _ rfl ⟨⟨_, Heap.get?_push_size _ rfl, rfl, rfl⟩, hl.push _⟩ (Nat.ne_of_lt hlt))
theorem truth_bools {prog : Program} {w : World} {A : Around} {bs : List Bool} {its : List Value} (e : its = bs.map Value.bool) :
    TruthOf prog w A (fun i v => its.toArray[i]? = some v) (fun i => bs.getD i false) := fun i v s Q E hv hq => by
  have hv' : its[i]? = some v := by simpa using hv
  rw [e, List.getElem?_map] at hv'
  obtain ⟨b, hb, rfl⟩ := Option.map_eq_some_iff.mp hv'
  have hg : bs.getD i false = b := by rw [List.getD_eq_getElem?_getD, hb] <;> rfl
  have hq' : Q (bs.getD i false) s := hq
  rw [hg] at hq'
  exact wpAny_truthy_bool hq'
theorem any_range : ∀ bs : List Bool, (List.range bs.length).any (fun i => bs.getD i false) = bs.any id
  | [] => rfl
  | b :: bs => by
    rw [List.length_cons, List.range_succ_eq_map, List.any_cons, List.any_map, List.any_cons, ← any_range bs]
    all_goals rfl
section
variable {X : Cx}
def rAny (K : PySem.W.Frag) : List V → Hp → VK → Prop := fun vs H Q => ∃ (a : Addr) (bs : List Bool), vs = [V.ref a] ∧ SqL K H a (bs.map V.bl) ∧ Q (.bl (bs.any id)) H
theorem cr_any (hc : X.calm = true) : CallR X (.builtin "any") (rAny X.K) := by
  intro pins s σ H vs us Q I r h
  obtain ⟨a, bs, rfl, hs, q⟩ := h
  obtain ⟨its, rv, hl, _⟩ := I.list hs
  rw [Vals.ref1 r]
  have hb := rv.bls
  refine call_any_walk (iter_any hl.isList fun s₂ e2 st hne => ?_)
  subst e2
  refine ⟨_, _, _, _, _, _, _, rfl, Walks.list (A := X.A.in1) (I.ok.hd hc) _ a hne its.toArray, st, truth_bools hb, fun h' tk hk => ?_⟩
  refine ⟨.bl _, H, I.kept fun b o eo => hk b o (fun hmem => ?_) (Heap.get?_push_of_some _ eo), ?_, q⟩
  · rcases List.mem_cons.mp hmem with e1 | hmem
    · exact absurd (e1 ▸ Heap.lt_size eo) (Nat.lt_irrefl _)
    · cases hmem
  · show Value.bool _ = Value.bool _
    rw [← any_range, hb, List.size_toArray, List.length_map]
end
end L2
namespace L2
open PySem PySem.Spec PyProof.Rows
abbrev CellAt (h : Heap) (c : Addr) (v : Option Value) : Prop := h.IsCell c v
def relS (scope sc : Scope) : Scope :=
  { scope with names := scope.names.map fun (n, k) => if (k == .free && sc.kind == .function && sc.names.lookup n == some .cell) then (n, .cell) else (n, k) }

def cloFrom (cells : List (Str × Addr)) : List (Str × NameKind) → List (Str × Addr) → List (Str × Addr)
  | [], acc => acc
  | (n, k) :: r, acc => if k == .free then cloFrom cells r ((n, (cells.lookup n).getD 0) :: acc) else cloFrom cells r acc

theorem closure_loop (env : Env) (f : Str × NameKind → List (Str × Addr) → Sem (ForInStep (List (Str × Addr))))
    (hf : ∀ n k c, f (n, k) c = if k == .free then (do let a ← cellOf env n; pure (.yield ((n, a) :: c))) else pure (.yield c)) :
    ∀ (names : List (Str × NameKind)) (acc : List (Str × Addr)), (∀ y ∈ names, y.2 = .free → ∃ c, env.cells.lookup y.1 = some c) → forIn names acc f = pure (cloFrom env.cells names acc)
  | [], acc, _ => by rw [List.forIn_nil]; rfl
  | (n, k) :: r, acc, h => by
    rw [List.forIn_cons, hf]
    have ih := fun acc => closure_loop env f hf r acc fun y hy => h y (List.mem_cons_of_mem _ hy)
    unfold cloFrom
    by_cases hk : (k == NameKind.free) = true
    · rw [if_pos hk, if_pos hk]
      obtain ⟨c, hc⟩ := h (n, k) List.mem_cons_self (by simpa using hk)
      have e : cellOf env n = pure c := by unfold cellOf; rw [hc]
      rw [e]
      have e2 : (env.cells.lookup n).getD 0 = c := by rw [hc]; rfl
      rw [e2]
      exact ih _
    · rw [if_neg hk, if_neg hk]
      exact ih _
theorem closure_ok {scope : Scope} {env : Env} (h : ∀ y ∈ scope.names, y.2 = .free → ∃ c, env.cells.lookup y.1 = some c) : closureFor scope env = pure (cloFrom env.cells scope.names []) := by
  simp only [closureFor]
  rw [closure_loop env _ (fun n k c => rfl) scope.names [] h]
  rfl

theorem mem_lookup {α : Type} : ∀ {l : List (Str × α)} {n : Str} {c : α}, (n, c) ∈ l → ∃ c', l.lookup n = some c'
  | (k, v) :: r, n, c, h => by
    rw [List.lookup_cons]
    cases hb : n == k with
    | true => exact ⟨_, rfl⟩
    | false =>
      rcases List.mem_cons.mp h with e | h
      · cases e; simp at hb
      · exact mem_lookup h

theorem cloFrom_mem {cells : List (Str × Addr)} : ∀ {names : List (Str × NameKind)} {acc : List (Str × Addr)} {n : Str} {c : Addr}, (n, c) ∈ cloFrom cells names acc → (n, c) ∈ acc ∨ ((n, .free) ∈ names ∧ c = (cells.lookup n).getD 0)
  | [], _, _, _, h => .inl h
  | (m, k) :: r, acc, n, c, h => by
    unfold cloFrom at h
    split at h
    · rename_i hk
      have hk : k = .free := by simpa using hk
      rcases cloFrom_mem h with h | ⟨h1, h2⟩
      · rcases List.mem_cons.mp h with e | h
        · cases e; exact .inr ⟨hk ▸ List.mem_cons_self, rfl⟩
        · exact .inl h
      · exact .inr ⟨List.mem_cons_of_mem _ h1, h2⟩
    · rcases cloFrom_mem h with h | ⟨h1, h2⟩
      · exact .inl h
      · exact .inr ⟨List.mem_cons_of_mem _ h1, h2⟩
theorem cloFrom_acc {cells : List (Str × Addr)} : ∀ {names : List (Str × NameKind)} {acc : List (Str × Addr)} {p : Str × Addr}, p ∈ acc → p ∈ cloFrom cells names acc
  | [], _, _, h => h
  | (m, k) :: r, acc, p, h => by
    unfold cloFrom
    split
    · exact cloFrom_acc (List.mem_cons_of_mem _ h)
    · exact cloFrom_acc h
theorem cloFrom_has {cells : List (Str × Addr)} : ∀ {names : List (Str × NameKind)} {acc : List (Str × Addr)} {n : Str}, (n, .free) ∈ names → (n, (cells.lookup n).getD 0) ∈ cloFrom cells names acc
  | (m, k) :: r, acc, n, h => by
    unfold cloFrom
    rcases List.mem_cons.mp h with e | h
    · cases e
      exact cloFrom_acc List.mem_cons_self
    · split
      · exact cloFrom_has h
      · exact cloFrom_has h

theorem cells_mem : ∀ {names : List (Str × NameKind)} {h : Heap} {acc : List (Str × Addr)} {x : Str} {c : Addr}, (x, c) ∈ cellsFrom h.objs.size names acc →
    (x, c) ∈ acc ∨ ((x, .cell) ∈ names ∧ h.objs.size ≤ c ∧ CellAt (pushCells h names) c none)
  | [], _, _, _, _, h => .inl h
  | (n, k) :: r, h, acc, x, c, hm => by
    unfold cellsFrom at hm
    unfold pushCells
    split at hm
    · rename_i hk
      rw [if_pos hk]
      have hk : k = .cell := by simpa using hk
      rw [← Heap.size_push h { cls := .type "cell", data := .cell none }] at hm
      rcases cells_mem hm with hm | ⟨h1, h2, h3⟩
      · rcases List.mem_cons.mp hm with e | hm
        · cases e
          exact .inr ⟨hk ▸ List.mem_cons_self, Nat.le_refl _, _, pushCells_keeps r _ _ _ (Heap.get?_push_size _ rfl), rfl⟩
        · exact .inl hm
      · rw [Heap.size_push] at h2
        exact .inr ⟨List.mem_cons_of_mem _ h1, Nat.le_of_succ_le h2, h3⟩
    · rename_i hk
      rw [if_neg hk]
      rcases cells_mem hm with hm | ⟨h1, h2, h3⟩
      · exact .inl hm
      · exact .inr ⟨List.mem_cons_of_mem _ h1, h2, h3⟩
theorem cells_acc : ∀ {names : List (Str × NameKind)} {n : Nat} {acc : List (Str × Addr)} {p : Str × Addr}, p ∈ acc → p ∈ cellsFrom n names acc
  | [], _, _, _, h => h
  | (m, k) :: r, n, acc, p, h => by
    unfold cellsFrom
    split
    · exact cells_acc (List.mem_cons_of_mem _ h)
    · exact cells_acc h
theorem cells_has : ∀ {names : List (Str × NameKind)} {n : Nat} {acc : List (Str × Addr)} {x : Str}, (x, .cell) ∈ names → ∃ c, (x, c) ∈ cellsFrom n names acc
  | (m, k) :: r, n, acc, x, h => by
    unfold cellsFrom
    rcases List.mem_cons.mp h with e | h
    · cases e
      exact ⟨n, cells_acc List.mem_cons_self⟩
    · split
      · exact cells_has h
      · exact cells_has h
theorem cells_inj : ∀ {names : List (Str × NameKind)} {h : Heap} {acc : List (Str × Addr)} {x y : Str} {c : Addr}, (∀ p ∈ acc, p.2 < h.objs.size) → (∀ x y c, (x, c) ∈ acc → (y, c) ∈ acc → x = y) →
    (x, c) ∈ cellsFrom h.objs.size names acc → (y, c) ∈ cellsFrom h.objs.size names acc → x = y
  | [], _, _, _, _, _, _, hi, h1, h2 => hi _ _ _ h1 h2
  | (n, k) :: r, h, acc, x, y, c, hl, hi, h1, h2 => by
    unfold cellsFrom at h1 h2
    split at h1
    · rename_i hk
      rw [if_pos hk] at h2
      rw [← Heap.size_push h { cls := .type "cell", data := .cell none }] at h1 h2
      refine cells_inj (h := h.push _) (fun p hp => ?_) (fun x y c a b => ?_) h1 h2
      · rw [Heap.size_push]
        rcases List.mem_cons.mp hp with rfl | hp
        · exact Nat.lt_succ_self _
        · exact Nat.lt_succ_of_lt (hl p hp)
      · rcases List.mem_cons.mp a with e | a <;> rcases List.mem_cons.mp b with e' | b
        · cases e; cases e'; rfl
        · cases e; exact absurd (hl _ b) (Nat.lt_irrefl _)
        · cases e'; exact absurd (hl _ a) (Nat.lt_irrefl _)
        · exact hi _ _ _ a b
    · rename_i hk
      rw [if_neg hk] at h2
      exact cells_inj hl hi h1 h2

theorem newEnv_comp {M : Model} {A : Around} {E : Value → Shared → Prop} {s : Shared} {scope : Scope} {globals : Addr} {closure : List (Str × Addr)} {qual : Str} {func : Option Addr} {code : Value} {around : Env} {builtins : Addr} {Q : Env → Shared → Prop}
    (h : Q (newEnv scope s.heap.objs.size globals (cellsFrom (s.heap.objs.size + 1) scope.names closure) qual func code (some around) builtins)
      { s with heap := pushCells (s.heap.push { cls := .type "dict", data := .dict #[] }) scope.names }) :
    wpAny M A (newFunctionEnv scope globals closure [] qual func code (some around) builtins) Q E s := by
  simp only [newFunctionEnv, Option.isSome_some, if_true]
  refine wpAny_bind (wpAny_alloc ?_)
  refine wpAny_bind (wpAny_layCells _ (fun n k c => rfl) scope.names closure _ _ ?_)
  rw [show ({ s with heap := s.heap.push { cls := .type "dict", data := .dict #[] } } : Shared).heap.objs.size = s.heap.objs.size + 1 from Heap.size_push ..]
  rw [List.forIn_nil]
  exact wpAny_bind (wpAny_pure (wpAny_pure h))

/-- every name of the written scope, in the scope that runs -/
theorem lookup_relS {sc : Scope} : ∀ {names : List (Str × NameKind)} {x : Str} {k : NameKind},
    (names.map fun (n, k) => if (k == NameKind.free && sc.kind == .function && sc.names.lookup n == some .cell) then (n, NameKind.cell) else (n, k)).lookup x = some k →
    ∃ k', names.lookup x = some k' ∧ (k = k' ∨ (k' = .free ∧ k = .cell))
  | [], _, _, h => by simp at h
  | (n, k₀) :: r, x, k, h => by
    have ih := @lookup_relS sc r x k
    have h' : List.lookup x ((if (k₀ == NameKind.free && sc.kind == .function && sc.names.lookup n == some .cell) = true then (n, NameKind.cell) else (n, k₀)) :: (r.map _)) = some k := h
    cases hx : x == n with
    | true =>
      simp only [List.lookup_cons, hx]
      by_cases hc : (k₀ == NameKind.free && sc.kind == .function && sc.names.lookup n == some .cell) = true
      · rw [if_pos hc] at h'
        simp only [List.lookup_cons, hx] at h'
        cases h'
        simp only [Bool.and_eq_true, beq_iff_eq] at hc
        exact ⟨k₀, rfl, .inr ⟨hc.1.1, rfl⟩⟩
      · rw [if_neg hc] at h'
        simp only [List.lookup_cons, hx] at h'
        cases h'
        exact ⟨_, rfl, .inl rfl⟩
    | false =>
      simp only [List.lookup_cons, hx]
      by_cases hc : (k₀ == NameKind.free && sc.kind == .function && sc.names.lookup n == some .cell) = true
      · rw [if_pos hc] at h'
        simp only [List.lookup_cons, hx] at h'
        exact ih h'
      · rw [if_neg hc] at h'
        simp only [List.lookup_cons, hx] at h'
        exact ih h'
/-- the names of a comprehension's block: its own (with their places in N), or captured -/
structure BlkOk (N : List Str) (sc scope : Scope) (own : List (Str × Nat)) : Prop where
  kind : scope.kind = .function
  uniq : ∀ y ∈ scope.names, scope.names.lookup y.1 = some y.2
  ix : ∀ p ∈ own, N[p.2]? = some p.1
  free : ∀ y ∈ scope.names, y.2 = .free → sc.names.lookup y.1 = some .cell ∨ sc.names.lookup y.1 = some .free
  own : ∀ y ∈ scope.names, y.2 = .local ∨ y.2 = .cell → y.1 ∈ own.map (·.1) ∨ y.1 ∉ N
/-- the slots of the block's own names forgotten -/
def wipe (σ : St) : List Nat → St
  | [] => σ
  | v :: vs => (wipe σ vs).set v none
theorem wipe_length (σ : St) : ∀ vs : List Nat, (wipe σ vs).length = σ.length
  | [] => rfl
  | v :: vs => by unfold wipe; rw [List.length_set, wipe_length σ vs]
theorem wipe_some {σ : St} {i : Nat} {x : V} : ∀ {vs : List Nat}, (wipe σ vs)[i]? = some (some x) → σ[i]? = some (some x) ∧ i ∉ vs
  | [], h => ⟨h, by simp⟩
  | v :: vs, h => by
    unfold wipe at h
    by_cases hi : v = i
    · subst hi
      by_cases hv : v < (wipe σ vs).length
      · rw [List.getElem?_set_self hv] at h; cases h
      · rw [List.getElem?_eq_none (by simpa using hv)] at h; cases h
    · rw [List.getElem?_set_ne hi] at h
      obtain ⟨h1, h2⟩ := wipe_some h
      exact ⟨h1, by simp only [List.mem_cons, not_or]; exact ⟨fun e => hi e.symm, h2⟩⟩

/-- the context of a block that starts at s, its iterator's objects at fp -/
abbrev Cx.blk (X : Cx) (s : Shared) (H : Hp) (scope : Scope) (cenv : Env) (fp : List Addr) : Cx := { X with s₀ := s, H₀ := H, env := cenv, outer := X.stack, ex := fp, fn := fun x => scope.names.lookup x == some .cell, pn := [], xe := fun _ _ => False }
section
variable {X : Cx} {pins : List (Addr × Obj)} {σ : St} {H : Hp} {s : Shared}
theorem block_start {scope : Scope} {own : List (Str × Nat)} {fp : List Addr} (I : Inv X pins σ H s) (ok : BlkOk X.N X.env.scope scope own) (hN : X.N.Nodup) (hfp : ∀ b ∈ fp, FpOk X pins H b ∧ b < s.heap.objs.size) :
    Inv (X.blk s H scope (compEnvC scope (cellsFrom (s.heap.objs.size + 1) scope.names (cloFrom X.env.cells scope.names [])) s.heap.objs.size X.env) fp) [] (wipe σ (own.map (·.2))) H { s with heap := pushCells (s.heap.push { cls := .type "dict", data := .dict #[] }) scope.names } := by
  have hfree : ∀ y ∈ scope.names, y.2 = .free → ∃ c, X.env.cells.lookup y.1 = some c := fun y hy e => by
    rcases ok.free y hy e with k | k
    · exact I.ok.has _ (.inl k)
    · exact I.ok.has _ (.inr k)
  generalize hcenv : compEnvC scope (cellsFrom (s.heap.objs.size + 1) scope.names (cloFrom X.env.cells scope.names [])) s.heap.objs.size X.env = cenv
  have kp : ∀ b o, s.heap.get? b = some o → (pushCells (s.heap.push { cls := .type "dict", data := .dict #[] }) scope.names).get? b = some o := fun b o e => pushCells_keeps _ _ _ _ (Heap.get?_push_of_some _ e)
  have hL : cenv.locals = s.heap.objs.size := by rw [← hcenv]; rfl
  have hcl : cenv.cells = cellsFrom (s.heap.objs.size + 1) scope.names (cloFrom X.env.cells scope.names []) := by rw [← hcenv]; rfl
  have hsc : cenv.scope = relS scope X.env.scope := by rw [← hcenv]; rfl
  rw [← Heap.size_push s.heap { cls := .type "dict", data := .dict #[] }] at hcl
  have cm : ∀ {y c}, (y, c) ∈ cloFrom X.env.cells scope.names [] → X.env.cells.lookup y = some c ∧ c < s.heap.objs.size := fun {y c} hm => by
    rcases cloFrom_mem hm with hm | ⟨h1, rfl⟩
    · cases hm
    · obtain ⟨c, hc⟩ := hfree _ h1 rfl
      rw [hc]
      obtain ⟨w, z⟩ := I.cell _ _ hc
      exact ⟨rfl, z.lt⟩
  have mem : ∀ {y c}, cenv.cells.lookup y = some c → (X.env.cells.lookup y = some c ∧ c < s.heap.objs.size) ∨ (s.heap.objs.size + 1 ≤ c ∧ CellAt (pushCells (s.heap.push { cls := .type "dict", data := .dict #[] }) scope.names) c none) := fun {y c} e => by
    rw [hcl] at e
    rcases cells_mem (PySem.mem_of_lookup e) with hm | ⟨_, h2, h3⟩
    · exact .inl (cm hm)
    · rw [Heap.size_push] at h2; exact .inr ⟨h2, h3⟩
  have look : ∀ {y}, scope.names.lookup y = some .free → ∃ c, cenv.cells.lookup y = some c ∧ X.env.cells.lookup y = some c := fun {y} hl => by
    have hy : (y, NameKind.free) ∈ scope.names := PySem.mem_of_lookup hl
    obtain ⟨c', e'⟩ := mem_lookup (cells_acc (names := scope.names) (n := (s.heap.push { cls := .type "dict", data := .dict #[] }).objs.size) (cloFrom_has (cells := X.env.cells) (acc := []) hy))
    rw [← hcl] at e'
    refine ⟨c', e', ?_⟩
    rw [hcl] at e'
    rcases cells_mem (PySem.mem_of_lookup e') with hm | ⟨h1, _, _⟩
    · exact (cm hm).1
    · have := ok.uniq _ h1
      rw [hl] at this; cases this
  have okB : (X.blk s H scope cenv fp).Ok := by
    refine ⟨I.ok.mod, by show cenv.scope.kind = _; rw [hsc]; exact ok.kind, by show cenv.globals = _; rw [← hcenv]; exact I.ok.glob, by show cenv.builtins = _; rw [← hcenv]; exact I.ok.blt, by show s.heap.objs.size ≤ cenv.locals; rw [hL]; exact Nat.le_refl _,
      fun y z c e1 e2 => ?_, fun y hy => ?_, fun y c z e => ?_, I.ok.hd, I.ok.frames, .inl rfl, fun b hb => ⟨?_, fun y c e z => ?_⟩, I.bs, Nat.le_trans I.ok.bsz I.sz, fun b o e hb => ?_, fun b hb z => ?_, I.stack, I.stkFree⟩
    · have e1 : cenv.cells.lookup y = some c := e1
      have e2 : cenv.cells.lookup z = some c := e2
      rw [hcl] at e1 e2
      refine cells_inj (fun p hp => ?_) (fun y z c a b => I.ok.inj y z c (cm a).1 (cm b).1) (PySem.mem_of_lookup e1) (PySem.mem_of_lookup e2)
      rw [Heap.size_push]
      exact Nat.lt_succ_of_lt (cm (y := p.1) (c := p.2) hp).2
    · show ∃ c, cenv.cells.lookup y = some c
      have key : ∀ k, cenv.kindOf y = some k → (k = .cell ∨ k = .free) → ∃ c, cenv.cells.lookup y = some c := fun k hk hk' => by
        unfold Env.kindOf at hk
        rw [hsc] at hk
        obtain ⟨k', e, r⟩ := lookup_relS hk
        have : k' = .cell ∨ k' = .free := by
          rcases r with rfl | ⟨rfl, _⟩
          · exact hk'
          · exact .inr rfl
        rcases this with rfl | rfl
        · obtain ⟨c, hm⟩ := cells_has (n := (s.heap.push { cls := .type "dict", data := .dict #[] }).objs.size) (acc := cloFrom X.env.cells scope.names []) (PySem.mem_of_lookup e)
          obtain ⟨c', e'⟩ := mem_lookup hm
          exact ⟨c', by rw [hcl]; exact e'⟩
        · obtain ⟨c, h1, _⟩ := look e
          exact ⟨c, h1⟩
      rcases hy with hy | hy
      · exact key _ hy (.inl rfl)
      · exact key _ hy (.inr rfl)
    · have z : (scope.names.lookup y == some NameKind.cell) = true := z
      have z : scope.names.lookup y = some .cell := by simpa using z
      have e : cenv.cells.lookup y = some c := e
      rw [hcl] at e
      rcases cells_mem (PySem.mem_of_lookup e) with hm | ⟨_, h2, _⟩
      · rcases cloFrom_mem hm with hm | ⟨h1, _⟩
        · cases hm
        · have q := ok.uniq _ h1
          rw [z] at q; cases q
      · rw [Heap.size_push] at h2
        exact Nat.le_of_succ_le h2
    · show b ≠ cenv.locals
      rw [hL]; exact Nat.ne_of_lt (hfp b hb).2
    · have e : cenv.cells.lookup y = some c := e
      rcases mem e with ⟨h1, _⟩ | ⟨h1, _⟩
      · exact (hfp b hb).1.2.2.2.2.1 y c h1 z
      · have h2 : s.heap.objs.size + 1 ≤ b := by rw [← z]; exact h1
        exact absurd (Nat.lt_of_lt_of_le (hfp b hb).2 (Nat.le_of_succ_le h2)) (Nat.lt_irrefl _)
    · rcases (hfp b hb).1.2.2.2.1 with z | z
      · exact I.ok.noex b o e z
      · exact absurd (Nat.lt_of_lt_of_le (Heap.lt_size e) (Nat.le_trans I.ok.bsz z)) (Nat.lt_irrefl _)
    · rcases List.mem_cons.mp (I.stkSub b z) with z | z
      · exact (hfp b hb).1.2.1 z
      · exact (hfp b hb).1.2.2.1 z
  refine ⟨okB, rfl, I.bare, Un.kept kp, ⟨fun _ => none, ?_, fun i y av e1 e2 e3 => ?_⟩, fun y c e => ?_, ?_, fun y c e => ?_, fun p hp => ?_, I.hok.kept kp, by rw [wipe_length]; exact I.len⟩
  · show Heap.Ns _ cenv.locals _
    rw [hL]
    exact Heap.Ns.keeps (Heap.Ns.new ..) fun b o e => pushCells_keeps _ _ _ _ e
  · obtain ⟨e2, hne⟩ := wipe_some e2
    have hfr : scope.names.lookup y = some .free ∧ (cenv.kindOf y = some .cell ∨ cenv.kindOf y = some .free) := by
      have key : ∀ k, cenv.scope.names.lookup y = some k → k = .local ∨ k = .cell ∨ k = .free → scope.names.lookup y = some .free ∧ (cenv.kindOf y = some .cell ∨ cenv.kindOf y = some .free) := fun k hk hk' => by
        have hk0 := hk
        rw [hsc] at hk
        obtain ⟨k', e, r⟩ := lookup_relS hk
        have no : ¬ (k' = .local ∨ k' = .cell) := fun hh => by
          rcases ok.own _ (PySem.mem_of_lookup e) hh with e' | e'
          · obtain ⟨p, hp, hpy⟩ := List.mem_map.mp e'
            have e3 := ok.ix p hp
            have : p.1 = y := hpy
            rw [this] at e3
            exact hne (List.mem_map.mpr ⟨p, hp, nodup_ix hN e3 e1⟩)
          · exact e' (List.mem_of_getElem? e1)
        rcases r with rfl | ⟨rfl, rfl⟩
        · rcases hk' with rfl | rfl | rfl
          · exact absurd (.inl rfl) no
          · exact absurd (.inr rfl) no
          · exact ⟨e, .inr hk0⟩
        · exact ⟨e, .inl hk0⟩
      have e3 : Vis cenv.scope y := e3
      rcases e3 with e3 | e3 | e3
      · exact key _ e3 (.inl rfl)
      · exact key _ e3 (.inr (.inl rfl))
      · exact key _ e3 (.inr (.inr rfl))
    obtain ⟨m, hn, hl⟩ := I.loc
    have hvis : Vis X.env.scope y := (ok.free _ (PySem.mem_of_lookup hfr.1) rfl).elim (fun k => .inr (.inl k)) (fun k => .inr (.inr k))
    obtain ⟨w, r, q⟩ := hl i y av e1 e2 hvis
    refine ⟨w, r, .inr ⟨hfr.2, ?_⟩⟩
    obtain ⟨c, h1, h2⟩ := look hfr.1
    rcases q with ⟨k, _⟩ | ⟨_, c', e', z⟩
    · have k : X.env.scope.names.lookup y = some .local := k
      rcases ok.free _ (PySem.mem_of_lookup hfr.1) rfl with k' | k' <;> rw [show X.env.scope.names.lookup y = _ from k'] at k <;> cases k
    · rw [h2] at e'; cases e'
      exact ⟨c, h1, z.keeps kp⟩
  · have e : cenv.cells.lookup y = some c := e
    rcases mem e with ⟨h1, _⟩ | ⟨_, z⟩
    · obtain ⟨w, z⟩ := I.cell y c h1
      exact ⟨w, z.keeps kp⟩
    · exact ⟨_, z⟩
  · show H cenv.locals = none
    rw [hL]; exact I.hok.fresh (Nat.le_refl _)
  · have e : cenv.cells.lookup y = some c := e
    rcases mem e with ⟨h1, _⟩ | ⟨h1, _⟩
    · exact I.freeC y c h1
    · exact I.hok.fresh (Nat.le_of_succ_le h1)
  · exact absurd (show p ∈ ([] : List (Addr × Obj)) ++ [] from hp) (by simp)

/-- an item appended to a tracked list -/
theorem app_ok {E : Value → Shared → Prop} {D : Addr} {xs : List V} {y : V} {v : Value} {Q : Value → Shared → Prop} (I : Inv X pins σ H s) (hD : H D = some (.lst xs)) (hz : xs.length < sizeLine) (r : RelV y v)
    (h : ∀ s', Inv X pins σ (upd H D (.lst (xs ++ [y]))) s' → Q .none s') : wpAny (model X.prog X.w) X.A (call (.builtin "list.append") [.ref D, v]) Q E s := by
  obtain ⟨hz', its, n, ri, e⟩ := I.hok D _ hD
  have hl := ri.length
  refine append_at (hsz := by rw [List.size_toArray]; omega) e fun h' sb ho' => ?_
  refine h { s with heap := h' } (I.write (t' := s.toks) (by rw [hD]; trivial) (.inl rfl) (fun b u hb q => (sb.2 b hb).trans q) ⟨_, ho'⟩ ⟨by rw [List.length_append]; exact hz, its ++ [v], n + 1, ri.append (.cons r .nil), ?_⟩)
  rw [ho']
  simp

/-- a clause's tests -/
def PTs (X : Cx) (ifs : List Expr) (t : TT) : Prop :=
  ∀ (pins : List (Addr × Obj)) (s : Shared) (σ : St) (H : Hp) (Q : Bool → Hp → Prop), Inv X pins σ H s → t σ H Q →
    wpAny (model X.prog X.w) X.A (forIn ifs true fun c r => if r = true then do let ok ← isTrue c X.env (eval c X.env); pure (ForInStep.yield ok) else pure (ForInStep.yield r)) (TP X pins σ Q) X.xe s
def tYes : TT := fun _ H Q => Q true H
theorem pts_nil : PTs X [] tYes := fun _ _ _ H _ I h => wpAny_tests_nil ⟨H, I, h⟩
end
theorem thnF {α : Type} {t : Sem α} {Q Q' : α → Shared → Prop} {M : Model} {A : Around} {E : Value → Shared → Prop} {s : Shared} (h : wpAny M A t Q (fun _ _ => False) s) (hQ : ∀ a s, Q a s → Q' a s) : wpAny M A t Q' E s := wpAny_mono h hQ fun _ _ z => False.elim z

/-- the loop of a list comprehension's block, the target of any form (codeAny_compLoop_tests asks a target that no tuple goes to; statement and proof follow it, PyProof/CompMap.lean:41-61, with the step letOwnedTupleGo kept) -/
theorem compLoop_any {prog : Program} {w : World} {A : Around} {R : Result → Shared → Prop} {s : Shared} {elt target iter : Expr} {ifs : List Expr} {scope : Scope} {pos : Pos} {it acc : Value} {env : Env} (I : Nat → Shared → Prop)
    (turn : ∀ n s, I n s → wpAny (model prog w) A (pyNext it) (fun r s₁ => match r with
      | none => R (.ok .next) s₁
      | some v => wpAny (model prog w) A (letOwnedTupleGo target it v) (fun _ s₁' => wpAny (model prog w) A (assign target env v) (fun _ s₂ =>
          wpAny (model prog w) A (forIn ifs true fun c r => if r = true then do let ok ← isTrue c env (eval c env); pure (ForInStep.yield ok) else pure (ForInStep.yield r)) (fun ok s₃ =>
            if ok = true then wpAny (model prog w) A (eval elt env) (fun x s₄ =>
              wpAny (model prog w) A (call (.builtin "list.append") [acc, x]) (fun _ s₅ => ∃ m, m < n ∧ I m s₅) (notedBy (model prog w) A env fun e s' => R (.error e) s') s₄) (notedBy (model prog w) A env fun e s' => R (.error e) s') s₃
            else ∃ m, m < n ∧ I m s₃) (notedBy (model prog w) A env fun e s' => R (.error e) s') s₂) (notedBy (model prog w) A env fun e s' => R (.error e) s') s₁') (notedBy (model prog w) A env fun e s' => R (.error e) s') s₁) (notedBy (model prog w) A env fun e s' => R (.error e) s') s)
    (n : Nat) (h : I n s) :
    codeAny (model prog w) A (.compLoop (.ListComp elt [⟨target, iter, ifs, 0⟩] scope pos) 0 it acc env) R s := by
  refine codeAny_loop rfl I (fun n s hI => ?_) n h
  show wpAny _ A ((compTurn (.ListComp elt [⟨target, iter, ifs, 0⟩] scope pos) 0 it acc env).onRaise (fun x => do noteFrame x env; theTreesLotGoes x)) _ _ s
  refine wpAny_noted ?_
  rw [compTurn_list]
  refine wpAny_bind (wpAny_standAt (wpAny_bind (wpAny_mono (turn n s hI) (fun r s₁ h₁ => ?_) fun _ _ h' => h')))
  cases r with
  | none => exact wpAny_pure h₁
  | some v =>
    refine wpAny_bind (wpAny_mono h₁ (fun _ s₁' h₁' => ?_) fun _ _ h' => h')
    refine wpAny_bind (wpAny_mono h₁' (fun _ s₂ h₂ => wpAny_bind (wpAny_mono h₂ (fun ok s₃ h₃ => ?_) fun _ _ h' => h')) fun _ _ h' => h')
    cases ok with
    | false => exact wpAny_pure ⟨rfl, h₃⟩
    | true =>
      exact wpAny_bind (wpAny_bind (wpAny_mono h₃ (fun x s₄ h₄ => wpAny_bind (wpAny_mono h₄ (fun _ s₅ h₅ => wpAny_pure (wpAny_pure ⟨rfl, h₅⟩)) fun _ _ h' => h')) fun _ _ h' => h'))

section
variable {X : Cx}
/-- [elt for target in iter if ..]: D the new list; W by the turn and a measure, Nx what a turn is to reach -/
def tLc (wi : TI) (g : TG) (tt : TT) (te : TE) (vs : List Nat) : TE := fun σ H Q => wi σ H fun J H1 => ∀ D, H1 D = none → ∃ W : Nat → Nat → Hp → Prop, (∃ m, W 0 m (upd H1 D (.lst []))) ∧ ∀ i m H, W i m H →
  (J.stop i H ∧ Q (.ref D) H) ∨ (J.go i H ∧ ∃ Nx : Hp → Prop, (∀ H', Nx H' → ∃ m', m' < m ∧ W (i + 1) m' H') ∧ ∀ x H', J.yld i H x H' → g x (wipe σ vs) H' fun σ2 H2 => wipe σ2 vs = wipe σ vs ∧ tt σ2 H2 fun b H3 =>
    if b = true then te σ2 H3 fun y H4 => ∃ acc, H4 D = some (.lst acc) ∧ acc.length < sizeLine ∧ Nx (upd H4 D (.lst (acc ++ [y]))) else Nx H3)
theorem lc_core {pins : List (Addr × Obj)} {s : Shared} {σ : St} {H : Hp} {Q : VK} {elt tg iter : Expr} {ifs : List Expr} {scope : Scope} {own : List (Str × Nat)} {pos pos' : Pos} {wi : TI} {g : TG} {tt : TT} {te : TE} {use : Option (Value → Sem Unit)} {Qf : Value → Shared → Prop}
    (hc : X.calm = true) (hN : X.N.Nodup) (I : Inv X pins σ H s) (hi : PI X tg iter wi) (ok : BlkOk X.N X.env.scope scope own)
    (hg : ∀ (s : Shared) (H : Hp) (C : Addr) (cl : List (Str × Addr)) (fp : List Addr), PG (X.blk s H scope (compEnvC scope cl C X.env) fp) tg g) (ht : ∀ (s : Shared) (H : Hp) (C : Addr) (cl : List (Str × Addr)) (fp : List Addr), PTs (X.blk s H scope (compEnvC scope cl C X.env) fp) ifs tt)
    (he : ∀ (s : Shared) (H : Hp) (C : Addr) (cl : List (Str × Addr)) (fp : List Addr), PE (X.blk s H scope (compEnvC scope cl C X.env) fp) elt te) (hs : ∀ x, foldedSetIterable iter X.env x = pure x)
    (h : tLc wi g tt te (own.map (·.2)) σ H Q)
    (hRR : ∀ D C s' m H', Inv X pins σ H' s' → Q (.ref D) H' → s'.heap.Ns C m → FpOk X pins H' C → compPost (model X.prog X.w) X.A X.xe use Qf (.ref D) C (.ok .next) s') :
    wpAny (model X.prog X.w) X.A (comprehension (.ListComp elt [⟨tg, iter, ifs, 0⟩] scope pos) scope X.env pos' (newList []) false (eval iter X.env) use) Qf X.xe s := by
  have hfree : ∀ y ∈ scope.names, y.2 = .free → ∃ c, X.env.cells.lookup y.1 = some c := fun y hy e => by
    rcases ok.free y hy e with k | k
    · exact I.ok.has _ (.inl k)
    · exact I.ok.has _ (.inr k)
  refine wpAny_comprehension_free (use := use) rfl hs (closure_ok hfree) ok.kind (fun y hy e => by rw [ok.uniq y hy, e])
    (thn (hi pins s σ H _ I h) fun xv s1 hx => thn hx fun itv s2 h2 => ?_)
  obtain ⟨it, fp, tn, J, H2, e, I2, T, st2, f2, q⟩ := h2
  subst e
  refine wpAny_newObj_type (newEnv_comp ?_) (by show 0 ≤ sizeLine; decide)
  generalize hD : s2.heap.objs.size = D
  have hDn : H2 D = none := I2.hok.fresh (Nat.le_of_eq hD)
  obtain ⟨W, ⟨m0, w0⟩, turn⟩ := q D hDn
  -- the new list
  generalize hs3 : ({ s2 with heap := s2.heap.push { cls := .type "list", data := .seq ([] : List Value).toArray } } : Shared) = s3
  have I3 : Inv X pins σ (upd H2 D (.lst [])) s3 := by
    rw [← hs3]
    refine I2.laid (t' := s2.toks) (fun b o e => Heap.get?_push_of_some _ e) (Nat.le_of_eq hD) ⟨Nat.zero_le _, [], 0, .nil, ?_⟩
    rw [← hD]
    exact Heap.get?_push_size _ rfl
  have h3 : s3.heap = s2.heap.push { cls := .type "list", data := .seq ([] : List Value).toArray } := by rw [← hs3]
  have sz : ∀ b ∈ fp, b < s2.heap.objs.size := fun b hb => by
    obtain ⟨o, e, _⟩ := T.obj _ _ st2 b hb
    exact Heap.lt_size e
  have f3 : ∀ b ∈ fp, FpOk X pins (upd H2 D (.lst [])) b ∧ b < s3.heap.objs.size := fun b hb => by
    have hlt := sz b hb
    refine ⟨⟨?_, (f2 b hb).2⟩, by rw [h3, Heap.size_push]; exact Nat.lt_succ_of_lt hlt⟩
    rw [upd_ne (by rw [← hD]; exact Nat.ne_of_lt hlt)]
    exact (f2 b hb).1
  have st3 : tn 0 s3.heap := T.keep _ _ _ st2 fun b _ o e => by rw [h3]; exact Heap.get?_push_of_some _ e
  have I4 := block_start I3 ok hN f3
  have pg := hg s3 (upd H2 D (.lst [])) s3.heap.objs.size (cellsFrom (s3.heap.objs.size + 1) scope.names (cloFrom X.env.cells scope.names [])) fp
  have pt := ht s3 (upd H2 D (.lst [])) s3.heap.objs.size (cellsFrom (s3.heap.objs.size + 1) scope.names (cloFrom X.env.cells scope.names [])) fp
  have pe := he s3 (upd H2 D (.lst [])) s3.heap.objs.size (cellsFrom (s3.heap.objs.size + 1) scope.names (cloFrom X.env.cells scope.names [])) fp
  show codeAny _ _ (.compStart (.ListComp elt [⟨tg, iter, ifs, 0⟩] scope pos) 0 (.ref it) (.ref D) (compEnvC scope (cellsFrom (s3.heap.objs.size + 1) scope.names (cloFrom X.env.cells scope.names [])) s3.heap.objs.size X.env)) (compPost (model X.prog X.w) X.A X.xe use Qf (.ref D) s3.heap.objs.size) { s3 with heap := pushCells (s3.heap.push { cls := .type "dict", data := .dict #[] }) scope.names }
  have nfp : ∀ b ∈ fp, (upd H2 D (.lst [])) b = none := fun b hb => (f3 b hb).1.1
  generalize hce : compEnvC scope (cellsFrom (s3.heap.objs.size + 1) scope.names (cloFrom X.env.cells scope.names [])) s3.heap.objs.size X.env = ce at I4 pg pt pe ⊢
  have cL : ce.locals = s3.heap.objs.size := by subst hce; rfl
  generalize hH3 : upd H2 D (.lst []) = H3 at I3 I4 pg pt pe w0 nfp f3
  generalize hs4 : ({ s3 with heap := pushCells (s3.heap.push { cls := .type "dict", data := .dict #[] }) scope.names } : Shared) = s4 at I4 ⊢
  have st4 : tn 0 s4.heap := T.keep _ _ _ st3 fun b _ o e => by rw [← hs4]; exact pushCells_keeps _ _ _ _ (Heap.get?_push_of_some _ e)
  have stat : ∀ {σ' : St} {H' : Hp} {s' : Shared}, Inv (X.blk s3 H3 scope ce fp) [] σ' H' s' → (∀ b ∈ fp, H' b = none) → ∀ b ∈ fp, FpOk (X.blk s3 H3 scope ce fp) [] H' b := fun {σ' H' s'} I' hn b hb =>
    ⟨hn b hb, (I'.ok.exf b hb).1, I'.ok.exfs b hb, .inl hb, fun x c e => (I'.ok.exf b hb).2 x c e, fun p hp => absurd (show p ∈ ([] : List (Addr × Obj)) ++ [] from hp) (by simp)⟩
  have loop : codeAny (model X.prog X.w) X.A (.compLoop (.ListComp elt [⟨tg, iter, ifs, 0⟩] scope pos) 0 (.ref it) (.ref D) ce) (compPost (model X.prog X.w) X.A X.xe use Qf (.ref D) s3.heap.objs.size) s4 := by
    refine compLoop_any (fun n s' => ∃ i H', Inv (X.blk s3 H3 scope ce fp) [] (wipe σ (own.map (·.2))) H' s' ∧ tn i s'.heap ∧ (∀ b ∈ fp, H' b = none) ∧ W i n H') ?_ m0 ⟨0, H3, I4, st4, nfp, w0⟩
    rintro n s5 ⟨i, H5, I5, st5, n5, w5⟩
    rcases turn i n H5 w5 with ⟨stop, qq⟩ | ⟨go, Nx, hNx, step⟩
    · have td := T.done (X.blk s3 H3 scope ce fp) rfl rfl rfl hc i [] s5 _ H5 (fun _ _ => False) I5 (stat I5 n5) st5 stop
      refine thnF td fun r s6 ⟨hr, I6⟩ => ?_
      subst hr
      -- back in the def's context
      have I7 : Inv X pins σ H5 s6 := I3.call' (ch := fp) I6.os I6.base I6.hok I6.bare fun b hb => ⟨(f3 b hb).1.2.2.2.1, (f3 b hb).1.2.1, (f3 b hb).1.2.2.2.2.1, (f3 b hb).1.2.2.2.2.2⟩
      have nC : H5 s3.heap.objs.size = none := by
        have z : H5 ce.locals = none := I6.free
        rw [cL] at z
        exact z
      obtain ⟨m, hn, _⟩ := I6.loc
      have hn : s6.heap.Ns ce.locals m := hn
      rw [cL] at hn
      exact hRR D s3.heap.objs.size s6 m H5 I7 qq hn (I3.fpOk (Nat.le_refl _) nC)
    · have ti := T.item (X.blk s3 H3 scope ce fp) rfl rfl rfl hc i [] s5 _ H5 (fun _ _ => False) I5 (stat I5 n5) st5 go
      refine thnF ti fun r s6 ⟨u, hr, h6⟩ => ?_
      subst hr
      refine thnF h6 fun _ s7 ⟨x, H7, I7, r7, y7, st7, n7⟩ => ?_
      have I7' := I7.pinned (stat I7 n7) (T.obj _ _ st7)
      refine thnF (pg _ s7 _ H7 x u _ I7' r7 (step x H7 y7)) fun _ s8 ⟨σ8, H8, I8, hw8, q8⟩ => ?_
      refine thnF (pt _ s8 σ8 H8 _ I8 q8) fun b s9 ⟨H9, I9, q9⟩ => ?_
      -- the turn's end
      have fin : ∀ {s' : Shared} {H' : Hp}, Inv (X.blk s3 H3 scope ce fp) ([] ++ pinsAt fp s7.heap) σ8 H' s' → Nx H' → ∃ m, m < n ∧ ∃ i H', Inv (X.blk s3 H3 scope ce fp) [] (wipe σ (own.map (·.2))) H' s' ∧ tn i s'.heap ∧ (∀ b ∈ fp, H' b = none) ∧ W i m H' := fun {s' H'} I' nx => by
        obtain ⟨m', hm, w'⟩ := hNx H' nx
        have pin' : ∀ b ∈ fp, ∀ o, s7.heap.get? b = some o → s'.heap.get? b = some o ∧ H' b = none := fun b hb o e =>
          let z := I'.pin (b, o) (List.mem_append_right _ (List.mem_append_right _ (mem_pinsAt hb e)))
          ⟨z.1, z.2.1⟩
        have hl : (wipe σ (own.map (·.2))).length = σ8.length := by rw [← hw8, wipe_length]
        refine ⟨m', hm, i + 1, H', (I'.unpinned (pins := [])).weak hl (fun j v e => ?_), T.keep _ _ _ st7 fun b hb o e => (pin' b hb o e).1, fun b hb => ?_, w'⟩
        · rw [← hw8] at e
          exact (wipe_some e).1
        · obtain ⟨o, e, _⟩ := T.obj _ _ st7 b hb
          exact (pin' b hb o e).2
      cases b with
      | false =>
        simp only [Bool.false_eq_true, if_false] at q9 ⊢
        exact fin I9 q9
      | true =>
        simp only [if_true] at q9 ⊢
        refine thnF (pe _ s9 σ8 H9 _ I9 q9) fun z s10 ⟨yv, H10, I10, r10, acc, hD10, hz10, nx⟩ => ?_
        exact app_ok (X := X.blk s3 H3 scope ce fp) I10 hD10 hz10 r10 fun s11 I11 => fin I11 nx
  exact codeAny_compStart_list loop (T.self X.A 0 _ _ _ st4 loop)
/-- as a value -/
theorem pe_lc {elt tg iter : Expr} {ifs : List Expr} {scope : Scope} {own : List (Str × Nat)} {pos : Pos} {wi : TI} {g : TG} {tt : TT} {te : TE} (hc : X.calm = true) (hN : X.N.Nodup) (hi : PI X tg iter wi) (ok : BlkOk X.N X.env.scope scope own)
    (hg : ∀ (s : Shared) (H : Hp) (C : Addr) (cl : List (Str × Addr)) (fp : List Addr), PG (X.blk s H scope (compEnvC scope cl C X.env) fp) tg g) (ht : ∀ (s : Shared) (H : Hp) (C : Addr) (cl : List (Str × Addr)) (fp : List Addr), PTs (X.blk s H scope (compEnvC scope cl C X.env) fp) ifs tt)
    (he : ∀ (s : Shared) (H : Hp) (C : Addr) (cl : List (Str × Addr)) (fp : List Addr), PE (X.blk s H scope (compEnvC scope cl C X.env) fp) elt te) (hs : ∀ x, foldedSetIterable iter X.env x = pure x := by intro _; rfl) :
    PE X (.ListComp elt [⟨tg, iter, ifs, 0⟩] scope pos) (tLc wi g tt te (own.map (·.2))) := by
  intro pins s σ H Q I h
  rw [eval_ListComp]
  refine lc_core hc hN I hi ok hg ht he hs h fun D C s' m H' I' q hn f => ⟨m, hn, fun h'' sb => ?_⟩
  obtain ⟨f0, f1, f2, f3, f4, f5⟩ := f
  exact ⟨.ref D, H', I'.turned (t' := s'.toks) (fun b o hb e => (sb.2 b hb).trans e) f0 f1 f3 f4 f5, rfl, q⟩
end
/-! ### the forms one uses -/
/-- over a range: Pv by the turn and the heap (the new list at D within) -/
theorem lc_range {lo : Int} {n : Nat} {g : TG} {tt : TT} {te : TE} {vs : List Nat} {σ : St} {H1 : Hp} {D : Addr} {Qd : Hp → Prop} (Pv : Nat → Hp → Prop) (h0 : Pv 0 (upd H1 D (.lst [])))
    (hs : ∀ i H, i < n → Pv i H → g (.int (lo + i)) (wipe σ vs) H fun σ2 H2 => wipe σ2 vs = wipe σ vs ∧ tt σ2 H2 fun b H3 =>
      if b = true then te σ2 H3 fun y H4 => ∃ acc, H4 D = some (.lst acc) ∧ acc.length < sizeLine ∧ Pv (i + 1) (upd H4 D (.lst (acc ++ [y]))) else Pv (i + 1) H3) (hd : ∀ H, Pv n H → Qd H) :
    ∃ W : Nat → Nat → Hp → Prop, (∃ m, W 0 m (upd H1 D (.lst []))) ∧ ∀ i m H, W i m H →
      ((Itr lo n).stop i H ∧ Qd H) ∨ ((Itr lo n).go i H ∧ ∃ Nx : Hp → Prop, (∀ H', Nx H' → ∃ m', m' < m ∧ W (i + 1) m' H') ∧ ∀ x H', (Itr lo n).yld i H x H' → g x (wipe σ vs) H' fun σ2 H2 => wipe σ2 vs = wipe σ vs ∧ tt σ2 H2 fun b H3 =>
        if b = true then te σ2 H3 fun y H4 => ∃ acc, H4 D = some (.lst acc) ∧ acc.length < sizeLine ∧ Nx (upd H4 D (.lst (acc ++ [y]))) else Nx H3) := by
  refine ⟨fun i m H => m = n - i ∧ i ≤ n ∧ Pv i H, ⟨n, by simp, Nat.zero_le _, h0⟩, ?_⟩
  rintro i m H ⟨rfl, hi, p⟩
  by_cases hlt : i < n
  · refine .inr ⟨hlt, Pv (i + 1), fun H' p' => ⟨n - (i + 1), by omega, rfl, hlt, p'⟩, fun x H' y => ?_⟩
    obtain ⟨e, y⟩ := y
    subst e y
    exact hs i _ hlt p
  · have e : i = n := by omega
    subst e
    exact .inl ⟨Nat.le_refl _, hd H p⟩
/-- over a list that the block leaves as it is -/
theorem lc_list {K : PySem.W.Frag} {a : Addr} {xs : List V} {g : TG} {tt : TT} {te : TE} {vs : List Nat} {σ : St} {H1 : Hp} {D : Addr} {Qd : Hp → Prop} (Pv : Nat → Hp → Prop) (h0 : Pv 0 (upd H1 D (.lst []))) (hl : ∀ i H, i ≤ xs.length → Pv i H → SqL K H a xs)
    (hs : ∀ i x H, xs[i]? = some x → Pv i H → g x (wipe σ vs) H fun σ2 H2 => wipe σ2 vs = wipe σ vs ∧ tt σ2 H2 fun b H3 =>
      if b = true then te σ2 H3 fun y H4 => ∃ acc, H4 D = some (.lst acc) ∧ acc.length < sizeLine ∧ Pv (i + 1) (upd H4 D (.lst (acc ++ [y]))) else Pv (i + 1) H3) (hd : ∀ H, Pv xs.length H → Qd H) :
    ∃ W : Nat → Nat → Hp → Prop, (∃ m, W 0 m (upd H1 D (.lst []))) ∧ ∀ i m H, W i m H →
      ((Itl K a).stop i H ∧ Qd H) ∨ ((Itl K a).go i H ∧ ∃ Nx : Hp → Prop, (∀ H', Nx H' → ∃ m', m' < m ∧ W (i + 1) m' H') ∧ ∀ x H', (Itl K a).yld i H x H' → g x (wipe σ vs) H' fun σ2 H2 => wipe σ2 vs = wipe σ vs ∧ tt σ2 H2 fun b H3 =>
        if b = true then te σ2 H3 fun y H4 => ∃ acc, H4 D = some (.lst acc) ∧ acc.length < sizeLine ∧ Nx (upd H4 D (.lst (acc ++ [y]))) else Nx H3) := by
  refine ⟨fun i m H => m = xs.length - i ∧ i ≤ xs.length ∧ Pv i H, ⟨xs.length, by simp, Nat.zero_le _, h0⟩, ?_⟩
  rintro i m H ⟨rfl, hi, p⟩
  have q := hl i H hi p
  by_cases hlt : i < xs.length
  · refine .inr ⟨⟨xs, xs[i], q, by simp [hlt]⟩, Pv (i + 1), fun H' p' => ⟨xs.length - (i + 1), by omega, rfl, hlt, p'⟩, fun x H' y => ?_⟩
    obtain ⟨e, y⟩ := y
    subst e
    exact hs i x _ (y xs q) p
  · have e : i = xs.length := by omega
    subst e
    exact .inl ⟨⟨xs, q, Nat.le_refl _⟩, hd H p⟩
def blkC (N : List Str) (sc scope : Scope) (own : List (Str × Nat)) : Bool :=
  (match scope.kind with | .function => true | _ => false) && (scope.names.all fun y => decide (scope.names.lookup y.1 = some y.2)) && (own.all fun p => decide (N[p.2]? = some p.1)) &&
    (scope.names.all fun y => match y.2 with
      | .free => (match sc.names.lookup y.1 with | some .cell => true | some .free => true | _ => false)
      | .local => decide (y.1 ∈ own.map (·.1)) || decide (y.1 ∉ N)
      | .cell => decide (y.1 ∈ own.map (·.1)) || decide (y.1 ∉ N)
      | _ => true)
theorem blkOk_by {N : List Str} {sc scope : Scope} {own : List (Str × Nat)} (h : blkC N sc scope own = true) : BlkOk N sc scope own := by
  unfold blkC at h
  simp only [Bool.and_eq_true, List.all_eq_true, decide_eq_true_eq] at h
  obtain ⟨⟨⟨h1, h2⟩, h3⟩, h4⟩ := h
  refine ⟨?_, h2, h3, fun y hy e => ?_, fun y hy e => ?_⟩
  · split at h1
    · assumption
    · cases h1
  · have q := h4 y hy
    simp only [e] at q
    split at q <;> first | exact .inl (by assumption) | exact .inr (by assumption) | cases q
  · have q := h4 y hy
    rcases e with e | e <;> (simp only [e, Bool.or_eq_true, decide_eq_true_eq] at q; exact q)
end L2
namespace L2
open PySem PySem.Spec PyProof.Rows
section
variable {κ : Type} [DecidableEq κ]
def valV (kvs : List (κ × V)) (k : κ) : Option V := (kvs.find? fun kv => decide (kv.1 = k)).map (·.2)
/-- in its place, or at the end -/
def putK (kvs : List (κ × V)) (k : κ) (v : V) : List (κ × V) :=
  if (kvs.any fun kv => decide (kv.1 = k)) = true then kvs.map (fun kv => if kv.1 = k then (kv.1, v) else kv) else kvs ++ [(k, v)]
def dropK (kvs : List (κ × V)) (k : κ) : List (κ × V) := kvs.filter fun kv => decide (kv.1 ≠ k)

theorem valV_pos {p : κ × V} {r : List (κ × V)} {k : κ} (e : p.1 = k) : valV (p :: r) k = some p.2 := by simp [valV, List.find?_cons, e]
theorem valV_neg {p : κ × V} {r : List (κ × V)} {k : κ} (e : ¬ p.1 = k) : valV (p :: r) k = valV r k := by simp [valV, List.find?_cons, e]
theorem valV_any (k : κ) : ∀ kvs : List (κ × V), (kvs.any fun kv => decide (kv.1 = k)) = (valV kvs k).isSome
  | [] => rfl
  | p :: r => by
    rw [List.any_cons]
    by_cases e : p.1 = k
    · simp only [valV_pos e, decide_eq_true e, Bool.true_or, Option.isSome_some]
    · rw [valV_neg e, decide_eq_false e, Bool.false_or]; exact valV_any k r
theorem length_putK (kvs : List (κ × V)) (k : κ) (v : V) : (putK kvs k v).length ≤ kvs.length + 1 := by
  unfold putK
  split
  · rw [List.length_map]; omega
  · rw [List.length_append, List.length_cons, List.length_nil]; omega
theorem putK_new {kvs : List (κ × V)} {k : κ} (v : V) (h : valV kvs k = none) : putK kvs k v = kvs ++ [(k, v)] := by
  unfold putK
  rw [valV_any, h]
  exact if_neg (by decide)

theorem RelO.isSome_eq {o : Option V} {u : Option Value} (r : RelO o u) : o.isSome = u.isSome := by
  cases o with
  | none => cases u with
    | none => rfl
    | some _ => exact (show False from r).elim
  | some _ => cases u with
    | none => exact (show False from r).elim
    | some _ => rfl
theorem RelO.getD {o : Option V} {u : Option Value} {d : V} {d' : Value} (r : RelO o u) (rd : RelV d d') : RelV (o.getD d) (u.getD d') := by
  cases o with
  | none => cases u with
    | none => exact rd
    | some _ => exact (show False from r).elim
  | some _ => cases u with
    | none => exact (show False from r).elim
    | some _ => exact r

/-- raw tables of the same keys -/
theorem KV.val {kvs : List (κ × V)} {vs : List (κ × Value)} (r : KV kvs vs) (k : κ) : RelO (valV kvs k) (valueAt vs k) := by
  unfold KV at r
  induction r with
  | nil => exact True.intro
  | @cons p q ps qs h t ih =>
    obtain ⟨h1, h2⟩ := h
    by_cases e : p.1 = k
    · have e' : q.1 = k := h1.symm.trans e
      have b : valueAt (q :: qs) k = some q.2 := by simp [valueAt, List.find?_cons, e']
      rw [valV_pos e, b]; exact h2
    · have e' : ¬ q.1 = k := fun z => e (h1.trans z)
      have b : valueAt (q :: qs) k = valueAt qs k := by simp [valueAt, List.find?_cons, e']
      rw [valV_neg e, b]; exact ih
theorem KV.any {kvs : List (κ × V)} {vs : List (κ × Value)} (r : KV kvs vs) (k : κ) : (kvs.any fun kv => decide (kv.1 = k)) = vs.any fun kv => decide (kv.1 = k) := by
  unfold KV at r
  induction r with
  | nil => rfl
  | cons h t ih => rw [List.any_cons, List.any_cons, ih, h.1]
theorem KV.repl {kvs : List (κ × V)} {vs : List (κ × Value)} (r : KV kvs vs) (k : κ) {y : V} {u : Value} (ry : RelV y u) :
    KV (kvs.map fun kv => if kv.1 = k then (kv.1, y) else kv) (vs.map fun kv => if kv.1 = k then (kv.1, u) else kv) := by
  unfold KV at r ⊢
  induction r with
  | nil => exact .nil
  | @cons p q ps qs h t ih =>
    rw [List.map_cons, List.map_cons]
    refine .cons ?_ ih
    obtain ⟨h1, h2⟩ := h
    by_cases e : p.1 = k
    · rw [if_pos e, if_pos (h1.symm.trans e)]; exact ⟨h1, ry⟩
    · rw [if_neg e, if_neg (fun z => e (h1.trans z))]; exact ⟨h1, h2⟩
theorem KV.put {kvs : List (κ × V)} {vs : List (κ × Value)} (r : KV kvs vs) (k : κ) {y : V} {u : Value} (ry : RelV y u) : KV (putK kvs k y) (stored vs k u) := by
  unfold putK stored
  rw [r.any k]
  by_cases e : (vs.any fun kv => decide (kv.1 = k)) = true
  · rw [if_pos e, if_pos e]; exact r.repl k ry
  · rw [if_neg e, if_neg e]; exact Paired.snoc r ⟨rfl, ry⟩
theorem KV.drop {kvs : List (κ × V)} {vs : List (κ × Value)} (r : KV kvs vs) (k : κ) : KV (dropK kvs k) (without vs k) := by
  unfold KV at r ⊢
  unfold dropK without
  induction r with
  | nil => exact .nil
  | @cons p q ps qs h t ih =>
    obtain ⟨h1, h2⟩ := h
    rw [List.filter_cons, List.filter_cons]
    by_cases e : p.1 = k
    · have a : ¬ decide (p.1 ≠ k) = true := by simp [e]
      have b : ¬ decide (q.1 ≠ k) = true := by simp [h1.symm.trans e]
      rw [if_neg a, if_neg b]; exact ih
    · have e' : ¬ q.1 = k := fun z => e (h1.trans z)
      have a : decide (p.1 ≠ k) = true := by simp [e]
      have b : decide (q.1 ≠ k) = true := by simp [e']
      rw [if_pos a, if_pos b]; exact .cons ⟨h1, h2⟩ ih
theorem KV.keys {kvs : List (κ × V)} {vs : List (κ × Value)} (r : KV kvs vs) : kvs.map (·.1) = vs.map (·.1) := by
  unfold KV at r
  induction r with
  | nil => rfl
  | cons h t ih => rw [List.map_cons, List.map_cons, ih, h.1]
theorem KV.length {kvs : List (κ × V)} {vs : List (κ × Value)} (r : KV kvs vs) : kvs.length = vs.length := Paired.length r
theorem dropK_le (kvs : List (κ × V)) (k : κ) : (dropK kvs k).length ≤ kvs.length := List.length_filter_le _ _
end
/-! ### a tracked dict, its keys ints and texts or tuples of these -/
theorem kV_is {P : Program} {w : World} {k : Key} {u : Value} (r : RelV (kV k) u) : (mixKind P w).is k u = true := by
  cases k with
  | inl i => obtain ⟨t, e⟩ := (show ∃ t, u = Value.int i t from r); subst e; exact mixKind_int P w i t
  | inr x => obtain ⟨t, e⟩ := (show ∃ t, u = Value.str x t from r); subst e; exact mixKind_str P w x t
theorem items_are {P : Program} {w : World} : ∀ {ks : List Key} {us : List Value}, Vals (ks.map kV) us → ItemsAre (mixKind P w) ks us
  | [], _, r => by rw [List.map_nil] at r; cases r; exact .nil
  | k :: ks, _, r => by
    rw [List.map_cons] at r
    cases r with
    | cons h t => exact .cons (kV_is h) (items_are t)

/-- raw entries of a dict with tuple keys -/
abbrev KT (H : Hp) : List (List Key × V) → List (List Key × Addr × Value) → Prop := Paired fun p q => p.1 = q.1 ∧ H q.2.1 = some (.tup (p.1.map kV)) ∧ RelV p.2 q.2.2
theorem KT.val {H : Hp} {kvs : List (List Key × V)} {xs : List (List Key × Addr × Value)} (r : KT H kvs xs) (k : List Key) : RelO (valV kvs k) ((atKey xs k).map (·.2)) := by
  induction r with
  | nil => exact True.intro
  | @cons p q ps qs h t ih =>
    obtain ⟨h1, _, h2⟩ := h
    by_cases e : p.1 = k
    · have e' : q.1 = k := h1.symm.trans e
      have b : atKey (q :: qs) k = some q.2 := by simp [atKey, List.find?_cons, e']
      rw [valV_pos e, b]; exact h2
    · have e' : ¬ q.1 = k := fun z => e (h1.trans z)
      have b : atKey (q :: qs) k = atKey qs k := by simp [atKey, List.find?_cons, e']
      rw [valV_neg e, b]; exact ih
theorem KT.repl {H : Hp} {kvs : List (List Key × V)} {xs : List (List Key × Addr × Value)} (r : KT H kvs xs) (k : List Key) {y : V} {u : Value} (ry : RelV y u) :
    KT H (kvs.map fun kv => if kv.1 = k then (kv.1, y) else kv) (xs.map (putAt k u)) := by
  induction r with
  | nil => exact .nil
  | @cons p q ps qs h t ih =>
    rw [List.map_cons, List.map_cons]
    refine .cons ?_ ih
    obtain ⟨h1, h2, h3⟩ := h
    unfold putAt
    by_cases e : p.1 = k
    · rw [if_pos e, if_pos (h1.symm.trans e)]; exact ⟨h1, h2, ry⟩
    · rw [if_neg e, if_neg (fun z => e (h1.trans z))]; exact ⟨h1, h2, h3⟩
theorem KT.put {H : Hp} {kvs : List (List Key × V)} {xs : List (List Key × Addr × Value)} (r : KT H kvs xs) (k : List Key) {b : Addr} {y : V} {u : Value} (hb : H b = some (.tup (k.map kV))) (ry : RelV y u) :
    KT H (putK kvs k y) (storedH xs k b u) := by
  have e : (kvs.any fun kv => decide (kv.1 = k)) = (atKey xs k).isSome := by
    rw [valV_any, (r.val k).isSome_eq, Option.isSome_map]
  unfold putK storedH
  rw [e]
  by_cases q : (atKey xs k).isSome = true
  · rw [if_pos q, if_pos q]; exact r.repl k ry
  · rw [if_neg q, if_neg q]; exact Paired.snoc r ⟨rfl, hb, ry⟩
theorem KT.keeps {H H' : Hp} {kvs : List (List Key × V)} {xs : List (List Key × Addr × Value)} (r : KT H kvs xs) (ht : ∀ b ys, H b = some (.tup ys) → H' b = some (.tup ys)) : KT H' kvs xs :=
  Paired.mapP r fun _ _ z => ⟨z.1, ht _ _ z.2.1, z.2.2⟩

section
variable {P : Program} {w : World} {H : Hp} {h : Heap} {a : Addr}
theorem rd_of {u : HO} (ok : HOk P w H h) (e : Rd H a u) : ObjOk P w H h a u := e.ok ok
theorem dk_rd {kvs : List (Key × V)} (ok : HOk P w H h) (e : Rd H a (.dK kvs)) : kvs.length ≤ sizeLine ∧ (a == sysModules) = false ∧ ∃ vs, KV kvs vs ∧ h.DictOf (mixKind P w) a vs :=
  show ObjOk P w H h a (.dK kvs) from rd_of ok e
theorem dk_of {kvs : List (Key × V)} (ok : HOk P w H h) (e : H a = some (.dK kvs)) : kvs.length ≤ sizeLine ∧ (a == sysModules) = false ∧ ∃ vs, KV kvs vs ∧ h.DictOf (mixKind P w) a vs := dk_rd ok (.inl e)
/-- a tracked tuple of ints and texts is a key -/
theorem key_of {ks : List Key} (ok : HOk P w H h) (e : H a = some (.tup (ks.map kV))) : (tupleKind (mixKind P w)).is h ks a := by
  obtain ⟨_, its, r, o, h1, h2, n, h3⟩ := (show ObjOk P w H h a (.tup (ks.map kV)) from ok a _ e)
  exact ⟨o, its.toArray, n, h1, h2, h3, by simpa using items_are r⟩
theorem dt_rd {kvs : List (List Key × V)} (ok : HOk P w H h) (e : Rd H a (.dT kvs)) : kvs.length ≤ sizeLine ∧ (a == sysModules) = false ∧
    ∃ xs, KT H kvs xs ∧ h.DictOfH (tupleKind (mixKind P w)) a xs := by
  obtain ⟨z, y, xs, r, o, es, ep, h1, h2, h3, h4, h5⟩ := (show ObjOk P w H h a (.dT kvs) from rd_of ok e)
  refine ⟨z, y, xs, r, o, es, ep, h1, h2, h3, h4, fun x hx => ?_, h5⟩
  have all : ∀ {l : List (List Key × V)} {m : List (List Key × Addr × Value)}, KT H l m → ∀ x ∈ m, (tupleKind (mixKind P w)).is h x.1 x.2.1 := by
    intro l m q
    induction q with
    | nil => intro x hx; exact nomatch hx
    | @cons p q ps qs hq t ih =>
      intro x hx
      rcases List.mem_cons.mp hx with e | hx
      · subst e
        exact key_of ok (by rw [← hq.1]; exact hq.2.1)
      · exact ih x hx
  exact all r x hx
theorem dt_of {kvs : List (List Key × V)} (ok : HOk P w H h) (e : H a = some (.dT kvs)) : kvs.length ≤ sizeLine ∧ (a == sysModules) = false ∧
    ∃ xs, KT H kvs xs ∧ h.DictOfH (tupleKind (mixKind P w)) a xs := dt_rd ok (.inl e)
end
/-- what the dict at a holds at the key y -/
def DGet (H : Hp) (a : Addr) (y : V) (r : Option V) : Prop :=
  (∃ kvs k, Rd H a (.dK kvs) ∧ y = kV k ∧ r = valV kvs k) ∨ ∃ kvs k b, Rd H a (.dT kvs) ∧ y = .ref b ∧ H b = some (.tup (k.map kV)) ∧ r = valV kvs k
/-- the heap behind a[y] = v -/
def DPut (H : Hp) (a : Addr) (y v : V) (H' : Hp) : Prop :=
  (∃ kvs k, H a = some (.dK kvs) ∧ y = kV k ∧ kvs.length < sizeLine ∧ H' = upd H a (.dK (putK kvs k v))) ∨
  ∃ kvs k b, H a = some (.dT kvs) ∧ y = .ref b ∧ H b = some (.tup (k.map kV)) ∧ kvs.length < sizeLine ∧ H' = upd H a (.dT (putK kvs k v))
theorem DGet.k {H : Hp} {a : Addr} {kvs : List (Key × V)} {k : Key} (e : H a = some (.dK kvs)) : DGet H a (kV k) (valV kvs k) := .inl ⟨kvs, k, .inl e, rfl, rfl⟩
theorem DGet.t {H : Hp} {a b : Addr} {kvs : List (List Key × V)} {k : List Key} (e : H a = some (.dT kvs)) (eb : H b = some (.tup (k.map kV))) : DGet H a (.ref b) (valV kvs k) := .inr ⟨kvs, k, b, .inl e, rfl, eb, rfl⟩
theorem DPut.k {H : Hp} {a : Addr} {kvs : List (Key × V)} {k : Key} {v : V} (e : H a = some (.dK kvs)) (hl : kvs.length < sizeLine) : DPut H a (kV k) v (upd H a (.dK (putK kvs k v))) := .inl ⟨kvs, k, e, rfl, hl, rfl⟩
theorem DPut.t {H : Hp} {a b : Addr} {kvs : List (List Key × V)} {k : List Key} {v : V} (e : H a = some (.dT kvs)) (eb : H b = some (.tup (k.map kV))) (hl : kvs.length < sizeLine) :
    DPut H a (.ref b) v (upd H a (.dT (putK kvs k v))) := .inr ⟨kvs, k, b, e, rfl, eb, hl, rfl⟩


section
variable {X : Cx} {pins : List (Addr × Obj)} {σ : St} {H : Hp} {s : Shared} {a : Addr} {y v : V} {u r : Value} {o : Option V} {A : Around} {E : Value → Shared → Prop}

theorem Inv.big (I : Inv X pins σ H s) : sysModules < s.heap.objs.size := by
  have h : mainGlobals < s.heap.objs.size := (I.mod.glob.keeps I.bk).lt
  exact Nat.lt_trans (by decide) h

/-- y in d -/
theorem d_in {Q : Value → Shared → Prop} (hu : A.units + 1 < cLine) (I : Inv X pins σ H s) (g : DGet H a y o) (ry : RelV y u) (h : ∀ s', Inv X pins σ H s' → Q (.bool o.isSome) s') :
    wpAny (model X.prog X.w) A (compareOp .In u (.ref a)) Q E s := by
  rcases g with ⟨kvs, k, e, ey, l⟩ | ⟨kvs, k, b, e, ey, eb, l⟩
  · subst ey
    obtain ⟨z, hd, vs, rel, dd⟩ := dk_rd I.hok e
    refine wpAny_in_of (kV_is ry) hd dd.mapOf ?_
    rw [← (rel.val k).isSome_eq, ← l]
    exact h _ (I.tok _)
  · subst ey
    cases (show u = Value.ref b from ry)
    obtain ⟨z, hd, xs, rel, dd⟩ := dt_rd I.hok e
    refine wpAny_in_heap (tupleKind_room_in1 hu) (key_of I.hok eb) hd dd ?_
    have q := (rel.val k).isSome_eq
    rw [Option.isSome_map] at q
    rw [← q, ← l]
    exact h _ (I.tok _)
/-- a dict's object is replaced -/
theorem d_write {h' : Heap} {t' : Nat} {ob : HO} (I : Inv X pins σ H s) (mu : Mut (H a)) (hs : Heap.SameBut a s.heap h') (he : ∃ q, h'.get? a = some q) (new : ObjOk X.prog X.w (upd H a ob) h' a ob) :
    Inv X pins σ (upd H a ob) { s with heap := h', toks := t' } :=
  I.write (x := a) (e := a) mu (.inl rfl) (fun b q hb z => (hs.2 b hb).trans z) he new
theorem dk_new {P : Program} {w : World} {H' : Hp} {h' : Heap} {kvs : List (Key × V)} {vs : List (Key × Value)} (z : kvs.length ≤ sizeLine) (hd : (a == sysModules) = false) (rel : KV kvs vs) (dd : h'.DictOf (mixKind P w) a vs) :
    ObjOk P w H' h' a (.dK kvs) := ⟨z, hd, vs, rel, dd⟩
/-- d[y] = v -/
theorem d_setItem {H' : Hp} {Q : Unit → Shared → Prop} (hu : A.units + 1 < cLine) (I : Inv X pins σ H s) (g : DPut H a y v H') (ry : RelV y u) (rv : RelV v r) (h : ∀ s', Inv X pins σ H' s' → Q () s') :
    wpAny (model X.prog X.w) A (setItem (.ref a) u r) Q E s := by
  rcases g with ⟨kvs, k, e, ey, l, eH⟩ | ⟨kvs, k, b, e, ey, eb, l, eH⟩
  · subst ey eH
    obtain ⟨z, hd, vs, rel, dd⟩ := dk_of I.hok e
    have hz : vs.length ≤ sizeLine := by rw [← rel.length]; exact z
    have hl : (putK kvs k v).length ≤ sizeLine := by have := length_putK kvs k v; omega
    refine wpAny_setItem_pairs (hsz := hz) (kV_is ry) dd fun h' dd' hs => h _ ?_
    have he : ∃ q, h'.get? a = some q := let ⟨q, _, _, hq, _⟩ := dd'; ⟨q, hq⟩
    exact d_write I (by rw [e]; exact True.intro) hs he (dk_new hl hd (rel.put k rv) dd')
  · subst ey eH
    cases (show u = Value.ref b from ry)
    obtain ⟨z, hd, xs, rel, dd⟩ := dt_of I.hok e
    have hz : xs.length ≤ sizeLine := by rw [← Paired.length rel]; exact z
    have hl : (putK kvs k v).length ≤ sizeLine := by have := length_putK kvs k v; omega
    refine wpAny_setItem_heap (hsz := hz) (tupleKind_room_in1 hu) (key_of I.hok eb) dd fun h' dd' hs => h _ ?_
    obtain ⟨q, es, ep, hq, h2, h3, h4, _, h5⟩ := dd'
    refine d_write I (by rw [e]; exact True.intro) hs ⟨q, hq⟩ ⟨hl, hd, _, (rel.put k eb rv).keeps fun c ys ec => ?_, q, es, ep, hq, h2, h3, h4, h5⟩
    rw [upd_ne (ne_of ec e (fun z => nomatch z))]
    exact ec
end
section
variable {X : Cx} {pins : List (Addr × Obj)} {σ : St} {H : Hp} {s : Shared} {a : Addr} {kvs : List (Key × V)} {k : Key} {u : Value} {A : Around} {E : Value → Shared → Prop}
/-- d.pop(k[, x]), there -/
theorem d_pop {v : V} {more : List Value} {Q : Value → Shared → Prop} (I : Inv X pins σ H s) (e : H a = some (.dK kvs)) (ry : RelV (kV k) u) (l : valV kvs k = some v) (hm : more = [] ∨ ∃ x, more = [x])
    (h : ∀ w' s', Inv X pins σ (upd H a (.dK (dropK kvs k))) s' → RelV v w' → Q w' s') : wpAny (model X.prog X.w) A (call (.builtin "dict.pop") (.ref a :: u :: more)) Q E s := by
  obtain ⟨z, hd, vs, rel, dd⟩ := dk_of I.hok e
  obtain ⟨w', hw, rw'⟩ := RelO.some_of (v := v) (o := valueAt vs k) (by rw [← l]; exact rel.val k)
  have hp : (keyPart u).isSome = true := by
    cases k with
    | inl i => obtain ⟨t, q⟩ := (show ∃ t, u = Value.int i t from ry); subst q; rfl
    | inr x => obtain ⟨t, q⟩ := (show ∃ t, u = Value.str x t from ry); subst q; rfl
  have ha : argsOk "dict.pop" ⟨.ref a :: u :: more, []⟩ := by
    rcases hm with q | ⟨x, q⟩
    · subst q; exact PySem.F.args_dict_pop_2 _ _
    · subst q; exact PySem.F.args_dict_pop_3 _ _ _
  refine call_meetsIn PySem.F.slot_dict_pop dd.typeIs PySem.F.entry_dict_pop ha (meets_dict_pop_there (mixKind X.prog X.w) a (kV_is ry) more hm hp)
    ⟨vs, w', dd, by rw [← rel.length]; exact z, hw, fun h' dd' hs => h w' _ ?_ rw'⟩
  have he : ∃ q, h'.get? a = some q := let ⟨q, _, _, hq, _⟩ := dd'; ⟨q, hq⟩
  exact d_write I (by rw [e]; exact True.intro) hs he (dk_new (Nat.le_trans (dropK_le kvs k) z) hd (rel.drop k) dd')
/-- len(d) -/
theorem d_len {Q : Value → Shared → Prop} (I : Inv X pins σ H s) (e : Rd H a (.dK kvs)) (h : ∀ t s', Inv X pins σ H s' → Q (.int kvs.length t) s') : wpAny (model X.prog X.w) A (call (.builtin "len") [.ref a]) Q E s := by
  obtain ⟨z, hd, vs, rel, dd⟩ := dk_rd I.hok e
  refine call_len_dict hd dd (by rw [← rel.length]; rw [sizeLine_eq] at z; omega) ?_
  rw [← rel.length]
  exact h _ _ (I.tok _)
end
/-! ### readings and rules -/
/-- the element of a subscription, not a slice -/
def NoSl (i : Expr) : Prop := ∀ ov iv, subscripted i false ov iv = operate [ov, iv] (getItem ov iv)
theorem subD_of {prog : Program} {w : World} {A : Around} {E : Value → Shared → Prop} {s : Shared} {env : Env} {value slice : Expr} {pos : Pos} {T id : String} {Q : Value → Shared → Prop}
    (hl : typeLookup (.type T) "__getitem__" = pure (some (.builtin id))) (hs : NoSl slice)
    (h : wpAny (model prog w) A (eval value env) (fun o s₁ => wpAny (model prog w) A (eval slice env) (fun i s₂ => s₂.TypeIs o T ∧ wpAny (model prog w) A (getItem o i) Q E s₂) E s₁) E s) :
    wpAny (model prog w) A (eval (.Subscript value slice pos) env) Q E s := by
  refine Subscript_ (wpAny_mono h (fun o s₁ h₁ => wpAny_mono h₁ (fun i s₂ h₂ => ?_) fun _ _ x => x) fun _ _ x => x)
  obtain ⟨hT, h₂⟩ := h₂
  unfold subscriptTail
  refine wpAny_bind ?_
  rw [getitemInPython_of_ne hT.not_modules]
  refine wpAny_bind (wpAny_specialOf hT hl ?_)
  have fin : wpAny (model prog w) A (subscripted slice false o i) (fun r s₃ => wpAny (model prog w) A (letTemporaryGo value o r >>= fun _ => pure r) Q E s₃) E s₂ := by
    rw [hs o i]
    exact wpAny_operating (wpAny_mono h₂ (fun r s₃ h₃ => wpAny_bind (wpAny_letTemporaryGo (wpAny_pure h₃))) fun _ _ x => x)
  first
    | exact wpAny_pure (wpAny_bind fin)
    | exact wpAny_bind (wpAny_pure (wpAny_bind fin))
    | exact wpAny_bind fin

/-- y in d, y not in d -/
def tDIn (ty td : TE) : TE := fun σ H Q => ty σ H fun y H1 => td σ H1 fun x H2 => ∃ a o, x = .ref a ∧ DGet H2 a y o ∧ Q (.bl o.isSome) H2
/-- d[y] = v -/
def sDPut (td ty tv : TE) : TS := fun D σ H => tv σ H fun v H1 => td σ H1 fun x H2 => ty σ H2 fun y H3 => ∃ a H4, x = .ref a ∧ DPut H3 a y v H4 ∧ D.nx σ H4
section
variable {X : Cx} {o i e value : Expr} {pos pos' tpos : Pos} {td ty tv : TE}
theorem pc_din (hu : X.A.units + 1 < cLine) (hi : PE X i ty) (ho : PE X o td) : PC X .In i o (tDIn ty td) := by
  intro pins s σ H Q I h
  refine thn (hi pins s σ H _ I h) fun iv s1 ⟨y, H1, I1, ry, q1⟩ => thn (ho pins s1 σ H1 _ I1 q1) fun u s2 ⟨x, H2, I2, rx, a, ov, ex, g, q2⟩ => ?_
  subst ex
  obtain rfl : u = Value.ref a := rx
  exact d_in hu I2 g ry fun s3 I3 => ⟨.bl ov.isSome, H2, I3, rfl, q2⟩
theorem ps_dput (hu : X.A.units + 1 < cLine) (ho : PE X o td) (hi : PE X i ty) (hv : PE X value tv) (hs : swapsWith value (some (.Subscript o i pos')) pos.line X.env = pure false) :
    PS X (.Assign [.Subscript o i pos'] value pos) (sDPut td ty tv) := by
  intro pins s σ H D I h
  refine wpAny_Assign_Subscript (thn (hv pins s σ H _ I h) fun r s1 ⟨v, H1, I1, rv, q1⟩ => thn (ho pins s1 σ H1 _ I1 q1) fun u s2 ⟨x, H2, I2, rx, q2⟩ => thn (hi pins s2 σ H2 _ I2 q2) fun iv s3 ⟨y, H3, I3, ry, a, H4, ex, g, q3⟩ => ?_) hs
  subst ex
  obtain rfl : u = Value.ref a := rx
  exact d_setItem hu I3 g ry rv fun s4 I4 => ⟨σ, H4, I4, q3⟩
end
/-! ### displays -/
theorem dk_empty {P : Program} {w : World} {H : Hp} (h : Heap) (hb : sysModules < h.objs.size) : ObjOk P w H (h.push { cls := .type "dict", data := .dict #[] }) h.objs.size (.dK []) :=
  ⟨Nat.zero_le _, beq_eq_false_iff_ne.mpr (Ne.symm (Nat.ne_of_lt hb)), [], .nil, Heap.DictOf.new h⟩
/-- {}, to be a dict of the kind that is wanted -/
def tDNewK : TE := fun _ H Q => ∀ p, H p = none → Q (.ref p) (upd H p (.dK []))
section
variable {X : Cx} {pos : Pos}
theorem pe_dnewK : PE X (.Dict [] [] pos) tDNewK := fun pins s σ H Q I h =>
  wpAny_Dict_empty ⟨.ref s.heap.objs.size, _, I.laid (a := s.heap.objs.size) (o := .dK []) (t' := s.toks) (fun _ _ q => Heap.get?_push_of_some _ q) (Nat.le_refl _) (dk_empty s.heap I.big), rfl, h _ (I.hok.fresh (Nat.le_refl _))⟩
end
/-! ### methods -/
/-- a method call o.m(e) of a built-in, with one argument: what must be seen of the text -/
structure M1 (X : Cx) (o : Expr) (m : Str) (apos : Pos) (e : Expr) (cpos : Pos) : Prop where
  base : attributeBase o m X.env (eval o X.env) = eval o X.env
  few : ((backTo cpos (starEach [e] X.env)).all (fun x => !x.1) && (backToKw cpos (keywordEach [] X.env)).all (fun x => x.1.isSome)
    && decide (([e] : List Expr).length + ([] : List Keyword).length + (if ([] : List Keyword).isEmpty then 0 else 1) < 30)) = true
  line : (apos.endLine == cpos.line) = true
  trees : backTo cpos (starEach [e] X.env) = [(false, eval e X.env)]
/-- a is a dict, whatever its keys -/
def IsD (H : Hp) (a : Addr) : Prop := (∃ kvs, Rd H a (.dK kvs)) ∨ ∃ kvs, Rd H a (.dT kvs)
theorem isD_at {X : Cx} {pins : List (Addr × Obj)} {σ : St} {H : Hp} {s : Shared} {a : Addr} (I : Inv X pins σ H s) (d : IsD H a) :
    s.TypeIs (.ref a) "dict" ∧ (∀ b, Value.ref a = .ref b → ∃ ob, s.heap.get? b = some ob ∧ ob.dict = none) ∧ (a == sysModules) = false := by
  rcases d with ⟨kvs, e⟩ | ⟨kvs, e⟩
  · obtain ⟨_, hd, vs, _, dd⟩ := dk_rd I.hok e
    refine ⟨dd.typeIs, fun b q => ?_, hd⟩
    cases q
    obtain ⟨ob, _, _, h1, h2, _⟩ := dd
    exact ⟨ob, h1, h2.2.1⟩
  · obtain ⟨_, hd, xs, _, dd⟩ := dt_rd I.hok e
    refine ⟨dd.typeIs, fun b q => ?_, hd⟩
    cases q
    obtain ⟨ob, _, _, h1, h2, _⟩ := dd
    exact ⟨ob, h1, h2.2.1⟩

/-- d.pop(k): there; d.pop(k, x): there or not -/
def tDPop1 (td ty : TE) : TE := fun σ H Q => td σ H fun x H1 => ∃ a, x = .ref a ∧ IsD H1 a ∧ ty σ H1 fun y H2 => ∃ kvs k v, H2 a = some (.dK kvs) ∧ y = kV k ∧ valV kvs k = some v ∧ Q v (upd H2 a (.dK (dropK kvs k)))
section
variable {X : Cx} {o e f : Expr} {apos cpos : Pos} {td ty tx : TE}
theorem pe_dpop1 (ho : PE X o td) (he : PE X e ty) (m : M1 X o "pop" apos e cpos) : PE X (.Call (.Attribute o "pop" apos) [e] [] cpos) (tDPop1 td ty) := by
  intro pins s σ H Q I h
  refine wpAny_Call_method m.base m.few m.line PySem.F.plainAttrs_dict PySem.F.slot_dict_pop PySem.F.type_dict_pop (thn (ho pins s σ H _ I h) fun u s1 ⟨x, H1, I1, rx, a, ex, d, q1⟩ => ?_)
  subst ex
  obtain rfl : u = Value.ref a := rx
  obtain ⟨t1, t2, _⟩ := isD_at I1 d
  refine ⟨t1, t2, ?_⟩
  rw [m.trees]
  refine Calls.callWith_builtin rfl (Calls.evalArgs_plain (Calls.spliced_cons (thn (he pins s1 σ H1 _ I1 q1) fun iv s2 ⟨y, H2, I2, ry, kvs, k, v, ea, ey, l, q2⟩ => Calls.spliced_nil ?_)))
  subst ey
  exact d_pop I2 ea ry l (.inl rfl) fun w' s3 I3 rw' => ⟨v, _, I3, rw', q2⟩
end
end L2
namespace L2
open PySem PySem.Spec PyProof.Rows
/-- range(i, j, c): small bounds, n items -/
def RgC (i j c : Int) (n : Nat) : Prop := c ≠ 0 ∧ c.natAbs < 1073741824 ∧ Builtin.Range.small i j c = true ∧ Builtin.Range.rangeSize i j c = n
theorem RgC.neg {i j : Int} (ha : -(2 ^ 62) ≤ i) (ha' : i < 2 ^ 62) (hb : -(2 ^ 62) ≤ j) (hb' : j < 2 ^ 62) : RgC i j (-1) (i - j).toNat :=
  ⟨by decide, by decide, PySem.W.small_down ha ha' hb hb', PySem.W.rangeSize_downNat i j⟩
end L2
section
namespace TL
open PySem PySem.Builtin PySem.Builtin.Str PySem.StrLaws
abbrev tl (x : Str) : List Nat := x.cps.toList
/-! ### the list functions -/
/-- S stands at the head of l -/
def pre (S l : List Nat) : Bool := l.take S.length == S
/-- what stands before the first S, and behind it -/
def par (S : List Nat) : List Nat → List Nat → Option (List Nat × List Nat)
  | _, [] => none
  | acc, c :: r => if pre S (c :: r) = true then some (acc, (c :: r).drop S.length) else par S (acc ++ [c]) r

end TL
end
namespace L2
open PySem PySem.Spec PyProof.Rows
section
variable {X : Cx}

end
end L2
namespace L2
open PySem PySem.Spec PyProof.Rows
/-! ### slices of a text -/
theorem IsPart.raw {v : Value} {o : Option Int} (p : IsPart v o) : ∃ l : Option (Int × Tok), v = partValue l ∧ l.map (·.1) = o := by
  cases p with
  | none => exact ⟨none, rfl, rfl⟩
  | int i t => exact ⟨some (i, t), rfl, rfl⟩

end L2
namespace Att
open PySem PySem.W PySem.Calls PyProof.Rows
/-! ### the script -/
theorem ints_of_wellAll {P : Params} {h : Heap} : ∀ (ns : List Int) (vs : List Value), WellAll P h vs (ns.map WData.int) → IntsAre vs ns := by
  intro ns
  induction ns with
  | nil =>
    intro vs w
    rw [List.map_nil] at w
    cases w
    exact .nil
  | cons n ns ih =>
    intro vs w
    rw [List.map_cons] at w
    cases w with
    | cons a b =>
      cases a
      exact .cons _ _ (ih _ b)

section
variable {prog : Program} {w : World} {A : Around} {E : Value → Shared → Prop} {s : Shared} {K : Frag}

def ledger (h : Heap) (L d : Addr) : List (Addr × Obj) := (List.range h.objs.size).filterMap fun a => if a = L ∨ a = d then none else (h.get? a).map fun o => (a, o)
end
end Att
namespace L2
open PySem PySem.Spec PyProof.Rows
theorem vals_ints : ∀ {vs : List Value} {ns : List Int}, IntsAre vs ns → Vals (ns.map V.int) vs
  | _, _, .nil => .nil
  | _, _, .cons n t h => .cons ⟨t, rfl⟩ (vals_ints h)

/-- nothing is tracked but the script, known to the object (or it is an object of the module) -/
def Only (H : Hp) : Prop := ∀ b, H b = none ∨ ∃ o xs, H b = some (.frz o (.lst xs))

end L2
namespace L2
open PySem PySem.Spec PyProof.Rows
/-! ### the text by places -/
/-- the j-th statement of a class's body -/
def inClass (s : Stmt) (j : Nat) : Stmt := match s with
  | .ClassDef _ _ _ body _ _ _ _ _ _ _ => body.getD j (.Pass ⟨0, 0, 0, 0⟩)
  | _ => .Pass ⟨0, 0, 0, 0⟩
def defArgs (s : Stmt) : Arguments := match s with
  | .FunctionDef _ a _ _ _ _ _ _ _ _ => a
  | _ => { posonlyargs := [], args := [], vararg := none, kwonlyargs := [], kw_defaults := [], kwarg := none, defaults := [] }
def defBody (s : Stmt) : List Stmt := match s with
  | .FunctionDef _ _ b _ _ _ _ _ _ _ => b
  | _ => []
def defScope (s : Stmt) : Scope := match s with
  | .FunctionDef _ _ _ _ _ _ sc _ _ _ => sc
  | _ => { kind := .function, names := [], isGenerator := false, isCoroutine := false }

/-! ### no exception leaves a def -/
abbrev CX0 : CXT := fun _ _ _ _ _ _ => False
abbrev E0 : XK := fun _ _ _ => False
theorem pass0 {X : Cx} : Passes CX0 X E0 := fun _ _ _ _ _ _ _ h => h.elim

/-! ### a def (or method) of the text as it stands behind the top -/
structure Fun (K : PySem.W.Frag) (x qual : Str) (st : Stmt) (f : Addr) (fd : FuncData) : Prop where
  ex : ∃ (oc : Value) (od : Option Addr) (kV doc pm : Value) (an : Option Addr) (cdv ct : Value) (osl : Array (Option Value)),
    fd = PySem.W.fnOf x qual (defArgs st) (defBody st) (defScope st) .none kV doc pm an cdv ct ∧ K.lookup f = some ⟨oc, od, .func fd, osl⟩ ∧ PySem.W.codeIn K cdv qual = true
  kp : PySem.W.keepIn K (.ref f) = true
section
variable {P : Program} {w : World} {K : PySem.W.Frag} {mg : Str → Option Value} {base : Heap}
/-- THE RULE for a def: its body as a term of rules, and the reading of that term -/
theorem Fun.ok {x qual : Str} {st : Stmt} {f : Addr} {fd : FuncData} {N ps : List Str} {k : Nat} {sp : Sp} (F : Fun K x qual st f fd) (S : FnScope N ps (defScope st)) (len : ∀ vs H Q E, sp vs H Q E → vs.length = ps.length)
    (hbody : ∀ (cdv : Value) (A : Around) (outer : List Env) (s : Shared) (H : Hp) (vs : List V) (Q : VK) (E : XK), Room k (A.deeper (envOfC qual (defScope st) s.heap.objs.size f cdv)) → sp vs H Q E →
      ∃ t, PSs (cxOf CX0 P w K mg base N qual (defScope st) f cdv A outer s H E).nox (defBody st) t ∧ t { nx := fun _ H' => Q .non H', rt := Q } (start N vs) H) : FnOk P w K mg base CX0 (k + 1) f fd ps sp := by
  obtain ⟨oc, od, kV, doc, pm, an, cdv, ct, osl, rfl, lk, hcd⟩ := F.ex
  refine fn_of lk hcd S len fun A outer s H vs Q E hr hsp => ?_
  obtain ⟨t, h, q⟩ := hbody cdv A outer s H vs Q E hr hsp
  exact ⟨t, h.nox, q⟩
/-- how its arguments bind (no defaults): h is «fun _ _ _ _ _ _ us hl => match us, hl with | [_, _], _ => rfl», one _ a parameter -/
theorem Fun.binds {x qual : Str} {st : Stmt} {f : Addr} {fd : FuncData} {ps : List Str} (F : Fun K x qual st f fd)
    (h : ∀ (kV doc pm : Value) (an : Option Addr) (cdv ct : Value) (us : List Value), us.length = ps.length → bindArgs (PySem.W.fnOf x qual (defArgs st) (defBody st) (defScope st) .none kV doc pm an cdv ct) ⟨us, []⟩ = pure (ps.zip us)) : Binds K fd ps [] := by
  obtain ⟨oc, od, kV, doc, pm, an, cdv, ct, osl, rfl, lk, hcd⟩ := F.ex
  exact .all (h kV doc pm an cdv ct)
theorem fun_mk {x qual : Str} {st : Stmt} {f : Addr} {oc : Value} {od an : Option Addr} {osl : Array (Option Value)} {kV doc pm cdv ct : Value} (l : K.lookup f = some ⟨oc, od, .func (PySem.W.fnOf x qual (defArgs st) (defBody st) (defScope st) .none kV doc pm an cdv ct), osl⟩)
    (c : PySem.W.codeIn K cdv qual = true) (k : PySem.W.keepIn K (.ref f) = true) : Fun K x qual st f (PySem.W.fnOf x qual (defArgs st) (defBody st) (defScope st) .none kV doc pm an cdv ct) := ⟨⟨oc, od, kV, doc, pm, an, cdv, ct, osl, rfl, l, c⟩, k⟩
end
theorem hu_of {A : Around} {k : Nat} (hr : Room k A) : A.units + 1 < cLine := Nat.lt_of_le_of_lt (Nat.add_le_add_left (by decide : 1 ≤ 64) _) hr.units
theorem small1000 {n : Nat} (h : n ≤ 1000) : n < sizeLine := Nat.lt_of_le_of_lt h (by decide)

section
variable {X : Cx}
theorem pv (i : Nat) {x : Str} {pos : Pos} (hN : X.N[i]? = some x := by rfl) (hv : Vis X.env.scope x := by first | exact Or.inl rfl | exact Or.inr (Or.inl rfl) | exact Or.inr (Or.inr rfl)) (hd : (x == ("__debug__" : Str)) = false := by decide)
    (hcd : (x == ("__classdict__" : Str)) = false := by decide) : PE X (.Name x pos) (tVar i) := pe_var hN hv hd hcd
/-- len of a dict -/
theorem call_lenD : CallR X (.builtin "len") (fun xs H Q => ∃ a kvs, xs = [V.ref a] ∧ H a = some (.dK kvs) ∧ Q (.int kvs.length) H) := by
  intro pins s σ H xs us Q I r h
  obtain ⟨a, kvs, rfl, ha, q⟩ := h
  obtain ⟨u, rfl, ru⟩ := vals1 r
  cases ru
  exact d_len I (.inl ha) fun t s' I' => ⟨.int kvs.length, H, I', ⟨t, rfl⟩, q⟩
end
/-! ### tests -/
theorem iteF {A B : Prop} (h : B) : if false = true then A else B := by
  rw [if_neg Bool.false_ne_true]
  exact h
theorem iteT {A B : Prop} (h : A) : if true = true then A else B := by
  rw [if_pos rfl]
  exact h
theorem ite2 {c A B : Prop} [Decidable c] (h1 : c → A) (h2 : ¬ c → B) : if c then A else B := by
  by_cases h : c
  · rw [if_pos h]
    exact h1 h
  · rw [if_neg h]
    exact h2 h
/-! ### heaps -/
/-- all that was tracked is as it was -/
def Same (H H' : Hp) : Prop := ∀ b o, H b = some o → H' b = some o
theorem Same.refl (H : Hp) : Same H H := fun _ _ h => h
theorem Same.trans {H H1 H2 : Hp} (a : Same H H1) (b : Same H1 H2) : Same H H2 := fun c o h => b c o (a c o h)
theorem Same.free {H H' : Hp} (e : Same H H') {l : Addr} (h : H' l = Option.none) : H l = Option.none := by
  cases q : H l with
  | none => rfl
  | some o =>
    rw [e l o q] at h
    cases h
theorem Same.seq {K : PySem.W.Frag} {H H' : Hp} {a : Addr} {xs : List V} (e : Same H H') (h : SqL K H a xs) : SqL K H' a xs := by
  rcases h with (h | ⟨o, h⟩) | h
  · exact .inl (.inl (e _ _ h))
  · exact .inl (.inr ⟨o, e _ _ h⟩)
  · exact .inr h

/-- a new instance and its __init__ leave all that was tracked as it was -/
theorem Same.made {H H1 : Hp} {x dx C : Addr} (nx : H x = Option.none) (nd : H dx = Option.none) (k : ∀ b o, (upd (upd H dx (.own x)) x (.ins C dx [])) b = some o → b ≠ x → H1 b = some o) : Same H H1 := fun b o e =>
  k b o (by rw [upd_ne (ne_of_none e nx), upd_ne (ne_of_none e nd)]; exact e) (ne_of_none e nx)
end L2
/-! The program's reading, counting and keeping as plain functions, against the specification's. -/
namespace LP
open Ql48

/-! ### a packet read -/
def hd (b : List Nat) : Nat := b.getD 0 0
def cStart (b : List Nat) : Nat :=
  if hd b / 16 % 2 = 0 then 12 + 4 * (hd b % 16) else 12 + 4 * (hd b % 16) + 4 + 4 * field b (12 + 4 * (hd b % 16) + 2) 2
def padLen (b : List Nat) : Nat := if hd b / 32 % 2 = 0 then 0 else b.getLastD 0
def mkPk (b : List Nat) : Packet := ⟨b.getD 1 0 / 128 == 1, b.getD 1 0 % 128, field b 2 2, field b 4 4, field b 8 4, (b.drop (cStart b)).take (b.length - padLen b - cStart b)⟩
def readM (b : List Nat) : Option Packet :=
  if b.length < 12 ∨ 65535 < b.length then none
  else if hd b / 64 ≠ 2 then none
  else if hd b / 32 % 2 ≠ 0 ∧ padLen b = 0 then none
  else if b.length < cStart b + padLen b then none
  else some (mkPk b)

theorem readM_eq (b : List Nat) (hb : b.length ≤ 65535) : readM b = Ql48.read b := by
  have h16 : hd b / 16 % 2 = 0 ∨ hd b / 16 % 2 = 1 := by omega
  have h32 : hd b / 32 % 2 = 0 ∨ hd b / 32 % 2 = 1 := by omega
  unfold readM Ql48.read
  simp only []
  rw [show b.getD 0 0 = hd b from rfl]
  rcases h16 with h16 | h16 <;> rcases h32 with h32 | h32
  all_goals
    unfold mkPk padLen cStart
    rw [h16, h32]
    simp only [beq_iff_eq, Nat.zero_ne_one, if_true, if_false, false_and, or_false, ne_eq, not_true, Nat.add_zero, Nat.sub_zero, reduceIte, not_false_eq_true, true_and, Nat.succ_ne_zero, Nat.reduceBEq, Bool.false_eq_true, and_false]
    (repeat' split)
    all_goals first | rfl | (exfalso; omega) | (simp only [Nat.sub_right_comm]; done)

/-! ### counting -/
structure Cnt where
  first : Int
  greatest : Int
  came : Int
  jitter : Int
  way : Int
  te : Int
  tc : Int
def wholeM (g n : Int) : Option Int :=
  if (n - g) % 65536 < 3000 then some (g + (n - g) % 65536)
  else if 65436 < (n - g) % 65536 then some (g + (n - g) % 65536 - 65536)
  else none
def wayM (a t : Int) : Int := (a - t) % 4294967296
def changeM (v w : Int) : Int := if 4294967296 - (w - v) % 4294967296 < (w - v) % 4294967296 then 4294967296 - (w - v) % 4294967296 else (w - v) % 4294967296
def jitM (j c : Int) : Int := j + c - (j + 8) / 16
def maxM (a b : Int) : Int := if b > a then b else a
def Cnt.add (c : Cnt) (whole way : Int) : Cnt := { c with greatest := maxM c.greatest whole, came := c.came + 1, jitter := jitM c.jitter (changeM c.way way), way := way }

/-! ### waiting -/
structure Wt where
  due : Int
  kept : List (Int × Packet)
def Wt.has (x : Wt) (z : Int) : Bool := x.kept.any fun k => k.1 == z
def Wt.try_ (x : Wt) (z : Int) (p : Packet) : Wt × Bool :=
  if z < x.due ∨ x.has z = true then (x, false)
  else if 64 ≤ x.kept.length ∨ 1472 < p.load.length then (x, false)
  else ({ x with kept := x.kept ++ [(z, p)] }, true)

/-- what others' reports have said -/
structure Hr where
  middle : Int
  at_ : Option Int
  bye : Int
structure Rc where
  own : Int
  depth : Int
  source : Option Int
  awaited : Option Int
  counting : Option Cnt
  waiting : Option Wt
  hearing : Hr

def Rc.new (own depth : Int) : Rc := ⟨own, depth, none, none, none, none, ⟨0, none, 0⟩⟩
def Rc.keep (m : Rc) (x : Wt) (z : Int) (p : Packet) : Rc × Int := ({ m with waiting := some (x.try_ z p).1 }, if (x.try_ z p).2 = true then 1 else 0)
def Rc.doubt (m : Rc) (p : Packet) (way : Int) : Rc × Int :=
  if m.awaited = some (p.seq : Int) then
    Rc.keep { m with awaited := none, counting := some ⟨p.seq, p.seq, 1, 0, way, 0, 0⟩ } ⟨p.seq, []⟩ p.seq p
  else ({ m with awaited := some (((p.seq : Int) + 1) % 65536) }, 2)
def Rc.hear (m : Rc) (p : Packet) (arrival : Int) : Rc × Int :=
  match m.counting, m.waiting with
  | some c, some x => match wholeM c.greatest p.seq with
    | some z => Rc.keep { m with counting := some (c.add z (wayM arrival p.time)) } x z p
    | none => Rc.doubt m p (wayM arrival p.time)
  | _, _ => Rc.doubt m p (wayM arrival p.time)
def Rc.named (m : Rc) (p : Packet) : Rc := if m.source = none then { m with source := some (p.source : Int) } else m
def Rc.receive (m : Rc) (b : List Nat) (arrival : Int) : Rc × Int := match readM b with
  | none => (m, -1)
  | some p => if (m.named p).source = some (p.source : Int) then (m.named p).hear p arrival else (m.named p, -2)

/-! ### what the specification's state and the program's have in common -/
def keptOf (k : Int × Packet) : Kept := ⟨k.1.toNat, k.2⟩
structure RelC (k : Nat) (c : Cnt) (s : Source) : Prop where
  wanted : s.wanted = 0
  first : c.first = (s.base : Int)
  great : c.greatest = ((s.cycles + s.most : Nat) : Int)
  most : s.most < 65536
  cyc : s.cycles % 65536 = 0
  base : s.base ≤ s.cycles + s.most
  came : c.came = (s.came : Int)
  jit : c.jitter = (s.jitter : Int)
  way : s.way = some c.way.toNat
  way0 : 0 ≤ c.way
  way1 : c.way < 4294967296
  te : c.te = (s.expectedBefore : Int)
  te1 : s.expectedBefore ≤ s.cycles + s.most + 1 - s.base
  tc : c.tc = (s.cameBefore : Int)
  jit1 : s.jitter < 68719476736
  cap : s.cycles + s.most ≤ s.base + 3000 * k
structure RelH (h : Hr) (c : Source) : Prop where
  rep : (c.report = none ∧ h.middle = 0 ∧ h.at_ = none) ∨ ∃ x a : Nat, c.report = some (x, a) ∧ h.middle = (x : Int) ∧ h.at_ = some (a : Int) ∧ a < 4294967296
  bye : h.bye = if c.bye = true then 1 else 0
structure RelW (x : Wt) (next : Nat) (l : List Kept) : Prop where
  due : x.due = (next : Int)
  perm : (x.kept.map keptOf).Perm l
  nn : ∀ k ∈ x.kept, 0 ≤ k.1
  sorted : l.Pairwise fun a b => a.number < b.number
  low : ∀ k ∈ l, next ≤ k.number
  len : l.length ≤ 64
  loads : ∀ k ∈ l, k.packet.load.length ≤ 1472
inductive RelS (k : Nat) : Rc → St → Prop
  | none {m : Rc} {s : St} : m.source = none → m.awaited = none → m.counting = none → m.waiting = none → s.source = none → s.waiting = [] → m.hearing = ⟨0, none, 0⟩ → RelS k m s
  | doubt {m : Rc} {s : St} {c : Source} : m.source = some (c.id : Int) → m.awaited = some (((c.most + 1) % 65536 : Nat) : Int) → m.counting = none → m.waiting = none → s.source = some c → c.wanted = 1 → s.waiting = [] → RelH m.hearing c → RelS k m s
  | sure {m : Rc} {s : St} {c : Source} {q : Cnt} {x : Wt} : m.source = some (c.id : Int) → m.awaited = c.bad.map (fun (n : Nat) => (n : Int)) → m.counting = some q → m.waiting = some x → s.source = some c → RelC k q c → RelW x s.next s.waiting → RelH m.hearing c → RelS k m s
structure Rel (k : Nat) (m : Rc) (s : St) : Prop where
  own : m.own = (s.own : Int)
  depth : m.depth = (s.depth : Int)
  d1 : 1 ≤ s.depth
  d2 : s.depth ≤ 32
  rest : RelS k m s
theorem RelC.mono {k : Nat} {c : Cnt} {s : Source} (h : RelC k c s) : RelC (k + 1) c s := { h with cap := by have := h.cap; omega }
theorem Rel.mono {k : Nat} {m : Rc} {s : St} (h : Rel k m s) : Rel (k + 1) m s := by
  obtain ⟨a, b, c, d, r⟩ := h
  refine ⟨a, b, c, d, ?_⟩
  cases r with
  | none h1 h2 h3 h4 h5 h6 h7 => exact .none h1 h2 h3 h4 h5 h6 h7
  | doubt h1 h2 h3 h4 h5 h6 h7 h8 => exact .doubt h1 h2 h3 h4 h5 h6 h7 h8
  | sure h1 h2 h3 h4 h5 h6 h7 h8 => exact .sure h1 h2 h3 h4 h5 h6.mono h7 h8

theorem insert_perm (k : Kept) : ∀ l : List Kept, (Ql48.insert k l).Perm (k :: l)
  | [] => .refl _
  | x :: r => by
    unfold Ql48.insert
    split
    · exact .refl _
    · exact ((insert_perm k r).cons x).trans (.swap k x r)
theorem insert_sorted (k : Kept) : ∀ l : List Kept, l.Pairwise (fun a b => a.number < b.number) → (∀ x ∈ l, x.number ≠ k.number) → (Ql48.insert k l).Pairwise fun a b => a.number < b.number
  | [], _, _ => by simp [Ql48.insert]
  | x :: r, h, hn => by
    unfold Ql48.insert
    obtain ⟨h1, h2⟩ := List.pairwise_cons.mp h
    have hx := hn x (by simp)
    split
    · rename_i hk
      refine List.pairwise_cons.mpr ⟨fun y hy => ?_, h⟩
      rcases List.mem_cons.mp hy with rfl | hy
      · exact hk
      · exact Nat.lt_trans hk (h1 y hy)
    · rename_i hk
      refine List.pairwise_cons.mpr ⟨fun y hy => ?_, insert_sorted k r h2 fun y hy => hn y (by simp [hy])⟩
      have hy' := (insert_perm k r).mem_iff.mp hy
      rcases List.mem_cons.mp hy' with rfl | hy'
      · omega
      · exact h1 y hy'

theorem has_iff {x : Wt} {next : Nat} {l : List Kept} (r : RelW x next l) (z : Int) : x.has z = (l.any fun k => (k.number : Int) == z) := by
  have e : x.has z = ((x.kept.map keptOf).any fun k => (k.number : Int) == z) := by
    unfold Wt.has
    rw [List.any_map]
    have : ∀ (l : List (Int × Packet)), (∀ k ∈ l, 0 ≤ k.1) → (l.any fun k => k.1 == z) = l.any ((fun k => (k.number : Int) == z) ∘ keptOf) := by
      intro l
      induction l with
      | nil => intro _; rfl
      | cons a t ih =>
        intro h
        have ha : 0 ≤ a.1 := h a (by simp)
        have e1 : ((keptOf a).number : Int) = a.1 := by show ((a.1.toNat : Nat) : Int) = a.1; omega
        simp only [List.any_cons, Function.comp, e1]
        rw [ih fun k hk => h k (by simp [hk])]
        try rfl
    exact this _ r.nn
  rw [e]
  exact (r.perm.any_eq ..)

theorem try_rel {x : Wt} {next : Nat} {l : List Kept} (r : RelW x next l) (z : Int) (p : Packet) :
    ((x.try_ z p).2 = true ↔ ¬ (z < (next : Int) ∨ (l.any fun k => (k.number : Int) == z) = true ∨ ROOM ≤ l.length ∨ LOAD < p.load.length)) ∧
    RelW (x.try_ z p).1 next (if z < (next : Int) ∨ (l.any fun k => (k.number : Int) == z) = true ∨ ROOM ≤ l.length ∨ LOAD < p.load.length then l else Ql48.insert ⟨z.toNat, p⟩ l) := by
  have hl : x.kept.length = l.length := by have := r.perm.length_eq; simpa using this
  have hh := has_iff r z
  unfold Wt.try_
  rw [hh, r.due, hl]
  unfold ROOM LOAD
  by_cases h1 : z < (next : Int)
  · simp [h1, r]
  · cases h2 : (l.any fun k => (k.number : Int) == z)
    · by_cases h3 : 64 ≤ l.length
      · simp [h1, h3, r]
      · by_cases h4 : 1472 < p.load.length
        · simp [h1, h3, h4, r]
        · simp only [h1, h3, h4, Bool.false_eq_true, or_self, if_false, not_false_eq_true, true_and]
          have hz : 0 ≤ z := by omega
          have hne : ∀ y ∈ l, y.number ≠ (⟨z.toNat, p⟩ : Kept).number := fun y hy e => by
            have : (l.any fun k => (k.number : Int) == z) = true := List.any_eq_true.mpr ⟨y, hy, by simp only [beq_iff_eq]; rw [e]; show ((z.toNat : Nat) : Int) = z; omega⟩
            rw [h2] at this; cases this
          refine ⟨rfl, ?_, ?_, insert_sorted _ _ r.sorted hne, ?_, ?_, ?_⟩
          · simp only [List.map_append, List.map_cons, List.map_nil]
            refine ((r.perm.append_right _).trans ?_).trans (insert_perm _ _).symm
            exact List.perm_append_singleton _ _
          · intro k hk
            rcases List.mem_append.mp hk with hk | hk
            · exact r.nn k hk
            · simp at hk; subst hk; exact hz
          · intro k hk
            rcases List.mem_cons.mp ((insert_perm _ _).mem_iff.mp hk) with rfl | hk
            · show next ≤ z.toNat; omega
            · exact r.low k hk
          · rw [(insert_perm _ _).length_eq]; simp; omega
          · intro k hk
            rcases List.mem_cons.mp ((insert_perm _ _).mem_iff.mp hk) with rfl | hk
            · show p.load.length ≤ 1472; omega
            · exact r.loads k hk
    · simp [r]

/-! ### a number taken -/
theorem keep_rel {m : Rc} {x : Wt} {next : Nat} {l : List Kept} (r : RelW x next l) (z : Int) (p : Packet) : (m.keep x z p).2 = if z < (next : Int) ∨ (l.any fun k => (k.number : Int) == z) = true ∨ ROOM ≤ l.length ∨ LOAD < p.load.length then 0 else 1 := by
  have h := (try_rel r z p).1
  unfold Rc.keep
  split
  · rename_i h1
    rw [if_neg (h.mp h1)]
  · rename_i h1
    by_cases h2 : z < (next : Int) ∨ (l.any fun k => (k.number : Int) == z) = true ∨ ROOM ≤ l.length ∨ LOAD < p.load.length
    · rw [if_pos h2]
    · exact absurd (h.mpr h2) h1

theorem relW_new (n : Nat) : RelW ⟨(n : Int), []⟩ n [] := ⟨rfl, .refl _, by simp, .nil, by simp, by simp, by simp⟩

theorem change_eq (v w : Nat) (hv : v < 4294967296) (hw : w < 4294967296) : changeM v w = (((if (w + 2 ^ 32 - v) % 2 ^ 32 < 2 ^ 31 then (w + 2 ^ 32 - v) % 2 ^ 32 else 2 ^ 32 - (w + 2 ^ 32 - v) % 2 ^ 32 : Nat)) : Int) := by
  unfold changeM
  have e : ((w : Int) - v) % 4294967296 = (((w + 2 ^ 32 - v) % 2 ^ 32 : Nat) : Int) := by omega
  rw [e]
  generalize hd : (w + 2 ^ 32 - v) % 2 ^ 32 = d
  have hd1 : d < 4294967296 := by omega
  split <;> split <;> omega
theorem jit_eq (j c : Nat) : jitM j c = ((j + c - (j + 8) / 16 : Nat) : Int) := by
  unfold jitM
  omega
theorem way_eq (a t : Nat) (ht : t < 4294967296) : wayM a t = (((a + 2 ^ 32 - t) % 2 ^ 32 : Nat) : Int) := by
  unfold wayM
  omega

/-- a packet's numbers are within their bytes -/
structure PkOk (p : Packet) : Prop where
  seq : p.seq < 65536
  time : p.time < 4294967296


theorem num_lt : ∀ (l : List Nat) (a : Nat), (∀ x ∈ l, x ≤ 255) → l.foldl (fun n c => 256 * n + c) a < (a + 1) * 256 ^ l.length
  | [], a, _ => by simp
  | x :: r, a, h => by
    have hx : x ≤ 255 := h x (by simp)
    have ih := num_lt r (256 * a + x) fun y hy => h y (by simp [hy])
    rw [List.foldl_cons, List.length_cons, Nat.pow_succ]
    refine Nat.lt_of_lt_of_le ih ?_
    have : 256 * a + x + 1 ≤ (a + 1) * 256 := by omega
    calc (256 * a + x + 1) * 256 ^ r.length ≤ ((a + 1) * 256) * 256 ^ r.length := Nat.mul_le_mul_right _ this
      _ = (a + 1) * (256 ^ r.length * 256) := by rw [Nat.mul_assoc, Nat.mul_comm 256]
theorem field_lt (b : List Nat) (hb : ∀ x ∈ b, x ≤ 255) (i n : Nat) : field b i n < 256 ^ n := by
  unfold field num
  have h := num_lt ((b.drop i).take n) 0 fun x hx => hb x (List.mem_of_mem_drop (List.mem_of_mem_take hx))
  refine Nat.lt_of_lt_of_le h ?_
  rw [Nat.zero_add, Nat.one_mul]
  exact Nat.pow_le_pow_right (by decide) (by simp; omega)
theorem getD_le {b : List Nat} (hb : ∀ x ∈ b, x ≤ 255) (i : Nat) : b.getD i 0 ≤ 255 := by
  rw [List.getD_eq_getElem?_getD]
  cases h : b[i]? with
  | none => simp
  | some x => exact hb x (List.mem_of_getElem? h)
theorem read_ok {b : List Nat} (hb : ∀ x ∈ b, x ≤ 255) {p : Packet} (h : readM b = some p) : PkOk p := by
  unfold readM at h
  repeat' split at h
  all_goals first | (cases h; done) | skip
  cases h
  exact ⟨field_lt b hb 2 2, field_lt b hb 4 4⟩

theorem doubt_first {k : Nat} {m : Rc} {s : St} {c : Source} (p : Packet) (hp : PkOk p) (a : Nat) (ho : m.own = (s.own : Int)) (hde : m.depth = (s.depth : Int)) (d1 : 1 ≤ s.depth) (d2 : s.depth ≤ 32) (hm : m.source = some (c.id : Int)) (c' : Source)
    (e : c' = { c.begin_ p.seq with wanted := 0, came := 1 }) (hw : m.awaited = some (p.seq : Int)) (hH : RelH m.hearing c) :
    let c2 := jitter { c' with way := none, jitter := 0 } p.time a
    let y : St × Int := if LOAD < p.load.length then ({ s with source := some c2, next := p.seq, waiting := [] }, 0) else ({ s with source := some c2, next := p.seq, waiting := [⟨p.seq, p⟩] }, 1)
    (m.doubt p (wayM a p.time)).2 = y.2 ∧ Rel k (m.doubt p (wayM a p.time)).1 y.1 := by
  have hy1 : p.seq < 65536 := hp.seq
  have hj : jitter { c' with way := none, jitter := 0 } p.time a = { c' with way := some ((a + 2 ^ 32 - p.time) % 2 ^ 32), jitter := 0 } := rfl
  have hwy := way_eq a p.time hp.time
  unfold Rc.doubt
  rw [if_pos hw, hj]
  have hk := keep_rel (m := { m with awaited := none, counting := some ⟨p.seq, p.seq, 1, 0, wayM a p.time, 0, 0⟩ }) (relW_new p.seq) (p.seq : Int) p
  have hr := (try_rel (relW_new p.seq) (p.seq : Int) p).2
  simp only [Int.lt_irrefl, List.any_nil, Bool.false_eq_true, List.length_nil, ROOM, LOAD, false_or, show ¬ (64 ≤ 0) by decide, Int.toNat_natCast] at hk hr
  have hH2 : RelH m.hearing { c' with way := some ((a + 2 ^ 32 - p.time) % 2 ^ 32), jitter := 0 } := by subst e; exact ⟨hH.rep, hH.bye⟩
  have hC : RelC k ⟨p.seq, p.seq, 1, 0, wayM a p.time, 0, 0⟩ { c' with way := some ((a + 2 ^ 32 - p.time) % 2 ^ 32), jitter := 0 } := by
    subst e
    refine ⟨rfl, rfl, ?_, hy1, rfl, ?_, rfl, rfl, ?_, ?_, ?_, rfl, Nat.zero_le _, rfl, (by show 0 < 68719476736; decide), ?_⟩
    · show (p.seq : Int) = ((0 + p.seq : Nat) : Int); omega
    · show p.seq ≤ 0 + p.seq; omega
    · show some _ = some (wayM a p.time).toNat
      rw [hwy, Int.toNat_natCast]
    · show 0 ≤ wayM a p.time; unfold wayM; omega
    · show wayM a p.time < _; unfold wayM; omega
    · show 0 + p.seq ≤ p.seq + 3000 * k; omega
  dsimp only
  unfold LOAD
  by_cases hl : 1472 < p.load.length
  · rw [if_pos hl] at hk hr ⊢
    exact ⟨hk, ⟨ho, hde, d1, d2, .sure (c := { c' with way := some ((a + 2 ^ 32 - p.time) % 2 ^ 32), jitter := 0 }) (by subst e; exact hm) (by subst e; rfl) rfl rfl rfl hC hr hH2⟩⟩
  · rw [if_neg hl] at hk hr ⊢
    exact ⟨hk, ⟨ho, hde, d1, d2, .sure (c := { c' with way := some ((a + 2 ^ 32 - p.time) % 2 ^ 32), jitter := 0 }) (by subst e; exact hm) (by subst e; rfl) rfl rfl rfl hC hr hH2⟩⟩

theorem receive_rel {k : Nat} {m : Rc} {s : St} (h : Rel k m s) (b : List Nat) (hl : b.length ≤ 65535) (hb : ∀ x ∈ b, x ≤ 255) (a : Nat) :
    (m.receive b a).2 = (Ql48.receive s b a).2 ∧ Rel (k + 1) (m.receive b a).1 (Ql48.receive s b a).1 := by
  obtain ⟨ho, hde, d1, d2, hR⟩ := h
  unfold Rc.receive Ql48.receive
  have hrd := readM_eq b hl
  cases hr : readM b with
  | none =>
    rw [hr] at hrd
    rw [← hrd]
    exact ⟨rfl, Rel.mono ⟨ho, hde, d1, d2, hR⟩⟩
  | some p =>
    have hp := read_ok hb hr
    have hs1 := hp.seq
    rw [hr] at hrd
    rw [← hrd]
    cases hR with
    | none h1 h2 h3 h4 h5 h6 hh =>
      have en : m.named p = { m with source := some (p.source : Int) } := by unfold Rc.named; rw [if_pos h1]
      have et : Ql48.take (new_ p.source p.seq) p.seq = ({ new_ p.source p.seq with wanted := 1, most := p.seq }, .not) := by
        unfold Ql48.take new_ W
        simp only []
        rw [if_pos (by decide), if_pos (by omega), if_neg (by decide)]
      simp only [en, h5, Option.getD_none, if_true]
      rw [if_neg (by simp [new_]), et]
      simp only [Rc.hear, h3, h4, Rc.doubt, h2, reduceCtorEq, if_false]
      refine ⟨trivial, ho, hde, d1, d2, .doubt (c := { new_ p.source p.seq with wanted := 1, most := p.seq }) rfl ?_ rfl rfl rfl rfl h6 (by rw [hh]; exact ⟨.inl ⟨rfl, rfl, rfl⟩, rfl⟩)⟩
      show some (((p.seq : Int) + 1) % 65536) = some (((p.seq + 1) % 65536 : Nat) : Int)
      congr 1
    | @doubt c h1 h2 h3 h4 h5 h6 h7 hh =>
      have en : m.named p = m := by unfold Rc.named; rw [if_neg (by rw [h1]; simp)]
      simp only [en, h5, Option.getD_some, h1, Option.some.injEq]
      by_cases hid : c.id = p.source
      · rw [if_pos (by omega), if_neg (by simpa using hid)]
        simp only [Rc.hear, h3, h4]
        by_cases hn : p.seq = (c.most + 1) % 65536
        · have et : Ql48.take c p.seq = ({ c.begin_ p.seq with wanted := 0, came := 1 }, .first) := by
            unfold Ql48.take W
            rw [if_pos (by omega), if_pos hn, if_pos h6]
          rw [et]
          exact doubt_first p hp a ho hde d1 d2 h1 _ rfl (by rw [h2, ← hn]) hh
        · have et : Ql48.take c p.seq = ({ c with wanted := 1, most := p.seq }, .not) := by
            unfold Ql48.take W
            rw [if_pos (by omega), if_neg hn]
          rw [et]
          have hne : ¬ m.awaited = some (p.seq : Int) := by rw [h2]; intro q; exact hn (by have := Option.some.inj q; omega)
          simp only [Rc.doubt]
          rw [if_neg hne]
          refine ⟨rfl, ho, hde, d1, d2, .doubt (c := { c with wanted := 1, most := p.seq }) h1 ?_ h3 h4 rfl rfl h7 ⟨hh.rep, hh.bye⟩⟩
          show some (((p.seq : Int) + 1) % 65536) = some (((p.seq + 1) % 65536 : Nat) : Int)
          congr 1
      · rw [if_neg (by omega), if_pos (by simpa using hid)]
        exact ⟨rfl, ho, hde, d1, d2, .doubt h1 h2 h3 h4 h5 h6 h7 hh⟩
    | @sure c q x h1 h2 h3 h4 h5 hC hW hh =>
      have en : m.named p = m := by unfold Rc.named; rw [if_neg (by rw [h1]; simp)]
      simp only [en, h5, Option.getD_some, h1, Option.some.injEq]
      by_cases hid : c.id = p.source
      · rw [if_pos (by omega), if_neg (by simpa using hid)]
        obtain ⟨c1, c2, c3, c4, c5, c6, c7, c8, c9, c10, c11, c12, c13, c14, c15, c16⟩ := id hC
        have ed : ((p.seq : Int) - q.greatest) % 65536 = (((p.seq + 65536 - c.most) % 65536 : Nat) : Int) := by rw [c3]; omega
        simp only [Rc.hear, h3, h4]
        unfold wholeM
        rw [ed]
        generalize hd : (p.seq + 65536 - c.most) % 65536 = d at *
        have hd1 : d < 65536 := by omega
        have hwy := way_eq a p.time hp.time
        have hj : ∀ (c' : Source), c'.way = c.way → c'.jitter = c.jitter → jitter c' p.time a = { c' with way := some (wayM a p.time).toNat, jitter := (jitM q.jitter (changeM q.way (wayM a p.time))).toNat } := fun c' e1 e2 => by
          unfold jitter
          rw [e1, e2, c9]
          have hq : q.way = ((q.way.toNat : Nat) : Int) := by omega
          have hc := change_eq q.way.toNat ((a + 2 ^ 32 - p.time) % 2 ^ 32) (by omega) (by omega)
          rw [← hq, ← hwy] at hc
          rw [hc, c8, jit_eq, hwy, Int.toNat_natCast, Int.toNat_natCast]
        have hj0 : 0 ≤ jitM q.jitter (changeM q.way (wayM a p.time)) := by
          have hc := change_eq q.way.toNat ((a + 2 ^ 32 - p.time) % 2 ^ 32) (by omega) (by omega)
          have hq : q.way = ((q.way.toNat : Nat) : Int) := by omega
          rw [← hq, ← hwy] at hc
          rw [hc, c8, jit_eq]
          omega
        have hj1 : (jitM q.jitter (changeM q.way (wayM a p.time))).toNat < 68719476736 := by
          have hc := change_eq q.way.toNat ((a + 2 ^ 32 - p.time) % 2 ^ 32) (by omega) (by omega)
          have hq : q.way = ((q.way.toNat : Nat) : Int) := by omega
          rw [← hq, ← hwy] at hc
          rw [hc, c8, jit_eq, Int.toNat_natCast]
          generalize hda : (if ((a + 2 ^ 32 - p.time) % 2 ^ 32 + 2 ^ 32 - q.way.toNat) % 2 ^ 32 < 2 ^ 31 then ((a + 2 ^ 32 - p.time) % 2 ^ 32 + 2 ^ 32 - q.way.toNat) % 2 ^ 32 else 2 ^ 32 - ((a + 2 ^ 32 - p.time) % 2 ^ 32 + 2 ^ 32 - q.way.toNat) % 2 ^ 32) = da
          have hda2 : da ≤ 2147483648 := by
            rw [← hda]
            split <;> omega
          omega
        have hwy0 : 0 ≤ wayM a p.time := by unfold wayM; omega
        have hwy1 : wayM a p.time < 4294967296 := by unfold wayM; omega
        -- what is counted is kept
        have fin : ∀ (c' : Source) (z : Int), c'.id = c.id → c'.bad = c.bad → c'.way = c.way → c'.jitter = c.jitter → (∀ w j, w = some (wayM a p.time).toNat → j = (jitM q.jitter (changeM q.way (wayM a p.time))).toNat → RelC (k + 1) (q.add z (wayM a p.time)) { c' with way := w, jitter := j }) → c'.report = c.report → c'.bye = c.bye →
            let u : St := { s with source := some (jitter c' p.time a) }
            let y : St × Int := if z < (s.next : Int) ∨ (s.waiting.any fun k => (k.number : Int) == z) = true ∨ ROOM ≤ s.waiting.length ∨ LOAD < p.load.length then (u, 0) else ({ u with waiting := Ql48.insert ⟨z.toNat, p⟩ s.waiting }, 1)
            (Rc.keep { m with counting := some (q.add z (wayM a p.time)) } x z p).2 = y.2 ∧ Rel (k + 1) (Rc.keep { m with counting := some (q.add z (wayM a p.time)) } x z p).1 y.1 := by
          intro c' z e1 e2 e3 e4 hC' e5 e6
          have hH2 : ∀ w j, RelH m.hearing { c' with way := w, jitter := j } := fun w j => ⟨by show (c'.report = none ∧ _) ∨ _; rw [e5]; exact hh.rep, by show _ = if c'.bye = true then _ else _; rw [e6]; exact hh.bye⟩
          have hk := keep_rel (m := { m with counting := some (q.add z (wayM a p.time)) }) hW z p
          have hr := (try_rel hW z p).2
          have hC2 := hC' _ _ rfl rfl
          dsimp only
          rw [hj c' e3 e4]
          split
          · rename_i hcond
            rw [if_pos hcond] at hk hr
            exact ⟨hk, ho, hde, d1, d2, .sure (c := { c' with way := some (wayM a p.time).toNat, jitter := (jitM q.jitter (changeM q.way (wayM a p.time))).toNat }) (by show m.source = some (c'.id : Int); rw [e1]; exact h1) (by show m.awaited = c'.bad.map _; rw [e2]; exact h2) rfl rfl rfl hC2 hr (hH2 _ _)⟩
          · rename_i hcond
            rw [if_neg hcond] at hk hr
            exact ⟨hk, ho, hde, d1, d2, .sure (c := { c' with way := some (wayM a p.time).toNat, jitter := (jitM q.jitter (changeM q.way (wayM a p.time))).toNat }) (by show m.source = some (c'.id : Int); rw [e1]; exact h1) (by show m.awaited = c'.bad.map _; rw [e2]; exact h2) rfl rfl rfl hC2 hr (hH2 _ _)⟩
        by_cases hlow : d < 3000
        · rw [if_pos (by omega)]
          have et : Ql48.take c p.seq = ({ c with most := p.seq, cycles := (if p.seq < c.most then c.cycles + 65536 else c.cycles), came := c.came + 1 }, .other (((if p.seq < c.most then c.cycles + 65536 else c.cycles) + p.seq : Nat) : Int)) := by
            unfold Ql48.take W DROP
            rw [if_neg (by omega)]
            simp only [hd]
            rw [if_pos hlow]
          have ez : q.greatest + (d : Int) = (((if p.seq < c.most then c.cycles + 65536 else c.cycles) + p.seq : Nat) : Int) := by
            rw [c3]
            split <;> omega
          rw [et]
          simp only []
          rw [ez]
          refine fin _ _ rfl rfl rfl rfl (fun w j e1 e2 => ?_) rfl rfl
          subst e1 e2
          have eg : maxM q.greatest (((if p.seq < c.most then c.cycles + 65536 else c.cycles) + p.seq : Nat) : Int) = (((if p.seq < c.most then c.cycles + 65536 else c.cycles) + p.seq : Nat) : Int) := by
            unfold maxM
            rw [← ez]
            split <;> omega
          refine ⟨c1, c2, eg, hs1, ?_, ?_, ?_, ?_, rfl, hwy0, hwy1, c12, ?_, c14, hj1, ?_⟩
          · show (if p.seq < c.most then c.cycles + 65536 else c.cycles) % 65536 = 0
            split <;> omega
          · show c.base ≤ (if p.seq < c.most then c.cycles + 65536 else c.cycles) + p.seq
            split <;> omega
          · show q.came + 1 = ((c.came + 1 : Nat) : Int)
            omega
          · show jitM _ _ = (((jitM q.jitter (changeM q.way (wayM a p.time))).toNat : Nat) : Int)
            omega
          · show c.expectedBefore ≤ (if p.seq < c.most then c.cycles + 65536 else c.cycles) + p.seq + 1 - c.base
            split <;> omega
          · show (if p.seq < c.most then c.cycles + 65536 else c.cycles) + p.seq ≤ c.base + 3000 * (k + 1)
            split <;> omega
        · rw [if_neg (by omega)]
          by_cases hold : d ≤ 65436
          · rw [if_neg (by omega)]
            have et : Ql48.take c p.seq = if c.bad = some p.seq then ({ c.begin_ p.seq with came := 1 }, .first) else ({ c with bad := some ((p.seq + 1) % 65536) }, .not) := by
              unfold Ql48.take W DROP MISS
              rw [if_neg (by omega)]
              simp only [hd]
              rw [if_neg hlow, if_pos (by omega)]
            rw [et]
            by_cases hbad : c.bad = some p.seq
            · rw [if_pos hbad]
              have eb : ({ c.begin_ p.seq with came := 1 } : Source) = { c.begin_ p.seq with wanted := 0, came := 1 } := by
                unfold Source.begin_
                rw [← c1]
              rw [eb]
              exact doubt_first p hp a ho hde d1 d2 h1 _ rfl (by rw [h2, hbad]; rfl) hh
            · rw [if_neg hbad]
              have hne : ¬ m.awaited = some (p.seq : Int) := by
                rw [h2]
                cases hb2 : c.bad with
                | none => simp
                | some n =>
                  intro e
                  have : (n : Int) = p.seq := Option.some.inj e
                  exact hbad (by rw [hb2]; congr 1; omega)
              simp only [Rc.doubt]
              rw [if_neg hne]
              refine ⟨rfl, ho, hde, d1, d2, .sure (c := { c with bad := some ((p.seq + 1) % 65536) }) h1 ?_ h3 h4 rfl ?_ hW ⟨hh.rep, hh.bye⟩⟩
              · show some (((p.seq : Int) + 1) % 65536) = some (((p.seq + 1) % 65536 : Nat) : Int)
                congr 1
              · exact ⟨c1, c2, c3, c4, c5, c6, c7, c8, c9, c10, c11, c12, c13, c14, c15, by show c.cycles + c.most ≤ c.base + 3000 * (k + 1); omega⟩
          · rw [if_pos (by omega)]
            have et : Ql48.take c p.seq = ({ c with came := c.came + 1 }, .other (((c.cycles + c.most : Nat) : Int) - ((65536 - d : Nat) : Int))) := by
              unfold Ql48.take W DROP MISS
              rw [if_neg (by omega)]
              simp only [hd]
              rw [if_neg hlow, if_neg (by omega)]
            have ez : q.greatest + (d : Int) - 65536 = ((c.cycles + c.most : Nat) : Int) - ((65536 - d : Nat) : Int) := by rw [c3]; omega
            rw [et]
            simp only []
            rw [ez]
            refine fin _ _ rfl rfl rfl rfl (fun w j e1 e2 => ?_) rfl rfl
            subst e1 e2
            have eg : maxM q.greatest (((c.cycles + c.most : Nat) : Int) - ((65536 - d : Nat) : Int)) = ((c.cycles + c.most : Nat) : Int) := by
              unfold maxM
              rw [c3]
              split <;> omega
            refine ⟨c1, c2, eg, c4, c5, c6, ?_, ?_, rfl, hwy0, hwy1, c12, c13, c14, hj1, ?_⟩
            · show q.came + 1 = ((c.came + 1 : Nat) : Int)
              omega
            · show jitM _ _ = (((jitM q.jitter (changeM q.way (wayM a p.time))).toNat : Nat) : Int)
              omega
            · show c.cycles + c.most ≤ c.base + 3000 * (k + 1)
              omega
      · rw [if_neg (by omega), if_pos (by simpa using hid)]
        exact ⟨rfl, ho, hde, d1, d2, .sure h1 h2 h3 h4 h5 hC.mono hW hh⟩
end LP
namespace LP
open Ql48
/-! ### the next one taken -/
def mk1 (b : Bool) : Int := if b = true then 1 else 0
def tell (z : Int) (p : Packet) : List Int := (p.load.length : Int) :: (p.load.map (fun (n : Nat) => (n : Int)) ++ [z % 4294967296, (p.time : Int), (p.kind : Int), mk1 p.mark])
def Wt.at_ (x : Wt) (z : Int) : Option Packet := (x.kept.find? fun k => decide (k.1 = z)).map (·.2)
def Wt.without (x : Wt) (z : Int) : List (Int × Packet) := x.kept.filter fun k => decide (k.1 ≠ z)
def Rc.take (m : Rc) (most : Int) : Rc × List Int :=
  if most < 1472 then (m, [-3])
  else match m.waiting with
    | none => (m, [-1])
    | some x => match x.at_ x.due with
      | some p => ({ m with waiting := some ⟨x.due + 1, x.without x.due⟩ }, tell x.due p)
      | none => if m.depth ≤ (x.kept.length : Int) then ({ m with waiting := some ⟨x.due + 1, x.kept⟩ }, [-2]) else (m, [-1])

/-- an answer as the interface tells it -/
def ansOf (a : Ans) : List Int := a.value :: Ql48Neutral.ints (a.out ++ a.told)

def headP (x : Wt) (next : Nat) : List Kept → Prop
  | [] => x.at_ x.due = none
  | k :: t => if k.number = next then x.at_ x.due = some k.packet ∧ RelW ⟨x.due + 1, x.without x.due⟩ (next + 1) t else x.at_ x.due = none ∧ RelW ⟨x.due + 1, x.kept⟩ (next + 1) (k :: t)
theorem at_perm {x : Wt} {next : Nat} {l : List Kept} (r : RelW x next l) : headP x next l := by
  have hmem : ∀ k : Int × Packet, k ∈ x.kept → keptOf k ∈ l := fun k hk => r.perm.mem_iff.mp (List.mem_map.mpr ⟨k, hk, rfl⟩)
  have hback : ∀ k : Kept, k ∈ l → ∃ q ∈ x.kept, keptOf q = k := fun k hk => by
    have := r.perm.mem_iff.mpr hk
    obtain ⟨q, h1, h2⟩ := List.mem_map.mp this
    exact ⟨q, h1, h2⟩
  have hnone : (∀ k ∈ l, k.number ≠ next) → x.at_ x.due = none := fun h => by
    unfold Wt.at_
    rw [List.find?_eq_none.mpr]
    · rfl
    · intro k hk
      have h1 := h _ (hmem k hk)
      have h2 := r.nn k hk
      have h3 : (keptOf k).number = k.1.toNat := rfl
      simp only [decide_eq_true_eq]
      rw [r.due]
      omega
  cases l with
  | nil => exact hnone (by simp)
  | cons k t =>
    obtain ⟨s1, s2⟩ := List.pairwise_cons.mp r.sorted
    show if k.number = next then _ else _
    split
    · rename_i hk
      -- it waits
      have huni : ∀ q ∈ x.kept, q.1 = x.due → keptOf q = k := fun q hq e => by
        rcases List.mem_cons.mp (hmem q hq) with h | h
        · exact h
        · have h1 := s1 _ h
          have h3 : (keptOf q).number = q.1.toNat := rfl
          have h4 := r.due
          omega
      obtain ⟨q, hq, eq⟩ := hback k (by simp)
      have eq1 : q.1 = x.due := by
        have h2 := r.nn q hq
        have h3 : (keptOf q).number = q.1.toNat := rfl
        rw [eq] at h3
        rw [r.due]
        omega
      have hfind : ∃ q', x.kept.find? (fun k => decide (k.1 = x.due)) = some q' := by
        cases e : x.kept.find? (fun k => decide (k.1 = x.due)) with
        | some q' => exact ⟨q', rfl⟩
        | none =>
          have := List.find?_eq_none.mp e q hq
          simp [eq1] at this
      obtain ⟨q', hq'⟩ := hfind
      have m1 := List.mem_of_find?_eq_some hq'
      have m2 := List.find?_some hq'
      have e2 := huni q' m1 (by simpa using m2)
      refine ⟨?_, ?_⟩
      · unfold Wt.at_
        rw [hq', ← e2]
        rfl
      · refine ⟨by show x.due + 1 = _; rw [r.due]; omega, ?_, ?_, s2, ?_, ?_, ?_⟩
        · -- the rest
          have hp : ((x.without x.due).map keptOf).Perm ((k :: t).filter fun y => decide (y.number ≠ next)) := by
            have hf : (x.without x.due).map keptOf = (x.kept.map keptOf).filter fun y => decide (y.number ≠ next) := by
              unfold Wt.without
              rw [List.filter_map]
              congr 1
              refine List.filter_congr fun y hy => ?_
              have h2 := r.nn y hy
              have h3 : (keptOf y).number = y.1.toNat := rfl
              have h4 := r.due
              simp only [Function.comp, decide_eq_decide]
              rw [h3]
              omega
            rw [hf]
            exact r.perm.filter _
          refine hp.trans ?_
          rw [List.filter_cons, if_neg (by simp [hk]), List.filter_eq_self.mpr]
          intro y hy
          have := s1 y hy
          simp only [decide_eq_true_eq]
          omega
        · intro y hy
          exact r.nn y (List.mem_filter.mp hy).1
        · intro y hy
          have := s1 y hy
          omega
        · have := r.len
          simp at this
          omega
        · intro y hy
          exact r.loads y (by simp [hy])
    · rename_i hk
      have h0 := r.low k (by simp)
      have hall : ∀ y ∈ k :: t, next + 1 ≤ y.number := fun y hy => by
        rcases List.mem_cons.mp hy with rfl | hy
        · omega
        · have := s1 y hy
          omega
      refine ⟨hnone fun y hy => by have := hall y hy; omega, ?_⟩
      exact ⟨by show x.due + 1 = _; rw [r.due]; omega, r.perm, r.nn, r.sorted, hall, r.len, r.loads⟩

theorem take_rel {k : Nat} {m : Rc} {s : St} (h : Rel k m s) (most : Nat) : (m.take most).2 = ansOf (Ql48.spec s (.take most)).2 ∧ Rel (k + 1) (m.take most).1 (Ql48.spec s (.take most)).1 := by
  have hmono := h.mono
  obtain ⟨ho, hde, d1, d2, hR⟩ := h
  unfold Rc.take Ql48.spec LOAD
  dsimp only
  by_cases hm : most < 1472
  · rw [if_pos (by omega), if_pos hm]
    exact ⟨rfl, hmono⟩
  · rw [if_neg (by omega), if_neg hm]
    have wt : ∀ (_ : m.waiting = none) (_ : s.waiting = []), (match m.waiting with | none => (m, [(-1 : Int)]) | some x => match x.at_ x.due with
        | some p => ({ m with waiting := some ⟨x.due + 1, x.without x.due⟩ }, tell x.due p)
        | none => if m.depth ≤ (x.kept.length : Int) then ({ m with waiting := some ⟨x.due + 1, x.kept⟩ }, [-2]) else (m, [-1])) = (m, [-1]) ∧ taken s = (s, .notYet) := fun e1 e2 => by
      rw [e1]
      refine ⟨rfl, ?_⟩
      unfold taken
      rw [e2]
    cases hR with
    | none h1 h2 h3 h4 h5 h6 hh =>
      obtain ⟨w1, w2⟩ := wt h4 h6
      rw [w1, w2]
      exact ⟨rfl, hmono⟩
    | @doubt c h1 h2 h3 h4 h5 h6 h7 hh =>
      obtain ⟨w1, w2⟩ := wt h4 h7
      rw [w1, w2]
      exact ⟨rfl, hmono⟩
    | @sure c q x h1 h2 h3 h4 h5 hC hW hh =>
      have hp := at_perm hW
      have hl : x.kept.length = s.waiting.length := by have := hW.perm.length_eq; simpa using this
      simp only [h4]
      unfold taken
      cases hw : s.waiting with
      | nil =>
        rw [hw] at hp hl
        unfold headP at hp
        dsimp only at hp ⊢
        rw [hp]
        simp only []
        rw [if_neg (by rw [hl, hde]; simp; omega)]
        exact ⟨rfl, hmono⟩
      | cons k t =>
        rw [hw] at hp hl
        unfold headP at hp
        dsimp only at hp ⊢
        by_cases hk : k.number = s.next
        · rw [if_pos hk] at hp
          obtain ⟨e1, e2⟩ := hp
          simp only [e1]
          rw [if_pos hk]
          simp only []
          refine ⟨?_, ho, hde, d1, d2, .sure (c := c) h1 h2 h3 rfl h5 hC.mono ?_ hh⟩
          · unfold tell ansOf Ql48Neutral.ints mk1
            rw [hW.due, hk]
            simp
            split <;> rfl
          · exact e2
        · rw [if_neg hk] at hp
          obtain ⟨e1, e2⟩ := hp
          simp only [e1]
          rw [if_neg hk]
          by_cases hd : s.depth ≤ (k :: t).length
          · rw [if_pos (by rw [hl, hde]; omega), if_pos hd]
            exact ⟨rfl, ho, hde, d1, d2, .sure (c := c) h1 h2 h3 rfl h5 hC.mono e2 hh⟩
          · rw [if_neg (by rw [hl, hde]; omega), if_neg hd]
            exact ⟨rfl, hmono⟩
end LP
namespace LP
open Ql48

theorem calls_step {f : Nat} {p : Int} {r : List Int} {cs : List (List (List Int))} (h : PyFlat.calls PyQl48.shape f (p :: r) = some cs) :
    ∃ f' c t cs', PyFlat.call PyQl48.shape (p :: r) = some (c, t) ∧ PyFlat.calls PyQl48.shape f' t = some cs' ∧ cs = c :: cs' := by
  cases f with
  | zero => simp [PyFlat.calls] at h
  | succ f =>
    unfold PyFlat.calls at h
    cases e : PyFlat.call PyQl48.shape (p :: r) with
    | none => rw [e] at h; cases h
    | some ct =>
      obtain ⟨c, t⟩ := ct
      rw [e] at h
      dsimp only at h
      cases e2 : PyFlat.calls PyQl48.shape f t with
      | none => rw [e2] at h; cases h
      | some cs' =>
        rw [e2] at h
        exact ⟨f, c, t, cs', rfl, e2, (Option.some.inj h).symm⟩

/-- what a call is, by its number -/
inductive CallIs : Int → List Int → List (List Int) → List Int → Prop
  | begin_ (x y : Int) (r : List Int) : CallIs 0 (x :: y :: r) [[0, x, y]] r
  | receive (x n : Int) (r : List Int) : 0 ≤ n → n.toNat ≤ r.length → CallIs 1 (x :: n :: r) [[1, x], r.take n.toNat] (r.drop n.toNat)
  | take (x : Int) (r : List Int) : CallIs 2 (x :: r) [[2, x]] r
  | report (x : Int) (r : List Int) : CallIs 3 (x :: r) [[3, x]] r
  | heard (x n : Int) (r : List Int) : 0 ≤ n → n.toNat ≤ r.length → CallIs 4 (x :: n :: r) [[4, x], r.take n.toNat] (r.drop n.toNat)
  | told (r : List Int) : CallIs 5 r [[5]] r

theorem call_is {p : Int} {r : List Int} {c : List (List Int)} {t : List Int} (h : PyFlat.call PyQl48.shape (p :: r) = some (c, t)) : CallIs p r c t := by
  unfold PyFlat.call PyQl48.shape at h
  dsimp only at h
  have hrow : ∀ {k : Int} {x : Int} {r : List Int}, (match PyFlat.rows 1 ((x :: r).drop 1) with | none => none | some (xs, t) => some ((k :: (x :: r).take 1) :: xs, t)) = some (c, t) →
      ∃ n r', r = n :: r' ∧ 0 ≤ n ∧ n.toNat ≤ r'.length ∧ c = [[k, x], r'.take n.toNat] ∧ t = r'.drop n.toNat := by
    intro k x r h
    cases r with
    | nil => simp [PyFlat.rows, PyFlat.row] at h
    | cons n r' =>
      simp only [List.drop_succ_cons, List.drop_zero, PyFlat.rows, PyFlat.row] at h
      by_cases hn : 0 ≤ n ∧ n.toNat ≤ r'.length
      · rw [if_pos hn] at h
        simp at h
        exact ⟨n, r', rfl, hn.1, hn.2, h.1.symm, h.2.symm⟩
      · rw [if_neg hn] at h
        cases h
  by_cases h0 : p = 0
  · subst h0
    simp only [if_true] at h
    match r, h with
    | [], h => simp at h
    | [_], h => simp at h
    | x :: y :: r', h =>
      simp [PyFlat.rows] at h
      obtain ⟨h1, h2⟩ := h
      subst h1 h2
      exact .begin_ x y r'
  · rw [if_neg h0] at h
    by_cases h1 : p = 1
    · subst h1
      rw [if_pos rfl] at h
      match r, h with
      | [], h => simp at h
      | x :: r', h =>
        dsimp only at h
        rw [if_neg (by simp)] at h
        obtain ⟨n, r2, rfl, a, b, e1, e2⟩ := hrow h
        subst e1 e2
        exact .receive x n r2 a b
    · rw [if_neg h1] at h
      by_cases h2 : p = 2
      · subst h2
        rw [if_pos rfl] at h
        match r, h with
        | [], h => simp at h
        | x :: r', h =>
          simp [PyFlat.rows] at h
          obtain ⟨e1, e2⟩ := h
          subst e1 e2
          exact .take x r'
      · rw [if_neg h2] at h
        by_cases h3 : p = 3
        · subst h3
          rw [if_pos rfl] at h
          match r, h with
          | [], h => simp at h
          | x :: r', h =>
            simp [PyFlat.rows] at h
            obtain ⟨e1, e2⟩ := h
            subst e1 e2
            exact .report x r'
        · rw [if_neg h3] at h
          by_cases h4 : p = 4
          · subst h4
            rw [if_pos rfl] at h
            match r, h with
            | [], h => simp at h
            | x :: r', h =>
              dsimp only at h
              rw [if_neg (by simp)] at h
              obtain ⟨n, r2, rfl, a, b, e1, e2⟩ := hrow h
              subst e1 e2
              exact .heard x n r2 a b
          · rw [if_neg h4] at h
            by_cases h5 : p = 5
            · subst h5
              rw [if_pos rfl] at h
              simp [PyFlat.rows] at h
              obtain ⟨e1, e2⟩ := h
              subst e1 e2
              exact .told r
            · rw [if_neg h5] at h
              cases h

/-- what is left to be answered behind a place: the calls, what they are due, and how much room they take -/
structure Left (l : List Int) (place : Nat) (s : St) (acc : List Int) (k : Nat) : Prop where
  le : place ≤ l.length
  ex : ∃ (f : Nat) (cs : List (List (List Int))), PyFlat.calls PyQl48.shape f (l.drop place) = some cs ∧ (cs.map PyQl48.whole).all Ql48Neutral.may = true ∧
    acc ++ PyFlat.told (PyFlat.played Ql48Neutral.step s (cs.map PyQl48.whole)) = PyQl48.answers l ∧ acc.length + 1480 * cs.length ≤ 444000 ∧ k + cs.length ≤ 300

theorem left_start {l : List Int} (h : PyQl48.answers_asked l = true) : Left l 0 (empty 0 1) [] 0 ∧ ∃ o d r, l = 0 :: o :: d :: r ∧ 1 ≤ d ∧ d ≤ 32 := by
  unfold PyQl48.answers_asked at h
  cases e : PyQl48.calls l with
  | none => rw [e] at h; cases h
  | some cs2 =>
    rw [e] at h
    dsimp only at h
    obtain ⟨h1, h2⟩ := Bool.and_eq_true_iff.mp h
    unfold Ql48Neutral.asked at h2
    obtain ⟨h2, h3⟩ := Bool.and_eq_true_iff.mp h2
    have e' := e
    unfold PyQl48.calls at e
    cases e1 : PyFlat.calls PyQl48.shape l.length l with
    | none => rw [e1] at e; cases e
    | some cs =>
      rw [e1] at e
      have e2 : cs2 = cs.map PyQl48.whole := (Option.some.inj e).symm
      subst e2
      have hlen : cs.length ≤ 300 := by
        unfold PyFlat.atMost at h1
        simpa using h1
      refine ⟨⟨Nat.zero_le _, l.length, cs, by simpa using e1, h2, ?_, by simp; omega, by omega⟩, ?_⟩
      · unfold PyQl48.answers
        rw [e']
        rfl
      · cases l with
        | nil =>
          simp [PyFlat.calls] at e1
          subst e1
          simp at h3
        | cons p r =>
          obtain ⟨f', c, t, cs', q1, q2, q3⟩ := calls_step e1
          subst q3
          have ci := call_is q1
          simp only [List.map_cons, List.head?_cons, Option.map_some, Option.getD_some] at h3
          cases ci with
          | begin_ x y r =>
            simp only [PyQl48.whole, Ql48Neutral.begins, NeutralIO.within] at h3
            simp at h3
            exact ⟨x, y, t, rfl, h3.1, h3.2⟩
          | receive x n r a b => simp [PyQl48.whole, Ql48Neutral.begins] at h3
          | take x r => simp [PyQl48.whole, Ql48Neutral.begins] at h3
          | report x r => simp [PyQl48.whole, Ql48Neutral.begins] at h3
          | heard x n r a b => simp [PyQl48.whole, Ql48Neutral.begins] at h3
          | told => simp [PyQl48.whole, Ql48Neutral.begins] at h3

theorem left_end {l : List Int} {s : St} {acc : List Int} {k : Nat} (h : Left l l.length s acc k) : acc = PyQl48.answers l := by
  obtain ⟨_, f, cs, h1, h2, h3, h4, h5⟩ := h
  rw [List.drop_length] at h1
  have : cs = [] := by
    cases f <;> simp [PyFlat.calls] at h1 <;> exact h1
  subst this
  simpa [PyFlat.played, PyFlat.told] using h3

/-- the spec's answer to a call -/
def due (s : St) (q : Ql48.Call) : List Int := ansOf (Ql48.spec s q).2
/-- the turns: what stands at the place, and what is left behind it -/
inductive Turn_ (l : List Int) (place : Nat) (s : St) (acc : List Int) (k : Nat) : Prop
  | begin_ (o d : Nat) : l[place]? = some 0 → l[place + 1]? = some (o : Int) → l[place + 2]? = some (d : Int) → o ≤ 4294967295 → d ≤ 4294967295 →
      (∀ a, a = due s (.begin_ o d) → a.length ≤ 1477 → Left l (place + 3) (Ql48.spec s (.begin_ o d)).1 (acc ++ ((a.length : Int) :: a)) (k + 1)) → Turn_ l place s acc k
  | receive (x : Nat) (b : List Nat) : l[place]? = some 1 → l[place + 1]? = some (x : Int) → l[place + 2]? = some (b.length : Int) → (l.drop (place + 3)).take b.length = b.map (fun (n : Nat) => (n : Int)) → (∀ y ∈ b, y ≤ 255) → x ≤ 4294967295 → b.length ≤ 65535 →
      (∀ a, a = due s (.receive b b.length x) → a.length ≤ 1477 → Left l (place + 3 + b.length) (Ql48.spec s (.receive b b.length x)).1 (acc ++ ((a.length : Int) :: a)) (k + 1)) → Turn_ l place s acc k
  | take (x : Nat) : l[place]? = some 2 → l[place + 1]? = some (x : Int) → x ≤ 4294967295 →
      (∀ a, a = due s (.take x) → a.length ≤ 1477 → Left l (place + 2) (Ql48.spec s (.take x)).1 (acc ++ ((a.length : Int) :: a)) (k + 1)) → Turn_ l place s acc k
  | report (x : Nat) : l[place]? = some 3 → l[place + 1]? = some (x : Int) → x ≤ 4294967295 →
      (∀ a, a = due s (.report x) → a.length ≤ 1477 → Left l (place + 2) (Ql48.spec s (.report x)).1 (acc ++ ((a.length : Int) :: a)) (k + 1)) → Turn_ l place s acc k
  | heard (x : Nat) (b : List Nat) : l[place]? = some 4 → l[place + 1]? = some (x : Int) → l[place + 2]? = some (b.length : Int) → (l.drop (place + 3)).take b.length = b.map (fun (n : Nat) => (n : Int)) → (∀ y ∈ b, y ≤ 255) → x ≤ 4294967295 → b.length ≤ 65535 →
      (∀ a, a = due s (.heard b b.length x) → a.length ≤ 1477 → Left l (place + 3 + b.length) (Ql48.spec s (.heard b b.length x)).1 (acc ++ ((a.length : Int) :: a)) (k + 1)) → Turn_ l place s acc k
  | told : l[place]? = some 5 →
      (∀ a, a = due s .told → a.length ≤ 1477 → Left l (place + 1) (Ql48.spec s .told).1 (acc ++ ((a.length : Int) :: a)) (k + 1)) → Turn_ l place s acc k

theorem u32_nat {z : Int} (h : Ql48Neutral.u32 z = true) : ∃ n : Nat, z = (n : Int) ∧ n ≤ 4294967295 := by
  unfold Ql48Neutral.u32 NeutralIO.within at h
  simp at h
  exact ⟨z.toNat, by omega, by omega⟩
theorem bytes_nat : ∀ {l : List Int}, NeutralIO.bytes l = true → ∃ b : List Nat, l = b.map (fun (n : Nat) => (n : Int)) ∧ ∀ y ∈ b, y ≤ 255
  | [], _ => ⟨[], rfl, by simp⟩
  | x :: r, h => by
    unfold NeutralIO.bytes at h
    rw [List.all_cons] at h
    obtain ⟨h1, h2⟩ := Bool.and_eq_true_iff.mp h
    obtain ⟨b, e, hb⟩ := bytes_nat (l := r) h2
    simp at h1
    refine ⟨x.toNat :: b, ?_, ?_⟩
    · rw [List.map_cons, ← e]
      congr 1
      omega
    · intro y hy
      rcases List.mem_cons.mp hy with rfl | hy
      · omega
      · exact hb y hy

theorem left_turn {l : List Int} {place : Nat} {s : St} {acc : List Int} {k : Nat} (h : Left l place s acc k) (hp : place < l.length) : Turn_ l place s acc k := by
  obtain ⟨_, f, cs, h1, h2, h3, h4, h5⟩ := h
  have hd : l.drop place = l[place] :: l.drop (place + 1) := List.drop_eq_getElem_cons hp
  rw [hd] at h1
  obtain ⟨f', c, t, cs', q1, q2, q3⟩ := calls_step h1
  subst q3
  have ci := call_is q1
  have hg : l[place]? = some l[place] := List.getElem?_eq_getElem hp
  have at_ : ∀ i, (l.drop (place + 1))[i]? = l[place + 1 + i]? := fun i => by rw [List.getElem?_drop]
  generalize l[place] = p at *
  generalize hr : l.drop (place + 1) = r at *
  have hrl : r.length = l.length - (place + 1) := by rw [← hr, List.length_drop]
  simp only [List.map_cons, List.all_cons] at h2
  obtain ⟨h2a, h2b⟩ := Bool.and_eq_true_iff.mp h2
  -- what goes on behind
  have go : ∀ (j : Nat) (q : Ql48.Call), place + 1 + j ≤ l.length → t = r.drop j → Ql48Neutral.callOf (PyQl48.whole c) = some q →
      ∀ a, a = due s q → a.length ≤ 1477 → Left l (place + 1 + j) (Ql48.spec s q).1 (acc ++ ((a.length : Int) :: a)) (k + 1) := by
    intro j q hk ht hq a ha hal
    have hst : Ql48Neutral.step s (PyQl48.whole c) = ((Ql48.spec s q).1, due s q) := by
      unfold Ql48Neutral.step
      rw [hq]
      rfl
    refine ⟨hk, f', cs', ?_, h2b, ?_, ?_, ?_⟩
    · rw [← List.drop_drop, hr, ← ht]
      exact q2
    · rw [← h3]
      simp only [List.map_cons, PyFlat.played, hst, ← ha]
      unfold PyFlat.told
      rw [List.flatMap_cons, List.append_assoc]
    · simp only [List.length_append, List.length_cons] at h4 ⊢
      omega
    · simp only [List.length_cons] at h5
      omega
  cases ci with
  | begin_ x y r =>
    simp only [PyQl48.whole, Ql48Neutral.may] at h2a
    obtain ⟨u1, u2⟩ := Bool.and_eq_true_iff.mp h2a
    obtain ⟨o, rfl, ho⟩ := u32_nat u1
    obtain ⟨d, rfl, hd'⟩ := u32_nat u2
    refine .begin_ o d hg (at_ 0).symm (at_ 1).symm ho hd' ?_
    exact go 2 (.begin_ o d) (by simp at hrl; omega) rfl (by simp [PyQl48.whole, Ql48Neutral.callOf])
  | receive x n r a b =>
    simp only [PyQl48.whole, Ql48Neutral.may] at h2a
    obtain ⟨u1, u2⟩ := Bool.and_eq_true_iff.mp h2a
    obtain ⟨u2, u3⟩ := Bool.and_eq_true_iff.mp u2
    obtain ⟨o, rfl, ho⟩ := u32_nat u2
    unfold Ql48Neutral.bytes at u3
    obtain ⟨u3, u4⟩ := Bool.and_eq_true_iff.mp u3
    obtain ⟨bs, eb, hbs⟩ := bytes_nat u3
    have hbl : bs.length = n.toNat := by
      have := congrArg List.length eb
      simp at this
      omega
    have h65 : bs.length ≤ 65535 := by
      have hL : (r.take n.toNat).length = bs.length := by rw [eb, List.length_map]
      unfold Ql48Neutral.so NeutralIO.within at u4
      rw [hL] at u4
      simp only [beq_iff_eq] at u4
      split at u4
      · rename_i hw
        simp at hw
        omega
      · omega
    have hn : n = (bs.length : Int) := by omega
    refine .receive o bs hg (at_ 0).symm (by rw [← hn]; exact (at_ 1).symm) ?_ hbs ho h65 ?_
    · have e3 : l.drop (place + 3) = r := by
        have : l.drop (place + 3) = (l.drop (place + 1)).drop 2 := by rw [List.drop_drop]
        rw [this, hr]
        rfl
      rw [e3, hbl]
      exact eb
    · have := go (2 + n.toNat) (.receive bs bs.length o) (by simp at hrl; omega) (by rw [show 2 + n.toNat = n.toNat + 2 by omega]; rfl) (by
        simp only [PyQl48.whole, Ql48Neutral.callOf, eb, List.length_map, Ql48Neutral.nats, List.map_map, Int.toNat_natCast]
        congr 2
        exact (List.map_congr_left (fun y _ => by simp)).trans (List.map_id _))
      rw [show place + 3 + bs.length = place + 1 + (2 + n.toNat) by omega]
      exact this
  | take x r =>
    simp only [PyQl48.whole, Ql48Neutral.may] at h2a
    obtain ⟨o, rfl, ho⟩ := u32_nat h2a
    refine .take o hg (at_ 0).symm ho ?_
    exact go 1 (.take o) (by simp at hrl; omega) rfl (by simp [PyQl48.whole, Ql48Neutral.callOf])
  | report x r =>
    simp only [PyQl48.whole, Ql48Neutral.may] at h2a
    obtain ⟨o, rfl, ho⟩ := u32_nat h2a
    refine .report o hg (at_ 0).symm ho ?_
    exact go 1 (.report o) (by simp at hrl; omega) rfl (by simp [PyQl48.whole, Ql48Neutral.callOf])
  | heard x n r a b =>
    simp only [PyQl48.whole, Ql48Neutral.may] at h2a
    obtain ⟨u1, u2⟩ := Bool.and_eq_true_iff.mp h2a
    obtain ⟨u2, u3⟩ := Bool.and_eq_true_iff.mp u2
    obtain ⟨o, rfl, ho⟩ := u32_nat u2
    unfold Ql48Neutral.bytes at u3
    obtain ⟨u3, u4⟩ := Bool.and_eq_true_iff.mp u3
    obtain ⟨bs, eb, hbs⟩ := bytes_nat u3
    have hbl : bs.length = n.toNat := by
      have := congrArg List.length eb
      simp at this
      omega
    have h65 : bs.length ≤ 65535 := by
      have hL : (r.take n.toNat).length = bs.length := by rw [eb, List.length_map]
      unfold Ql48Neutral.so NeutralIO.within at u4
      rw [hL] at u4
      simp only [beq_iff_eq] at u4
      split at u4
      · rename_i hw
        simp at hw
        omega
      · omega
    have hn : n = (bs.length : Int) := by omega
    refine .heard o bs hg (at_ 0).symm (by rw [← hn]; exact (at_ 1).symm) ?_ hbs ho h65 ?_
    · have e3 : l.drop (place + 3) = r := by
        have : l.drop (place + 3) = (l.drop (place + 1)).drop 2 := by rw [List.drop_drop]
        rw [this, hr]
        rfl
      rw [e3, hbl]
      exact eb
    · have := go (2 + n.toNat) (.heard bs bs.length o) (by simp at hrl; omega) (by rw [show 2 + n.toNat = n.toNat + 2 by omega]; rfl) (by
        simp only [PyQl48.whole, Ql48Neutral.callOf, eb, List.length_map, Ql48Neutral.nats, List.map_map, Int.toNat_natCast]
        congr 2
        exact (List.map_congr_left (fun y _ => by simp)).trans (List.map_id _))
      rw [show place + 3 + bs.length = place + 1 + (2 + n.toNat) by omega]
      exact this
  | told r =>
    refine .told hg ?_
    exact go 0 .told (by omega) rfl (by simp [PyQl48.whole, Ql48Neutral.callOf])
end LP
namespace LP
open Ql48
/-! ### numbers written -/
def writeM (z : Int) : Nat → List Int
  | 0 => []
  | n + 1 => (z / 256 ^ n % 256) :: writeM z n
theorem writeM_length (z : Int) : ∀ n, (writeM z n).length = n
  | 0 => rfl
  | n + 1 => by rw [writeM, List.length_cons, writeM_length z n]
theorem be_succ (x n : Nat) : be (n + 1) x = (x / 256 ^ n % 256) :: be n x := by
  unfold be
  rw [List.range_succ_eq_map, List.map_cons, List.map_map]
  refine List.cons_eq_cons.mpr ⟨by simp, List.map_congr_left fun i _ => ?_⟩
  show x / 256 ^ (n + 1 - 1 - (i + 1)) % 256 = x / 256 ^ (n - 1 - i) % 256
  rw [show n + 1 - 1 - (i + 1) = n - 1 - i by omega]
theorem write_be (x : Nat) : ∀ n, writeM (x : Int) n = Ql48Neutral.ints (be n x)
  | 0 => rfl
  | n + 1 => by
    rw [writeM, be_succ, write_be x n]
    unfold Ql48Neutral.ints
    rw [List.map_cons]
    congr 1
theorem be_mod4 (x : Nat) : be 4 (x % 2 ^ 32) = be 4 x := by
  simp only [be_succ, show be 0 (x % 2 ^ 32) = be 0 x from rfl]
  congr 1
  · omega
  congr 1
  · omega
  congr 1
  · omega
  congr 1
  omega
theorem write_held (y : Int) (h1 : -8388608 ≤ y) (h2 : y ≤ 8388607) : writeM y 3 = Ql48Neutral.ints (be 3 (y % 16777216).toNat) := by
  rw [← write_be]
  simp only [writeM]
  congr 1
  · omega
  congr 1
  · omega
  congr 1
  omega

/-! ### our report -/
def minM (a b : Int) : Int := if b < a then b else a
def heldM (z : Int) : Int := maxM (-8388608) (minM 8388607 z)
def shareM (e c : Int) : Int := if e = 0 ∨ e ≤ c then 0 else minM 255 ((e - c) * 256 / e)
def Cnt.expected (c : Cnt) : Int := c.greatest - c.first + 1
def Cnt.missing (c : Cnt) : Int := heldM (c.expected - c.came)
def Cnt.share (c : Cnt) : Int := shareM (c.expected - c.te) (c.came - c.tc)
def Cnt.noted (c : Cnt) : Cnt := { c with te := c.expected, tc := c.came }
def Hr.since (h : Hr) (now : Int) : Int := match h.at_ with
  | none => 0
  | some a => (now - a) % 4294967296
def countsM (c : Cnt) : List Int := ((writeM c.share 1 ++ writeM c.missing 3) ++ writeM c.greatest 4) ++ writeM (c.jitter / 16) 4
def heardB (h : Hr) (now : Int) : List Int := writeM h.middle 4 ++ writeM (h.since now) 4
def blockM (src : Int) (c : Cnt) (h : Hr) (now : Int) : List Int := (writeM src 4 ++ countsM c) ++ heardB h now
def reportM (own : Int) (block : List Int) : List Int := ([64 * 2 + (if block = [] then 0 else 1), 201] ++ writeM (((writeM own 4 ++ block).length : Int) / 4) 2) ++ (writeM own 4 ++ block)
theorem blockM_length (src : Int) (c : Cnt) (h : Hr) (now : Int) : (blockM src c h now).length = 24 := by
  unfold blockM countsM heardB
  simp only [List.length_append, writeM_length]
def Rc.blk (m : Rc) (now : Int) : List Int := match m.counting with
  | none => []
  | some c => blockM (m.source.getD 0) c m.hearing now
def Rc.rep (m : Rc) : Rc := match m.counting with
  | none => m
  | some c => { m with counting := some c.noted }
def Rc.report (m : Rc) (now : Int) : Rc × List Int := (m.rep, ((reportM m.own (m.blk now)).length : Int) :: reportM m.own (m.blk now))
theorem blk_length (m : Rc) (now : Int) : (m.blk now).length ≤ 24 := by
  unfold Rc.blk
  cases m.counting with
  | none => exact Nat.zero_le _
  | some c => exact Nat.le_of_eq (blockM_length ..)

theorem ints_length (a : List Nat) : (Ql48Neutral.ints a).length = a.length := List.length_map _
theorem ints_append (a b : List Nat) : Ql48Neutral.ints (a ++ b) = Ql48Neutral.ints a ++ Ql48Neutral.ints b := List.map_append
theorem report_rel {k : Nat} {m : Rc} {s : St} (h : Rel k m s) (now : Nat) : (m.report now).2 = ansOf (Ql48.spec s (.report now)).2 ∧ Rel (k + 1) (m.report now).1 (Ql48.spec s (.report now)).1 := by
  have hmono := h.mono
  obtain ⟨ho, hde, d1, d2, hR⟩ := h
  have no : m.counting = none → (Ql48.report s now = (s, [0x80, 201] ++ (be 2 1 ++ be 4 s.own))) → (m.report now).2 = ansOf (Ql48.spec s (.report now)).2 ∧ Rel (k + 1) (m.report now).1 (Ql48.spec s (.report now)).1 := by
    intro hc hs
    have e1 : m.report now = (m, ((reportM m.own []).length : Int) :: reportM m.own []) := by
      unfold Rc.report Rc.rep Rc.blk
      rw [hc]
    have e2 : Ql48.spec s (.report now) = (s, ⟨(([0x80, 201] ++ (be 2 1 ++ be 4 s.own)).length : Nat), [0x80, 201] ++ (be 2 1 ++ be 4 s.own), []⟩) := by
      unfold Ql48.spec
      dsimp only
      rw [hs]
    rw [e1, e2]
    refine ⟨?_, hmono⟩
    have e3 : reportM m.own [] = Ql48Neutral.ints ([0x80, 201] ++ (be 2 1 ++ be 4 s.own)) := by
      unfold reportM
      rw [List.append_nil, writeM_length, ints_append, ints_append, ho, write_be, ← write_be 1 2]
      rw [List.append_assoc]
      rfl
    show _ = ansOf ⟨_, _, []⟩
    unfold ansOf
    rw [List.append_nil, e3, ints_length]
  cases hR with
  | none h1 h2 h3 h4 h5 h6 hh =>
    refine no h3 ?_
    unfold Ql48.report
    rw [h5]
  | @doubt c h1 h2 h3 h4 h5 h6 h7 hh =>
    refine no h3 ?_
    unfold Ql48.report
    rw [h5]
    dsimp only
    rw [if_pos (by omega)]
  | @sure c q x h1 h2 h3 h4 h5 hC hW hh =>
    clear no
    obtain ⟨c1, c2, c3, c4, c5, c6, c7, c8, c9, c10, c11, c12, c13, c14, c15, c16⟩ := id hC
    have eE : q.expected = ((c.cycles + c.most + 1 - c.base : Nat) : Int) := by
      unfold Cnt.expected
      omega
    have eM : q.missing = max (-8388608) (min 8388607 (Ql48.missing c)) := by
      unfold Cnt.missing heldM maxM minM Ql48.missing
      rw [eE, c7]
      split <;> split <;> omega
    have eS : q.share = (((if (c.cycles + c.most + 1 - c.base - c.expectedBefore = 0 ∨ (((c.cycles + c.most + 1 - c.base - c.expectedBefore : Nat) : Int) - ((c.came : Int) - (c.cameBefore : Int))) ≤ 0) then 0 else min 255 ((((c.cycles + c.most + 1 - c.base - c.expectedBefore : Nat) : Int) - ((c.came : Int) - (c.cameBefore : Int))).toNat * 256 / (c.cycles + c.most + 1 - c.base - c.expectedBefore)) : Nat)) : Int) := by
      unfold Cnt.share shareM
      rw [eE, c12, c7, c14]
      generalize hE : c.cycles + c.most + 1 - c.base = E at *
      have e0 : (E : Int) - (c.expectedBefore : Int) = ((E - c.expectedBefore : Nat) : Int) := by omega
      rw [e0]
      generalize hD : E - c.expectedBefore = D
      by_cases h : (D : Int) = 0 ∨ (D : Int) ≤ (c.came : Int) - (c.cameBefore : Int)
      · rw [if_pos h, if_pos (by omega)]
        rfl
      · rw [if_neg h, if_neg (by omega)]
        obtain ⟨x, hx⟩ : ∃ x : Nat, (D : Int) - ((c.came : Int) - (c.cameBefore : Int)) = (x : Int) := ⟨((D : Int) - ((c.came : Int) - (c.cameBefore : Int))).toNat, by omega⟩
        rw [hx, Int.toNat_natCast]
        unfold minM
        have e1 : (x : Int) * 256 / (D : Int) = ((x * 256 / D : Nat) : Int) := by rw [Int.natCast_ediv, Int.natCast_mul]; rfl
        rw [e1]
        generalize x * 256 / D = y
        split <;> omega
    have eSr : m.source.getD 0 = (c.id : Int) := by rw [h1]; rfl
    have eG : writeM q.greatest 4 = Ql48Neutral.ints (be 4 ((c.cycles + c.most) % 2 ^ 32)) := by rw [c3, write_be, be_mod4]
    have eJ : writeM (q.jitter / 16) 4 = Ql48Neutral.ints (be 4 (c.jitter / 16 % 2 ^ 32)) := by
      rw [c8, be_mod4, ← write_be]
      rfl
    have eX : heardB m.hearing now = Ql48Neutral.ints (be 4 (match c.report with | some (x, at_) => (x, (now + 2 ^ 32 - at_) % 2 ^ 32) | none => (0, 0)).1 ++ be 4 (match c.report with | some (x, at_) => (x, (now + 2 ^ 32 - at_) % 2 ^ 32) | none => (0, 0)).2) := by
      unfold heardB Hr.since
      rw [ints_append]
      rcases hh.rep with ⟨r1, r2, r3⟩ | ⟨x, a, r1, r2, r3, r4⟩
      · rw [r1, r2, r3]
        rfl
      · rw [r1, r2, r3]
        dsimp only
        have e : ((now : Int) - (a : Int)) % 4294967296 = (((now + 2 ^ 32 - a) % 2 ^ 32 : Nat) : Int) := by omega
        rw [e, write_be, write_be]
    have eH : writeM q.missing 3 = Ql48Neutral.ints (be 3 (held24 (Ql48.missing c))) := by
      rw [eM]
      exact write_held _ (by omega) (by omega)
    have e1 : m.report now = ({ m with counting := some q.noted }, ((reportM m.own (blockM (c.id : Int) q m.hearing now)).length : Int) :: reportM m.own (blockM (c.id : Int) q m.hearing now)) := by
      unfold Rc.report Rc.rep Rc.blk
      rw [h3]
      dsimp only
      rw [eSr]
    have hs : (Ql48.report s now).1 = { s with source := some { c with expectedBefore := c.cycles + c.most + 1 - c.base, cameBefore := c.came } } := by
      unfold Ql48.report
      rw [h5]
      dsimp only
      rw [if_neg (by omega)]
    have e2 : Ql48.spec s (.report now) = ((Ql48.report s now).1, ⟨((Ql48.report s now).2.length : Nat), (Ql48.report s now).2, []⟩) := rfl
    rw [e1, e2]
    constructor
    · unfold ansOf
      dsimp only
      rw [List.append_nil]
      have e3 : reportM m.own (blockM (c.id : Int) q m.hearing now) = Ql48Neutral.ints (Ql48.report s now).2 := by
        unfold Ql48.report
        rw [h5]
        dsimp only
        rw [if_neg (by omega)]
        dsimp only
        unfold reportM
        have hb : ¬ blockM (c.id : Int) q m.hearing now = [] := fun z => by
          have := blockM_length (c.id : Int) q m.hearing now
          rw [z] at this
          cases this
        rw [if_neg hb, List.length_append, blockM_length, writeM_length]
        unfold blockM countsM
        rw [eX, eH, eJ, eG, eS, ho, write_be, write_be, write_be]
        generalize hsh : (if (c.cycles + c.most + 1 - c.base - c.expectedBefore = 0 ∨ (((c.cycles + c.most + 1 - c.base - c.expectedBefore : Nat) : Int) - ((c.came : Int) - (c.cameBefore : Int))) ≤ 0) then 0 else min 255 ((((c.cycles + c.most + 1 - c.base - c.expectedBefore : Nat) : Int) - ((c.came : Int) - (c.cameBefore : Int))).toNat * 256 / (c.cycles + c.most + 1 - c.base - c.expectedBefore))) = sh
        have hsh1 : sh ≤ 255 := by
          rw [← hsh]
          split <;> omega
        have eb1 : be 1 sh = [sh] := by
          rw [be_succ]
          show [sh / 256 ^ 0 % 256] = [sh]
          congr 1
          omega
        rw [eb1]
        have ew : writeM (((4 + 24 : Nat) : Int) / 4) 2 = Ql48Neutral.ints (be 2 7) := by decide +kernel
        rw [ew]
        simp only [ints_append]
        simp only [List.append_assoc]
        show _ = Ql48Neutral.ints _ ++ (Ql48Neutral.ints _ ++ (Ql48Neutral.ints _ ++ (Ql48Neutral.ints _ ++ Ql48Neutral.ints ([sh] ++ _))))
        simp only [ints_append]
        rfl
      rw [e3, ints_length]
    · rw [hs]
      refine ⟨ho, hde, d1, d2, .sure (c := { c with expectedBefore := c.cycles + c.most + 1 - c.base, cameBefore := c.came }) h1 h2 rfl h4 rfl ?_ hW ⟨hh.rep, hh.bye⟩⟩
      exact ⟨c1, c2, c3, c4, c5, c6, c7, c8, c9, c10, c11, eE, Nat.le_refl _, c7, c15, by show c.cycles + c.most ≤ c.base + 3000 * (k + 1); omega⟩

/-! ### told -/
def Rc.counts (m : Rc) : List Int := match m.counting, m.waiting with
  | some c, some x => [c.greatest % 4294967296, c.came % 4294967296, c.missing % 16777216, c.jitter / 16, (x.kept.length : Int)]
  | _, _ => [0, 0, 0, 0, 0]
def Rc.tell (m : Rc) : List Int := match m.source with
  | none => [-1]
  | some src => m.hearing.bye :: src :: m.counts
theorem tell_rel {k : Nat} {m : Rc} {s : St} (h : Rel k m s) : m.tell = ansOf (Ql48.spec s .told).2 ∧ (Ql48.spec s .told).1 = s := by
  obtain ⟨ho, hde, d1, d2, hR⟩ := h
  unfold Rc.tell Ql48.spec
  dsimp only
  cases hR with
  | none h1 h2 h3 h4 h5 h6 hh =>
    rw [h1, h5]
    exact ⟨rfl, rfl⟩
  | @doubt c h1 h2 h3 h4 h5 h6 h7 hh =>
    rw [h1, h5]
    dsimp only
    refine ⟨?_, rfl⟩
    rw [if_pos (show 0 < c.wanted by omega), hh.bye, h7]
    unfold Rc.counts
    rw [h3]
    rfl
  | @sure c q x h1 h2 h3 h4 h5 hC hW hh =>
    obtain ⟨c1, c2, c3, c4, c5, c6, c7, c8, c9, c10, c11, c12, c13, c14, c15, c16⟩ := id hC
    rw [h1, h5]
    dsimp only
    refine ⟨?_, rfl⟩
    have hl : x.kept.length = s.waiting.length := by have := hW.perm.length_eq; simpa using this
    rw [if_neg (show ¬ 0 < c.wanted by omega), hh.bye]
    unfold Rc.counts
    rw [h3, h4]
    have eM : q.missing % 16777216 = ((held24 (Ql48.missing c) : Nat) : Int) := by
      unfold held24 Cnt.missing heldM maxM minM Ql48.missing Cnt.expected
      rw [c2, c3, c7]
      dsimp only
      split <;> split <;> omega
    dsimp only
    rw [eM, c3, c7, c8, hl]
    unfold ansOf Ql48Neutral.ints
    simp only [List.nil_append, List.map_cons, List.map_nil]
    congr 4
    congr 2
    omega
end LP
namespace LP
open Ql48
/-! ### parts -/
def pk (o : List Nat) : Nat := o.getD 1 0
def pc (o : List Nat) : Nat := hd o % 32
def pd (o : List Nat) : Bool := !(decide (hd o / 32 % 2 = 0))
def least : Nat → Option (Nat × Nat)
  | 200 => some (28, 24)
  | 201 => some (8, 24)
  | 202 => some (8, 0)
  | 203 => some (4, 4)
  | 204 => some (8, 0)
  | _ => none
def padFits (o : List Nat) : Bool := if hd o / 32 % 2 = 0 then true else decide (padLen o ≠ 0 ∧ padLen o % 4 = 0 ∧ padLen o + 8 ≤ o.length)
def longEnough (o : List Nat) : Bool := match least (pk o) with
  | none => false
  | some x => decide (x.1 + x.2 * pc o + padLen o ≤ o.length)
def rightM (o : List Nat) : Bool := if hd o / 64 ≠ 2 ∨ least (pk o) = none then false else (padFits o && longEnough o)
def cutM (r : List Nat) : Option (List Nat) :=
  if r.length < 8 then none
  else if 4 + 4 * field r 2 2 < 8 ∨ r.length < 4 + 4 * field r 2 2 then none
  else some (r.take (4 + 4 * field r 2 2))
def loopM : Nat → List Nat → Option (List (List Nat))
  | 0, _ => none
  | k + 1, r => if r = [] then some [] else match cutM r with
    | none => none
    | some o => if rightM o = true then (loopM k (r.drop o.length)).map (o :: ·) else none
def beginsM : List (List Nat) → Bool
  | [] => false
  | o :: _ => decide (pk o = 200 ∨ pk o = 201)
def paddedM (ps : List (List Nat)) : Bool := !((ps.take 1 ++ ps.dropLast).any pd)
def partsM (b : List Nat) : Option (List (List Nat)) :=
  if 65535 < b.length then none else match loopM (b.length + 1) b with
    | none => none
    | some ps => if beginsM ps = true ∧ paddedM ps = true then some ps else none
/-- as the specification has a part -/
def conv (o : List Nat) : Nat × Nat × B := (pk o, pc o, o.take (o.length - padLen o))
def okTail : List (List Nat) → Bool
  | [] => true
  | [_] => true
  | o :: p :: r => !(pd o) && okTail (p :: r)
def tailM (k : Nat) (b : List Nat) : Option (List (List Nat)) := match loopM k b with
  | none => none
  | some ps => if okTail ps = true then some ps else none
def specT (first : Bool) (k : Nat) (b : List Nat) : Option (List (Nat × Nat × B)) := match Ql48.parts k first b with
  | none => none
  | some l => if l.all fits = true then some l else none
theorem okTail_cons (o : List Nat) (r : List (List Nat)) : okTail (o :: r) = ((decide (r = []) || !(pd o)) && okTail r) := by
  cases r with
  | nil => rfl
  | cons p q => simp [okTail]

theorem getD_take {b : List Nat} {n i : Nat} (h : i < n) : (b.take n).getD i 0 = b.getD i 0 := by
  rw [List.getD_eq_getElem?_getD, List.getD_eq_getElem?_getD, List.getElem?_take, if_pos h]
theorem fits_iff {o : List Nat} (h8 : 8 ≤ o.length) : (least (pk o) ≠ none ∧ padFits o = true ∧ longEnough o = true) ↔ (200 ≤ pk o ∧ pk o ≤ 204 ∧ (pd o = true → padLen o ≠ 0 ∧ padLen o % 4 = 0 ∧ padLen o + 8 ≤ o.length) ∧ fits (conv o) = true) := by
  have hp : pd o = false → padLen o = 0 := fun h => by
    unfold pd at h
    unfold padLen
    rw [if_pos (by simpa using h)]
  have hpf : padFits o = true ↔ (pd o = true → padLen o ≠ 0 ∧ padLen o % 4 = 0 ∧ padLen o + 8 ≤ o.length) := by
    unfold padFits pd
    by_cases h : hd o / 32 % 2 = 0
    · simp [h]
    · rw [if_neg h]
      simp [h]
  rw [hpf]
  have key : (pd o = true → padLen o ≠ 0 ∧ padLen o % 4 = 0 ∧ padLen o + 8 ≤ o.length) → padLen o + 8 ≤ o.length := fun h => by
    cases e : pd o with
    | false => rw [hp e]; omega
    | true => exact (h e).2.2
  have body : (conv o).2.2.length = o.length - padLen o := by
    show (o.take (o.length - padLen o)).length = _
    rw [List.length_take]
    omega
  unfold longEnough fits
  rw [body, show (conv o).1 = pk o from rfl, show (conv o).2.1 = pc o from rfl]
  generalize pk o = kd
  generalize pc o = ct
  generalize (pd o = true → padLen o ≠ 0 ∧ padLen o % 4 = 0 ∧ padLen o + 8 ≤ o.length) = A at *
  by_cases h0 : kd = 200
  · subst h0
    simp only [least, if_true]
    constructor
    · rintro ⟨a, b, c⟩
      exact ⟨by omega, by omega, b, by simp at c ⊢; omega⟩
    · rintro ⟨a, b, c, d⟩
      have := key c
      exact ⟨by simp, c, by simp at d ⊢; omega⟩
  by_cases h1 : kd = 201
  · subst h1
    simp only [least]
    constructor
    · rintro ⟨a, b, c⟩
      exact ⟨by omega, by omega, b, by simp at c ⊢; omega⟩
    · rintro ⟨a, b, c, d⟩
      have := key c
      exact ⟨by simp, c, by simp at d ⊢; omega⟩
  by_cases h2 : kd = 202
  · subst h2
    simp only [least]
    constructor
    · rintro ⟨a, b, c⟩
      exact ⟨by omega, by omega, b, by simp⟩
    · rintro ⟨a, b, c, d⟩
      have := key c
      exact ⟨by simp, c, by simp; omega⟩
  by_cases h3 : kd = 203
  · subst h3
    simp only [least]
    constructor
    · rintro ⟨a, b, c⟩
      exact ⟨by omega, by omega, b, by simp at c ⊢; omega⟩
    · rintro ⟨a, b, c, d⟩
      have := key c
      exact ⟨by simp, c, by simp at d ⊢; omega⟩
  by_cases h4 : kd = 204
  · subst h4
    simp only [least]
    constructor
    · rintro ⟨a, b, c⟩
      exact ⟨by omega, by omega, b, by simp⟩
    · rintro ⟨a, b, c, d⟩
      have := key c
      exact ⟨by simp, c, by simp; omega⟩
  constructor
  · rintro ⟨a, _⟩
    exfalso
    apply a
    unfold least
    split <;> first | rfl | omega
  · rintro ⟨a, b, _⟩
    omega

/-- one part read by the specification, first or not -/
theorem spec_step (k : Nat) (first : Bool) (b : List Nat) (hb : b ≠ []) :
    specT first (k + 1) b = match cutM b with
      | none => none
      | some o => if rightM o = true ∧ (first = true → pd o = false ∧ pk o ≤ 201) ∧ (pd o = true → o.length = b.length) then (specT false k (b.drop o.length)).map (conv o :: ·) else none := by
  unfold specT
  rw [Ql48.parts]
  rw [if_neg hb]
  dsimp only
  unfold cutM
  by_cases h8 : b.length < 8
  · rw [if_pos (Or.inl h8), if_pos h8]
  rw [if_neg h8]
  generalize hn : 4 + 4 * field b 2 2 = n
  by_cases hn8 : n < 8 ∨ b.length < n
  · rw [if_pos (by omega), if_pos hn8]
  rw [if_neg hn8]
  dsimp only
  generalize ho : b.take n = o
  have hol : o.length = n := by
    rw [← ho, List.length_take]
    omega
  have hf : b.getD 0 0 = hd o := by
    unfold hd
    rw [← ho]
    exact (getD_take (by omega)).symm
  have hk : b.getD 1 0 = pk o := by
    unfold pk
    rw [← ho]
    exact (getD_take (by omega)).symm
  have hpad : (hd o / 32 % 2 == 1) = pd o := by
    unfold pd
    have : hd o / 32 % 2 = 0 ∨ hd o / 32 % 2 = 1 := by omega
    rcases this with h | h <;> rw [h] <;> rfl
  have hpl : (if pd o = true then o.getLastD 0 else 0) = padLen o := by
    unfold padLen pd
    by_cases h : hd o / 32 % 2 = 0 <;> simp [h]
  rw [hf, hk, hpad, hpl, hol]
  have fi := fits_iff (o := o) (by omega)
  have hr : rightM o = true ↔ (hd o / 64 = 2 ∧ 200 ≤ pk o ∧ pk o ≤ 204 ∧ (pd o = true → padLen o ≠ 0 ∧ padLen o % 4 = 0 ∧ padLen o + 8 ≤ n) ∧ fits (conv o) = true) := by
    rw [hol] at fi
    unfold rightM
    by_cases h1 : hd o / 64 ≠ 2 ∨ least (pk o) = none
    · rw [if_pos h1]
      constructor
      · intro z; cases z
      · rintro ⟨a, b⟩
        rcases h1 with h1 | h1
        · exact absurd a h1
        · exact absurd h1 (fi.mpr b).1
    · rw [if_neg h1, Bool.and_eq_true_iff]
      have h2 : hd o / 64 = 2 := Classical.byContradiction fun z => h1 (.inl z)
      have h3 : least (pk o) ≠ none := fun z => h1 (.inr z)
      constructor
      · rintro ⟨a, b⟩
        exact ⟨h2, fi.mp ⟨h3, a, b⟩⟩
      · rintro ⟨_, b⟩
        exact (fi.mpr b).2
  have hconv : (pk o, hd o % 32, o.take (n - padLen o)) = conv o := by
    unfold conv pc
    rw [hol]
  rw [hconv]
  by_cases hc : b.length < 8 ∨ b.length < n ∨ n < 8 ∨ hd o / 64 ≠ 2 ∨ pk o < 200 ∨ 204 < pk o ∨ (first = true ∧ (pd o = true ∨ 201 < pk o)) ∨ (pd o = true ∧ (n ≠ b.length ∨ padLen o = 0 ∨ padLen o % 4 ≠ 0 ∨ n < padLen o + 8))
  · rw [if_pos hc, if_neg]
    rintro ⟨a, b1, c⟩
    obtain ⟨r1, r2, r3, r4, r5⟩ := hr.mp a
    rcases hc with h | h | h | h | h | h | ⟨h, h'⟩ | ⟨h, h'⟩
    · omega
    · omega
    · omega
    · exact h r1
    · omega
    · omega
    · have := b1 h
      rcases h' with h' | h'
      · rw [this.1] at h'; cases h'
      · omega
    · have := r4 h
      have := c h
      omega
  · rw [if_neg hc]
    have g1 : hd o / 64 = 2 := Classical.byContradiction fun z => hc (.inr (.inr (.inr (.inl z))))
    have g2 : 200 ≤ pk o := Nat.le_of_not_lt fun z => hc (.inr (.inr (.inr (.inr (.inl z)))))
    have g3 : pk o ≤ 204 := Nat.le_of_not_lt fun z => hc (.inr (.inr (.inr (.inr (.inr (.inl z))))))
    have g4 : first = true → pd o = false ∧ pk o ≤ 201 := fun z => by
      have h1 : ¬ (pd o = true ∨ 201 < pk o) := fun q => hc (.inr (.inr (.inr (.inr (.inr (.inr (.inl ⟨z, q⟩)))))))
      refine ⟨?_, Nat.le_of_not_lt fun q => h1 (.inr q)⟩
      cases e : pd o with
      | false => rfl
      | true => exact absurd (.inl e) h1
    have g5 : pd o = true → n = b.length ∧ padLen o ≠ 0 ∧ padLen o % 4 = 0 ∧ padLen o + 8 ≤ n := fun z => by
      have h1 : ¬ (n ≠ b.length ∨ padLen o = 0 ∨ padLen o % 4 ≠ 0 ∨ n < padLen o + 8) := fun q => hc (.inr (.inr (.inr (.inr (.inr (.inr (.inr ⟨z, q⟩)))))))
      omega
    cases e : Ql48.parts k false (b.drop n) with
    | none =>
      simp
    | some l =>
      simp only [Option.map_some]
      have eA : (conv o :: l).all fits = (fits (conv o) && l.all fits) := List.all_cons
      by_cases hfit : fits (conv o) = true
      · rw [if_pos (show rightM o = true ∧ _ ∧ _ from ⟨hr.mpr ⟨g1, g2, g3, fun z => (g5 z).2, hfit⟩, g4, fun z => (g5 z).1⟩)]
        by_cases hl : l.all fits = true
        · rw [if_pos (by rw [eA, hfit, hl]; rfl), if_pos hl]
          rfl
        · rw [if_neg (fun z => hl (by rw [eA] at z; exact (Bool.and_eq_true_iff.mp z).2)), if_neg hl]
          rfl
      · rw [if_neg (show ¬ (rightM o = true ∧ _ ∧ _) from fun z => hfit (hr.mp z.1).2.2.2.2), if_neg (fun z => hfit (by rw [eA] at z; exact (Bool.and_eq_true_iff.mp z).1))]

theorem cut_len {b o : List Nat} (h : cutM b = some o) : o.length ≤ b.length ∧ 8 ≤ o.length := by
  unfold cutM at h
  split at h
  · cases h
  · split at h
    · cases h
    · cases h
      rw [List.length_take]
      omega
theorem loop_nil {k : Nat} {ps : List (List Nat)} {b : List Nat} (h : loopM k b = some ps) : ps = [] ↔ b = [] := by
  cases k with
  | zero => cases h
  | succ k =>
    unfold loopM at h
    by_cases hb : b = []
    · rw [if_pos hb] at h
      cases h
      exact ⟨fun _ => hb, fun _ => rfl⟩
    · rw [if_neg hb] at h
      refine ⟨fun z => ?_, fun z => absurd z hb⟩
      subst z
      split at h
      · cases h
      · split at h
        · obtain ⟨_, _, z⟩ := Option.map_eq_some_iff.mp h
          cases z
        · cases h
theorem spec_tail : ∀ (k : Nat) (b : List Nat), specT false k b = (tailM k b).map (List.map conv)
  | 0, b => rfl
  | k + 1, b => by
    by_cases hb : b = []
    · subst hb
      rfl
    · rw [spec_step k false b hb]
      unfold tailM loopM
      rw [if_neg hb]
      cases e : cutM b with
      | none => rfl
      | some o =>
        dsimp only
        have hl := cut_len e
        by_cases hr : rightM o = true
        · rw [if_pos hr]
          have ih := spec_tail k (b.drop o.length)
          unfold tailM at ih
          cases e2 : loopM k (b.drop o.length) with
          | none =>
            rw [e2] at ih
            rw [ih]
            split <;> rfl
          | some ps =>
            rw [e2] at ih
            dsimp only at ih
            simp only [Option.map_some]
            rw [okTail_cons]
            have hnil := loop_nil e2
            have hdr : b.drop o.length = [] ↔ o.length = b.length := by
              rw [List.drop_eq_nil_iff]
              omega
            by_cases ht : okTail ps = true
            · rw [if_pos ht] at ih
              rw [ih]
              by_cases hpd : pd o = true
              · by_cases hlen : o.length = b.length
                · rw [if_pos (show _ ∧ _ ∧ _ from ⟨hr, by simp, fun _ => hlen⟩), if_pos (by rw [ht, decide_eq_true (hnil.mpr (hdr.mpr hlen))]; rfl)]
                  rfl
                · rw [if_neg (fun z => hlen (z.2.2 hpd)), if_neg]
                  · rfl
                  · rw [hpd, decide_eq_false (fun z => hlen (hdr.mp (hnil.mp z)))]
                    simp
              · rw [if_pos (show _ ∧ _ ∧ _ from ⟨hr, by simp, fun z => absurd z hpd⟩), if_pos (by rw [ht]; simp [hpd])]
                rfl
            · rw [if_neg ht] at ih
              rw [ih, if_neg (show ¬ ((decide (ps = []) || !pd o) && okTail ps) = true from fun z => ht (Bool.and_eq_true_iff.mp z).2)]
              split <;> rfl
        · rw [if_neg hr, if_neg (fun z => hr z.1)]
          rfl
theorem padded_cons (o : List Nat) (r : List (List Nat)) : paddedM (o :: r) = (!(pd o) && okTail r) := by
  have h : ∀ l : List (List Nat), (l.dropLast.any pd) = !(okTail l) := by
    intro l
    induction l with
    | nil => rfl
    | cons a t ih =>
      cases t with
      | nil => rfl
      | cons c d =>
        rw [List.dropLast_cons₂, List.any_cons, ih, okTail]
        cases pd a <;> simp
  unfold paddedM
  rw [List.any_append, h, okTail_cons]
  show (!((o :: [] : List (List Nat)).any pd || _)) = _
  rw [List.any_cons, List.any_nil]
  cases pd o <;> cases okTail r <;> simp
theorem parts_eq (b : List Nat) (h : b.length ≤ 65535) : specT true (b.length + 1) b = (partsM b).map (List.map conv) := by
  unfold partsM
  rw [if_neg (by omega)]
  by_cases hb : b = []
  · subst hb
    rfl
  · rw [spec_step _ true b hb]
    unfold loopM
    rw [if_neg hb]
    cases e : cutM b with
    | none => rfl
    | some o =>
      dsimp only
      have hl := cut_len e
      by_cases hr : rightM o = true
      · rw [if_pos hr]
        have ih := spec_tail b.length (b.drop o.length)
        unfold tailM at ih
        have hk : 200 ≤ pk o := by
          have := hr
          unfold rightM at this
          split at this
          · cases this
          · rename_i hn
            have h3 : least (pk o) ≠ none := fun z => hn (.inr z)
            unfold least at h3
            split at h3 <;> first | omega | exact absurd rfl h3
        cases e2 : loopM b.length (b.drop o.length) with
        | none =>
          rw [e2] at ih
          rw [ih]
          split <;> rfl
        | some ps =>
          rw [e2] at ih
          dsimp only at ih
          simp only [Option.map_some]
          rw [padded_cons]
          have hbg : beginsM (o :: ps) = true ↔ pk o ≤ 201 := by
            unfold beginsM
            rw [decide_eq_true_iff]
            omega
          by_cases hpd : pd o = true
          · rw [if_neg (fun z => by have := (z.2.1 (by trivial)).1; rw [hpd] at this; cases this), if_neg]
            · rfl
            · rw [hpd]
              simp
          · have hpd' : pd o = false := by simpa using hpd
            by_cases h201 : pk o ≤ 201
            · rw [if_pos (show _ ∧ _ ∧ _ from ⟨hr, fun _ => ⟨hpd', h201⟩, fun z => absurd z hpd⟩), ih]
              by_cases ht : okTail ps = true
              · rw [if_pos ht, if_pos ⟨hbg.mpr h201, by rw [ht, hpd']; rfl⟩]
                rfl
              · rw [if_neg ht, if_neg (fun z => ht (Bool.and_eq_true_iff.mp z.2).2)]
                rfl
            · rw [if_neg (fun z => h201 (z.2.1 (by trivial)).2), if_neg (fun z => h201 (hbg.mp z.1))]
              rfl
      · rw [if_neg hr, if_neg (fun z => hr z.1)]
        rfl

/-! ### what they say -/
def leaving (o : List Nat) : List Int := (List.range (pc o)).map fun i => ((field o (4 + 4 * i) 4 : Nat) : Int)
def Hr.note (h : Hr) (o : List Nat) (src now : Int) : Hr :=
  let h1 : Hr := if pk o = 200 ∧ ((field o 4 4 : Nat) : Int) = src then { h with middle := ((field o 10 4 : Nat) : Int), at_ := some now } else h
  if pk o = 203 ∧ src ∈ leaving o then { h1 with bye := 1 } else h1
def Rc.heard (m : Rc) (b : List Nat) (now : Int) : Rc × Int := match partsM b with
  | none => (m, -1)
  | some ps => (match m.source with
    | none => m
    | some src => { m with hearing := ps.foldl (fun h o => h.note o src now) m.hearing }, (ps.length : Int))

theorem field_take {o : List Nat} {m i n : Nat} (h : i + n ≤ m) : field (o.take m) i n = field o i n := by
  unfold field
  rw [List.drop_take, List.take_take, Nat.min_eq_left (by omega)]
def stepS (now : Nat) (c : Source) (x : Nat × Nat × B) : Source :=
  if x.1 = 200 ∧ field x.2.2 4 4 = c.id then { c with report := some (field x.2.2 10 4, now) }
  else if x.1 = 203 ∧ ((List.range x.2.1).any fun i => field x.2.2 (4 + 4 * i) 4 == c.id) = true then { c with bye := true } else c
theorem step_id (now : Nat) (c : Source) (x : Nat × Nat × B) : (stepS now c x).id = c.id := by
  unfold stepS
  split
  · rfl
  · split <;> rfl
theorem note_rel {h : Hr} {c : Source} (r : RelH h c) {o : List Nat} (hf : fits (conv o) = true) (now : Nat) (hnow : now < 4294967296) : RelH (h.note o c.id now) (stepS now c (conv o)) := by
  have hlen : (conv o).2.2.length ≤ o.length - padLen o := by
    show (o.take _).length ≤ _
    rw [List.length_take]
    omega
  have hx1 : (conv o).1 = pk o := rfl
  have hx2 : (conv o).2.1 = pc o := rfl
  have hx3 : (conv o).2.2 = o.take (o.length - padLen o) := rfl
  unfold fits at hf
  rw [hx1, hx2] at hf
  unfold stepS Hr.note
  rw [hx1, hx2, hx3]
  by_cases h2 : pk o = 200
  · rw [if_pos h2] at hf
    have hb : 28 ≤ o.length - padLen o := by
      have := of_decide_eq_true hf
      omega
    rw [field_take (show 4 + 4 ≤ _ by omega), field_take (show 10 + 4 ≤ _ by omega)]
    dsimp only
    by_cases hid : field o 4 4 = c.id
    · rw [if_neg (show ¬ (pk o = 203 ∧ (c.id : Int) ∈ leaving o) from fun z => by omega), if_pos (show pk o = 200 ∧ ((field o 4 4 : Nat) : Int) = (c.id : Int) from ⟨h2, by rw [hid]⟩), if_pos (show pk o = 200 ∧ field o 4 4 = c.id from ⟨h2, hid⟩)]
      exact ⟨.inr ⟨_, _, rfl, rfl, rfl, hnow⟩, r.bye⟩
    · rw [if_neg (show ¬ (pk o = 203 ∧ (c.id : Int) ∈ leaving o) from fun z => by omega), if_neg (show ¬ (pk o = 200 ∧ ((field o 4 4 : Nat) : Int) = (c.id : Int)) from fun z => hid (by omega)), if_neg (show ¬ (pk o = 200 ∧ field o 4 4 = c.id) from fun z => hid z.2), if_neg (fun z => by omega)]
      exact r
  · rw [if_neg h2] at hf
    dsimp only
    rw [if_neg (show ¬ (pk o = 200 ∧ ((field o 4 4 : Nat) : Int) = (c.id : Int)) from fun z => h2 z.1), if_neg (show ¬ (pk o = 200 ∧ field (o.take (o.length - padLen o)) 4 4 = c.id) from fun z => h2 z.1)]
    by_cases h3 : pk o = 203
    · rw [if_neg (by omega), if_pos h3] at hf
      have hb := of_decide_eq_true hf
      have e : ((List.range (pc o)).any fun i => field (o.take (o.length - padLen o)) (4 + 4 * i) 4 == c.id) = true ↔ (c.id : Int) ∈ leaving o := by
        unfold leaving
        rw [List.any_eq_true, List.mem_map]
        constructor
        · rintro ⟨i, hi, he⟩
          have hi' := List.mem_range.mp hi
          refine ⟨i, hi, ?_⟩
          rw [field_take (by omega)] at he
          have := beq_iff_eq.mp he
          omega
        · rintro ⟨i, hi, he⟩
          have hi' := List.mem_range.mp hi
          refine ⟨i, hi, ?_⟩
          rw [field_take (by omega)]
          exact beq_iff_eq.mpr (by omega)
      by_cases hl : (c.id : Int) ∈ leaving o
      · rw [if_pos (show pk o = 203 ∧ (c.id : Int) ∈ leaving o from ⟨h3, hl⟩), if_pos ⟨h3, e.mpr hl⟩]
        exact ⟨r.rep, rfl⟩
      · rw [if_neg (show ¬ (pk o = 203 ∧ (c.id : Int) ∈ leaving o) from fun z => hl z.2), if_neg (fun z => hl (e.mp z.2))]
        exact r
    · rw [if_neg (fun z => h3 z.1), if_neg (fun z => h3 z.1)]
      exact r
theorem notes_rel (now : Nat) (hnow : now < 4294967296) : ∀ (ps : List (List Nat)) (h : Hr) (c : Source), RelH h c → (∀ o ∈ ps, fits (conv o) = true) →
    RelH (ps.foldl (fun h o => h.note o c.id now) h) ((ps.map conv).foldl (stepS now) c)
  | [], _, _, r, _ => r
  | o :: ps, h, c, r, hf => by
    have ih := notes_rel now hnow ps (h.note o c.id now) (stepS now c (conv o)) (note_rel r (hf o (by simp)) now hnow) fun p hp => hf p (by simp [hp])
    rw [step_id] at ih
    exact ih
/-- what a fold over parts leaves of a source -/
theorem step_keep (now : Nat) (x : Nat × Nat × B) (c : Source) : ∃ r b, stepS now c x = { c with report := r, bye := b } := by
  unfold stepS
  split
  · exact ⟨_, _, rfl⟩
  · split
    · exact ⟨_, _, rfl⟩
    · exact ⟨c.report, c.bye, rfl⟩
theorem steps_keep (now : Nat) : ∀ (l : List (Nat × Nat × B)) (c : Source), ∃ r b, l.foldl (stepS now) c = { c with report := r, bye := b }
  | [], c => ⟨c.report, c.bye, rfl⟩
  | x :: l, c => by
    obtain ⟨r, b, e⟩ := step_keep now x c
    obtain ⟨r', b', e'⟩ := steps_keep now l (stepS now c x)
    rw [List.foldl_cons, e', e]
    exact ⟨r', b', rfl⟩
theorem heard_rel {k : Nat} {m : Rc} {s : St} (h : Rel k m s) (b : List Nat) (hb : b.length ≤ 65535) (now : Nat) (hnow : now < 4294967296) :
    (m.heard b now).2 = (Ql48.heard s b now).2 ∧ Rel (k + 1) (m.heard b now).1 (Ql48.heard s b now).1 := by
  have hmono := h.mono
  obtain ⟨ho, hde, d1, d2, hR⟩ := hmono
  have hp := parts_eq b hb
  unfold specT at hp
  have hs : Ql48.heard s b now = match partsM b with
      | none => (s, -1)
      | some ps => ({ s with source := s.source.map fun c => (ps.map conv).foldl (stepS now) c }, ((ps.map conv).length : Nat)) := by
    unfold Ql48.heard
    cases e : Ql48.parts (b.length + 1) true b with
    | none =>
      rw [e] at hp
      dsimp only at hp ⊢
      rw [Option.map_eq_none_iff.mp hp.symm]
    | some l =>
      rw [e] at hp
      dsimp only at hp ⊢
      by_cases hf : l.all fits = true
      · rw [if_pos hf] at hp
        obtain ⟨ps, e1, e2⟩ := Option.map_eq_some_iff.mp hp.symm
        rw [if_neg (by rw [hf]; simp), e1]
        dsimp only
        rw [e2]
        rfl
      · rw [if_neg hf] at hp
        rw [if_pos (by simpa using hf), Option.map_eq_none_iff.mp hp.symm]
  rw [hs]
  unfold Rc.heard
  cases e : partsM b with
  | none => exact ⟨rfl, ho, hde, d1, d2, hR⟩
  | some ps =>
    have hall : ∀ o ∈ ps, fits (conv o) = true := by
      rw [e] at hp
      split at hp
      · cases hp
      · split at hp
        · rename_i hf
          have := Option.some.inj hp
          subst this
          intro o ho
          exact List.all_eq_true.mp hf _ (List.mem_map.mpr ⟨o, ho, rfl⟩)
        · cases hp
    dsimp only
    refine ⟨by rw [List.length_map], ?_⟩
    cases hR with
    | none h1 h2 h3 h4 h5 h6 hh =>
      rw [h1, h5]
      exact ⟨ho, hde, d1, d2, .none h1 h2 h3 h4 rfl h6 hh⟩
    | @doubt c h1 h2 h3 h4 h5 h6 h7 hh =>
      rw [h1, h5]
      have hn := notes_rel now hnow ps m.hearing c hh hall
      obtain ⟨r, y, ek⟩ := steps_keep now (ps.map conv) c
      rw [ek] at hn
      dsimp only [Option.map_some]
      rw [ek]
      exact ⟨ho, hde, d1, d2, .doubt (c := { c with report := r, bye := y }) rfl h2 h3 h4 rfl h6 h7 hn⟩
    | @sure c q x h1 h2 h3 h4 h5 hC hW hh =>
      rw [h1, h5]
      have hn := notes_rel now hnow ps m.hearing c hh hall
      obtain ⟨r, y, ek⟩ := steps_keep now (ps.map conv) c
      rw [ek] at hn
      dsimp only [Option.map_some]
      rw [ek]
      exact ⟨ho, hde, d1, d2, .sure (c := { c with report := r, bye := y }) rfl h2 h3 h4 rfl ⟨hC.wanted, hC.first, hC.great, hC.most, hC.cyc, hC.base, hC.came, hC.jit, hC.way, hC.way0, hC.way1, hC.te, hC.te1, hC.tc, hC.jit1, hC.cap⟩ hW hn⟩
end LP
namespace LP
open Ql48
/-! ### a call on the desk -/
def stepM (m : Option Rc) : Ql48.Call → Option Rc × List Int
  | .begin_ o d => if d < 1 ∨ 32 < d then (m, [-1]) else (some (Rc.new o d), [0])
  | .receive b _ a => match m with
    | none => (none, [])
    | some m => (some (m.receive b a).1, [(m.receive b a).2])
  | .take x => match m with
    | none => (none, [])
    | some m => (some (m.take x).1, (m.take x).2)
  | .report now => match m with
    | none => (none, [])
    | some m => (some (m.report now).1, (m.report now).2)
  | .heard b _ now => match m with
    | none => (none, [])
    | some m => (some (m.heard b now).1, [(m.heard b now).2])
  | .told => match m with
    | none => (none, [])
    | some m => (some m, m.tell)
/-- where a call stands, and where the next one does -/
inductive CallAt (l : List Int) (i : Nat) : Ql48.Call → Nat → Prop
  | begin_ (o d : Nat) : l[i]? = some 0 → l[i + 1]? = some (o : Int) → l[i + 2]? = some (d : Int) → CallAt l i (.begin_ o d) (i + 3)
  | receive (x : Nat) (b : List Nat) : l[i]? = some 1 → l[i + 1]? = some (x : Int) → l[i + 2]? = some (b.length : Int) → (l.drop (i + 3)).take b.length = b.map (fun (n : Nat) => (n : Int)) → (∀ y ∈ b, y ≤ 255) → CallAt l i (.receive b b.length x) (i + 3 + b.length)
  | take (x : Nat) : l[i]? = some 2 → l[i + 1]? = some (x : Int) → CallAt l i (.take x) (i + 2)
  | report (x : Nat) : l[i]? = some 3 → l[i + 1]? = some (x : Int) → CallAt l i (.report x) (i + 2)
  | heard (x : Nat) (b : List Nat) : l[i]? = some 4 → l[i + 1]? = some (x : Int) → l[i + 2]? = some (b.length : Int) → (l.drop (i + 3)).take b.length = b.map (fun (n : Nat) => (n : Int)) → (∀ y ∈ b, y ≤ 255) → CallAt l i (.heard b b.length x) (i + 3 + b.length)
  | told : l[i]? = some 5 → CallAt l i .told (i + 1)
/-- what a receiver keeps to -/
structure RcOk (m : Rc) : Prop where
  both : (m.counting = none ∧ m.waiting = none) ∨ ∃ c x, m.counting = some c ∧ m.waiting = some x
  src : ∀ c, m.counting = some c → ∃ z, m.source = some z
  cnt : ∀ c, m.counting = some c → 0 ≤ c.expected - c.te ∧ c.expected - c.te < 1073741824
  loads : ∀ x, m.waiting = some x → ∀ k ∈ x.kept, k.2.load.length ≤ 1472
theorem Rel.ok {k : Nat} {m : Rc} {s : St} (h : Rel k m s) (hk : k ≤ 300) : RcOk m := by
  obtain ⟨ho, hde, d1, d2, hR⟩ := h
  cases hR with
  | none h1 h2 h3 h4 h5 h6 hh => exact ⟨.inl ⟨h3, h4⟩, fun c e => (by rw [h3] at e; cases e), fun c e => (by rw [h3] at e; cases e), fun c e => (by rw [h4] at e; cases e)⟩
  | @doubt c h1 h2 h3 h4 h5 h6 h7 hh => exact ⟨.inl ⟨h3, h4⟩, fun c e => (by rw [h3] at e; cases e), fun c e => (by rw [h3] at e; cases e), fun c e => (by rw [h4] at e; cases e)⟩
  | @sure c q x h1 h2 h3 h4 h5 hC hW hh =>
    refine ⟨.inr ⟨q, x, h3, h4⟩, fun _ _ => ⟨_, h1⟩, fun c' e => ?_, fun x' e y hy => ?_⟩
    · rw [h3] at e
      cases e
      obtain ⟨c1, c2, c3, c4, c5, c6, c7, c8, c9, c10, c11, c12, c13, c14, c15, c16⟩ := hC
      unfold Cnt.expected
      omega
    · rw [h4] at e
      cases e
      exact hW.loads (keptOf y) (hW.perm.mem_iff.mp (List.mem_map.mpr ⟨y, hy, rfl⟩))
theorem new_rel (o d : Nat) (h1 : 1 ≤ d) (h2 : d ≤ 32) (k : Nat) : Rel k (Rc.new o d) (empty o d) := ⟨rfl, rfl, h1, h2, .none rfl rfl rfl rfl rfl rfl rfl⟩
theorem only_due (z : Int) : ansOf (only z) = [z] := rfl
/-- a call on the receiver and the specification's -/
theorem step_rel {k : Nat} {m : Rc} {s : St} (h : Rel k m s) {l : List Int} {i j : Nat} {q : Ql48.Call} (hc : CallAt l i q j) (hl : l.length ≤ 30000) (hu : ∀ y ∈ l, y ≤ 4294967295) :
    (stepM (some m) q).2 = due s q ∧ ∃ m', (stepM (some m) q).1 = some m' ∧ Rel (k + 1) m' (Ql48.spec s q).1 := by
  have hb : ∀ b : List Nat, l[i + 2]? = some (b.length : Int) → (l.drop (i + 3)).take b.length = b.map (fun (n : Nat) => (n : Int)) → b.length ≤ 65535 := fun b _ e => by
    have := congrArg List.length e
    rw [List.length_take, List.length_drop, List.length_map] at this
    omega
  cases hc with
  | begin_ o d e1 e2 e3 =>
    unfold stepM due Ql48.spec
    dsimp only
    by_cases hd : d < 1 ∨ 32 < d
    · rw [if_pos hd, if_pos hd]
      exact ⟨rfl, m, rfl, h.mono⟩
    · rw [if_neg hd, if_neg hd]
      exact ⟨rfl, _, rfl, new_rel o d (by omega) (by omega) _⟩
  | receive x b e1 e2 e3 e4 e5 =>
    have hl := hb b e3 e4
    have r := receive_rel h b hl e5 x
    unfold stepM due Ql48.spec LONG
    dsimp only
    rw [if_neg (by omega)]
    exact ⟨by rw [r.1]; rfl, _, rfl, r.2⟩
  | take x e1 e2 => exact ⟨(take_rel h x).1, _, rfl, (take_rel h x).2⟩
  | report x e1 e2 => exact ⟨(report_rel h x).1, _, rfl, (report_rel h x).2⟩
  | heard x b e1 e2 e3 e4 e5 =>
    have hl := hb b e3 e4
    have hx : x < 4294967296 := by
      have := hu _ (List.mem_of_getElem? e2)
      omega
    have r := heard_rel h b hl x hx
    unfold stepM due Ql48.spec LONG
    dsimp only
    rw [if_neg (by omega)]
    exact ⟨by rw [r.1]; rfl, _, rfl, r.2⟩
  | told e1 =>
    have r := tell_rel h
    exact ⟨r.1, _, rfl, by rw [r.2]; exact h.mono⟩
theorem tell_length (m : Rc) : m.tell.length ≤ 7 := by
  unfold Rc.tell
  cases m.source with
  | none =>
    show 1 ≤ 7
    decide
  | some z =>
    dsimp only
    unfold Rc.counts
    split <;> simp
theorem step_length {m : Rc} (h : RcOk m) (q : Ql48.Call) : (stepM (some m) q).2.length ≤ 1477 := by
  cases q with
  | begin_ o d =>
    show (if d < 1 ∨ 32 < d then (some m, [-1]) else (some (Rc.new o d), [0]) : Option Rc × List Int).2.length ≤ 1477
    split
    · show 1 ≤ 1477
      decide
    · show 1 ≤ 1477
      decide
  | receive b n a => simp [stepM]
  | take x =>
    show (m.take x).2.length ≤ 1477
    unfold Rc.take
    split
    · simp
    · cases hw : m.waiting with
      | none => simp
      | some w =>
        dsimp only
        cases ha : w.at_ w.due with
        | none =>
          dsimp only
          split <;> simp
        | some p =>
          dsimp only
          unfold tell
          have : p.load.length ≤ 1472 := by
            unfold Wt.at_ at ha
            obtain ⟨y, hy, e⟩ := Option.map_eq_some_iff.mp ha
            rw [← e]
            exact h.loads w hw y (List.mem_of_find?_eq_some hy)
          simp
          omega
  | report now =>
    show (m.report now).2.length ≤ 1477
    unfold Rc.report
    have := blk_length m now
    simp only [List.length_cons]
    unfold reportM
    simp only [List.length_append, writeM_length, List.length_cons, List.length_nil]
    omega
  | heard b n a => simp [stepM]
  | told =>
    show m.tell.length ≤ 1477
    have := tell_length m
    omega
/-- the turn of a list of calls -/
theorem left_call {l : List Int} {place : Nat} {s : St} {acc : List Int} {k : Nat} (h : Left l place s acc k) (hp : place < l.length) :
    ∃ q j, CallAt l place q j ∧ (∀ a, a = due s q → a.length ≤ 1477 → Left l j (Ql48.spec s q).1 (acc ++ ((a.length : Int) :: a)) (k + 1)) := by
  cases left_turn h hp with
  | begin_ o d e1 e2 e3 _ _ g => exact ⟨_, _, .begin_ o d e1 e2 e3, g⟩
  | receive x b e1 e2 e3 e4 e5 _ _ g => exact ⟨_, _, .receive x b e1 e2 e3 e4 e5, g⟩
  | take x e1 e2 _ g => exact ⟨_, _, .take x e1 e2, g⟩
  | report x e1 e2 _ g => exact ⟨_, _, .report x e1 e2, g⟩
  | heard x b e1 e2 e3 e4 e5 _ _ g => exact ⟨_, _, .heard x b e1 e2 e3 e4 e5, g⟩
  | told e1 g => exact ⟨_, _, .told e1, g⟩
theorem call_lt {l : List Int} {i j : Nat} {q : Ql48.Call} (h : CallAt l i q j) : i < j := by
  cases h <;> omega
theorem left_room {l : List Int} {place : Nat} {s : St} {acc : List Int} {k : Nat} (h : Left l place s acc k) (hp : place < l.length) : acc.length + 1480 ≤ 444000 ∧ k < 300 := by
  obtain ⟨_, f, cs, h1, h2, h3, h4, h5⟩ := h
  have hd : l.drop place = l[place] :: l.drop (place + 1) := List.drop_eq_getElem_cons hp
  rw [hd] at h1
  obtain ⟨f', c, t, cs', q1, q2, q3⟩ := calls_step h1
  subst q3
  simp only [List.length_cons] at h4 h5
  omega
/-- the first call begins -/
theorem first_call {l : List Int} {o d : Int} {r : List Int} (e : l = 0 :: o :: d :: r) {q : Ql48.Call} {j : Nat} (h : CallAt l 0 q j) (h1 : 1 ≤ d) (h2 : d ≤ 32) : ∃ o' d' : Nat, q = .begin_ o' d' ∧ 1 ≤ d' ∧ d' ≤ 32 := by
  subst e
  cases h with
  | begin_ o' d' e1 e2 e3 =>
    refine ⟨o', d', rfl, ?_⟩
    simp at e3
    omega
  | receive x b e1 => simp at e1
  | take x e1 => simp at e1
  | report x e1 => simp at e1
  | heard x b e1 => simp at e1
  | told e1 => simp at e1
theorem first_rel {o d : Nat} (h1 : 1 ≤ d) (h2 : d ≤ 32) (s : St) (k : Nat) : (stepM none (.begin_ o d)).2 = due s (.begin_ o d) ∧ (stepM none (.begin_ o d)).1 = some (Rc.new o d) ∧ Rel k (Rc.new o d) (Ql48.spec s (.begin_ o d)).1 := by
  unfold stepM due Ql48.spec
  dsimp only
  rw [if_neg (by omega), if_neg (by omega)]
  exact ⟨rfl, rfl, new_rel o d h1 h2 k⟩
end LP
/-! The program's text by places, its classes' fields, what is asked of it; rules of our own: a dict of the module, list.insert at 0. -/
namespace My
open PySem PySem.Spec PyProof.Rows L2
def GlI (mg : Str → Option Value) (x : Str) (v : V) : Prop := ∃ u, mg x = some u ∧ RelV v u
theorem pe_gl {X : Cx} {x : Str} {v : V} {pos : Pos} (h : GlI X.mg x v) (hg : Gl X x) (hd : (x == ("__debug__" : Str)) = false := by decide) : PE X (.Name x pos) (tC v) := by
  obtain ⟨u, hm, r⟩ := h
  exact pe_glob hg hm r hd
/-- e.f, for a context whose module is known by name -/
theorem pe_fldK {X : Cx} {K : PySem.W.Frag} {e : Expr} {f : Str} {pos : Pos} {ta : TE} (hK : X.K = K) (he : PE X e ta) (hb : attributeBase e f X.env (eval e X.env) = eval e X.env) : PE X (.Attribute e f pos) (tFld K ta f) := by
  subst hK
  exact pe_fld he hb
/-- the entries of a dict of the module -/
inductive EntI : List DictEntry → List (Int × V) → Prop
  | nil : EntI [] []
  | cons {i : Int} {t : Tok} {u : Value} {v : V} {es : List DictEntry} {kvs : List (Int × V)} : RelV v u → EntI es kvs → EntI (⟨hashInt i, .int i t, u⟩ :: es) ((i, v) :: kvs)
structure KD (K : PySem.W.Frag) (a : Addr) (kvs : List (Int × V)) : Prop where
  ex : ∃ (o : Obj) (es : List DictEntry) (ep : Nat), K.lookup a = some o ∧ o.ExactDict ∧ o.data = .dict es.toArray ep ∧ EntI es kvs
  nd : (kvs.map (·.1)).Nodup
  sm : (a == sysModules) = false
abbrev kK (kvs : List (Int × V)) : List (Key × V) := kvs.map fun p => (Sum.inl p.1, p.2)
theorem EntI.pairs (P : Program) (w : World) {es : List DictEntry} {kvs : List (Int × V)} (h : EntI es kvs) :
    ∃ vs : List (Key × Value), KV (kK kvs) vs ∧ Pairs (mixKind P w) es vs ∧ vs.map (·.1) = kvs.map (fun p => (Sum.inl p.1 : Key)) ∧ ∀ e ∈ es, ∃ k, (mixKind P w).is k e.key = true ∧ e.hash = (mixKind P w).hash k := by
  induction h with
  | nil => exact ⟨[], .nil, .nil, rfl, fun e h => absurd h (by simp)⟩
  | @cons i t u v es kvs r _ ih =>
    obtain ⟨vs, h1, h2, h3, h4⟩ := ih
    refine ⟨(Sum.inl i, u) :: vs, .cons ⟨rfl, r⟩ h1, .cons (mixKind_int P w i t) rfl h2, by rw [List.map_cons, h3, List.map_cons], fun e he => ?_⟩
    rcases List.mem_cons.mp he with rfl | he
    · exact ⟨Sum.inl i, mixKind_int P w i t, rfl⟩
    · exact h4 e he
theorem KD.dict (P : Program) (w : World) {K : PySem.W.Frag} {a : Addr} {kvs : List (Int × V)} {h : Heap} (d : KD K a kvs) (hk : K.In h) : ∃ vs, KV (kK kvs) vs ∧ h.DictOf (mixKind P w) a vs := by
  obtain ⟨o, es, ep, h1, h2, h3, h4⟩ := d.ex
  obtain ⟨vs, q1, q2, q3, q4⟩ := h4.pairs P w
  refine ⟨vs, q1, o, es.toArray, ep, hk a o h1, h2, h3, fun e he => q4 e (by simpa using he), by simpa using q2, ?_⟩
  rw [q3]
  have := d.nd
  have h5 : (kvs.map fun p => (Sum.inl p.1 : Key)) = (kvs.map (·.1)).map Sum.inl := by rw [List.map_map]; rfl
  rw [h5]
  exact List.Pairwise.map _ (fun x y hxy z => hxy (Sum.inl.inj z)) this
def KT (K : PySem.W.Frag) (a : Addr) (xs : List V) : Prop := ∃ (o : Obj) (its : Array Value) (n : Nat), K.lookup a = some o ∧ o.cls = .type "tuple" ∧ o.data = .seq its n ∧ its.size ≤ sizeLine ∧ Vals xs its.toList
theorem KT.sq {K : PySem.W.Frag} {a : Addr} {xs : List V} {H : Hp} (h : KT K a xs) : SqT K H a xs := .inr h
section
variable {X : Cx} {i o : Expr} {pos : Pos} {ty td : TE}
def tKGet (K : PySem.W.Frag) (td ty : TE) : TE := fun σ H Q => td σ H fun x H1 => ty σ H1 fun y H2 => ∃ a kvs z v, x = .ref a ∧ y = .int z ∧ KD K a kvs ∧ valV (kK kvs) (Sum.inl z) = some v ∧ Q v H2
def tKIn (K : PySem.W.Frag) (ty td : TE) : TE := fun σ H Q => ty σ H fun y H1 => td σ H1 fun x H2 => ∃ a kvs z, x = .ref a ∧ y = .int z ∧ KD K a kvs ∧ Q (.bl (valV (kK kvs) (Sum.inl z)).isSome) H2
def tKNotIn (K : PySem.W.Frag) (ty td : TE) : TE := fun σ H Q => ty σ H fun y H1 => td σ H1 fun x H2 => ∃ a kvs z, x = .ref a ∧ y = .int z ∧ KD K a kvs ∧ Q (.bl (!(valV (kK kvs) (Sum.inl z)).isSome)) H2
theorem pe_kget (ho : PE X o td) (hi : PE X i ty) (hs : NoSl i) : PE X (.Subscript o i pos) (tKGet X.K td ty) := by
  intro pins s σ H Q I h
  refine subD_of PySem.F.slot_dict_getitem.lookup hs (thn (ho pins s σ H _ I h) fun u s1 ⟨x, H1, I1, rx, q1⟩ => thn (hi pins s1 σ H1 _ I1 q1) fun iv s2 ⟨y, H2, I2, ry, a, kvs, z, v, ex, ey, kd, l, q2⟩ => ?_)
  subst ex ey
  obtain rfl : u = Value.ref a := rx
  obtain ⟨vs, rel, dd⟩ := kd.dict X.prog X.w I2.kIn
  obtain ⟨w', hw, rw'⟩ := RelO.some_of (v := v) (o := valueAt vs (Sum.inl z)) (by rw [← l]; exact rel.val (Sum.inl z))
  exact ⟨dd.typeIs, wpAny_getItem_of (kV_is (k := Sum.inl z) ry) dd.mapOf hw ⟨v, H2, I2.tok _, rw', q2⟩⟩
theorem pc_kin (hi : PE X i ty) (ho : PE X o td) : PC X .In i o (tKIn X.K ty td) := by
  intro pins s σ H Q I h
  refine thn (hi pins s σ H _ I h) fun iv s1 ⟨y, H1, I1, ry, q1⟩ => thn (ho pins s1 σ H1 _ I1 q1) fun u s2 ⟨x, H2, I2, rx, a, kvs, z, ex, ey, kd, q2⟩ => ?_
  subst ex ey
  obtain rfl : u = Value.ref a := rx
  obtain ⟨vs, rel, dd⟩ := kd.dict X.prog X.w I2.kIn
  refine wpAny_in_of (kV_is (k := Sum.inl z) ry) kd.sm dd.mapOf ?_
  rw [← (rel.val (Sum.inl z)).isSome_eq]
  exact ⟨.bl _, H2, I2.tok _, rfl, q2⟩
theorem pc_knotin (hi : PE X i ty) (ho : PE X o td) : PC X .NotIn i o (tKNotIn X.K ty td) := by
  intro pins s σ H Q I h
  refine thn (hi pins s σ H _ I h) fun iv s1 ⟨y, H1, I1, ry, q1⟩ => thn (ho pins s1 σ H1 _ I1 q1) fun u s2 ⟨x, H2, I2, rx, a, kvs, z, ex, ey, kd, q2⟩ => ?_
  subst ex ey
  obtain rfl : u = Value.ref a := rx
  obtain ⟨vs, rel, dd⟩ := kd.dict X.prog X.w I2.kIn
  refine wpAny_notIn_of (kV_is (k := Sum.inl z) ry) kd.sm dd.mapOf ?_
  rw [← (rel.val (Sum.inl z)).isSome_eq]
  exact ⟨.bl _, H2, I2.tok _, rfl, q2⟩
def rInsert : V → List V → Hp → VK → Prop := fun x vs H Q => ∃ l xs y, x = .ref l ∧ vs = [.int 0, y] ∧ H l = some (.lst xs) ∧ xs.length < sizeLine ∧ Q .non (upd H l (.lst (y :: xs)))
theorem mt_insert : MtM X "list.insert" rInsert := by
  intro pins s σ H x vs v us Q I rx rv h
  obtain ⟨l, xs, y, rfl, rfl, hH, hz, q⟩ := h
  cases rx
  obtain ⟨u0, u1, rfl, ⟨t0, rfl⟩, r1⟩ := vals2 rv
  obtain ⟨z, its, n, r, hl, e⟩ := I.lstM hH
  refine call_meets F.slot_list_insert ⟨_, e, rfl⟩ F.entry_list_insert (F.args_list_insert_3 _ _ _) (AutoSeq1.list_insert_list_int_val_1 l its.toArray n 0 t0 u1 (by decide) (by rw [List.size_toArray]; omega)) ⟨e, ?_⟩
  refine ⟨.non, _, I.lset (its' := u1 :: its) hH e ?_ (.cons r1 r) ?_, rfl, q⟩
  · simp
  · rw [List.length_cons]
    omega
end
def top (i : Nat) : Stmt := PySem.Challenge.pw_latepackets_s01_answers.main.body.getD i (.Pass ⟨0, 0, 0, 0⟩)
abbrev s_read_number : Stmt := top 5
abbrev s_write_number : Stmt := top 6
abbrev s_has_version : Stmt := top 7
abbrev s_has_padding : Stmt := top 8
abbrev s_padding_length : Stmt := top 9
abbrev s_Counting_init : Stmt := inClass (top 17) 0
abbrev s_Counting_whole_number : Stmt := inClass (top 17) 1
abbrev s_Counting_add_packet : Stmt := inClass (top 17) 2
abbrev s_Counting_how_many_expected : Stmt := inClass (top 17) 3
abbrev s_Counting_how_many_missing : Stmt := inClass (top 17) 4
abbrev s_Counting_share_lost_since_told : Stmt := inClass (top 17) 5
abbrev s_Counting_note_told : Stmt := inClass (top 17) 6
abbrev s_Counting_told_jitter : Stmt := inClass (top 17) 7
abbrev s_share_lost : Stmt := top 18
abbrev s_held_missing : Stmt := top 19
abbrev s_number_behind : Stmt := top 20
abbrev s_way_of : Stmt := top 21
abbrev s_way_change : Stmt := top 22
abbrev s_next_jitter : Stmt := top 23
abbrev s_Hearing_init : Stmt := inClass (top 25) 0
abbrev s_Hearing_note_part : Stmt := inClass (top 25) 1
abbrev s_Hearing_time_since_report : Stmt := inClass (top 25) 2
abbrev s_Packet_init : Stmt := inClass (top 31) 0
abbrev s_carried_start : Stmt := top 32
abbrev s_read_packet : Stmt := top 33
abbrev s_Part_init : Stmt := inClass (top 41) 0
abbrev s_Part_is_sender_report_of : Stmt := inClass (top 41) 1
abbrev s_Part_middle_of_time : Stmt := inClass (top 41) 2
abbrev s_Part_is_goodbye_of : Stmt := inClass (top 41) 3
abbrev s_Part_leaving : Stmt := inClass (top 41) 4
abbrev s_Part_is_right : Stmt := inClass (top 41) 5
abbrev s_Part_is_long_enough : Stmt := inClass (top 41) 6
abbrev s_padding_fits : Stmt := top 42
abbrev s_cut_part : Stmt := top 43
abbrev s_begins_rightly : Stmt := top 44
abbrev s_is_padded_rightly : Stmt := top 45
abbrev s_read_parts : Stmt := top 46
abbrev s_write_report : Stmt := top 48
abbrev s_write_block : Stmt := top 49
abbrev s_write_counts : Stmt := top 50
abbrev s_write_heard : Stmt := top 51
abbrev s_Waiting_init : Stmt := inClass (top 55) 0
abbrev s_Waiting_try_keep : Stmt := inClass (top 55) 1
abbrev s_Waiting_how_many : Stmt := inClass (top 55) 2
abbrev s_Waiting_due_waits : Stmt := inClass (top 55) 3
abbrev s_Waiting_take_due : Stmt := inClass (top 55) 4
abbrev s_Waiting_give_up_due : Stmt := inClass (top 55) 5
abbrev s_Receiver_init : Stmt := inClass (top 68) 0
abbrev s_Receiver_receive : Stmt := inClass (top 68) 1
abbrev s_Receiver_doubt : Stmt := inClass (top 68) 2
abbrev s_Receiver_begin_numbers : Stmt := inClass (top 68) 3
abbrev s_Receiver_keep_counted : Stmt := inClass (top 68) 4
abbrev s_Receiver_take : Stmt := inClass (top 68) 5
abbrev s_Receiver_report : Stmt := inClass (top 68) 6
abbrev s_Receiver_report_block : Stmt := inClass (top 68) 7
abbrev s_Receiver_hear : Stmt := inClass (top 68) 8
abbrev s_Receiver_tell : Stmt := inClass (top 68) 9
abbrev s_Receiver_told_counts : Stmt := inClass (top 68) 10
abbrev s_taken : Stmt := top 69
abbrev s_Desk_init : Stmt := inClass (top 82) 0
abbrev s_Desk_has_more : Stmt := inClass (top 82) 1
abbrev s_Desk_draw : Stmt := inClass (top 82) 2
abbrev s_Desk_draw_row : Stmt := inClass (top 82) 3
abbrev s_Desk_answer_call : Stmt := inClass (top 82) 4
abbrev s_Desk_answer_begin : Stmt := inClass (top 82) 5
abbrev s_Desk_answer_receive : Stmt := inClass (top 82) 6
abbrev s_Desk_answer_heard : Stmt := inClass (top 82) 7
abbrev s_answers : Stmt := top 83
theorem sc_read_number : FnScope ["octets", "start", "length", "number", "octet"] ["octets", "start", "length"] (defScope s_read_number) := ⟨rfl, rfl, rfl, by decide +kernel, rfl, by decide +kernel, by decide +kernel⟩
theorem sc_write_number : FnScope ["number", "length", "octets", "rest", "place"] ["number", "length"] (defScope s_write_number) := ⟨rfl, rfl, rfl, by decide +kernel, rfl, by decide +kernel, by decide +kernel⟩
theorem sc_has_version : FnScope ["octets"] ["octets"] (defScope s_has_version) := ⟨rfl, rfl, rfl, by decide +kernel, rfl, by decide +kernel, by decide +kernel⟩
theorem sc_has_padding : FnScope ["octets"] ["octets"] (defScope s_has_padding) := ⟨rfl, rfl, rfl, by decide +kernel, rfl, by decide +kernel, by decide +kernel⟩
theorem sc_padding_length : FnScope ["octets"] ["octets"] (defScope s_padding_length) := ⟨rfl, rfl, rfl, by decide +kernel, rfl, by decide +kernel, by decide +kernel⟩
theorem sc_Counting_init : FnScope ["self", "number", "way"] ["self", "number", "way"] (defScope s_Counting_init) := ⟨rfl, rfl, rfl, by decide +kernel, rfl, by decide +kernel, by decide +kernel⟩
theorem sc_Counting_whole_number : FnScope ["self", "number", "distance"] ["self", "number"] (defScope s_Counting_whole_number) := ⟨rfl, rfl, rfl, by decide +kernel, rfl, by decide +kernel, by decide +kernel⟩
theorem sc_Counting_add_packet : FnScope ["self", "whole", "way"] ["self", "whole", "way"] (defScope s_Counting_add_packet) := ⟨rfl, rfl, rfl, by decide +kernel, rfl, by decide +kernel, by decide +kernel⟩
theorem sc_Counting_how_many_expected : FnScope ["self"] ["self"] (defScope s_Counting_how_many_expected) := ⟨rfl, rfl, rfl, by decide +kernel, rfl, by decide +kernel, by decide +kernel⟩
theorem sc_Counting_how_many_missing : FnScope ["self"] ["self"] (defScope s_Counting_how_many_missing) := ⟨rfl, rfl, rfl, by decide +kernel, rfl, by decide +kernel, by decide +kernel⟩
theorem sc_Counting_share_lost_since_told : FnScope ["self"] ["self"] (defScope s_Counting_share_lost_since_told) := ⟨rfl, rfl, rfl, by decide +kernel, rfl, by decide +kernel, by decide +kernel⟩
theorem sc_Counting_note_told : FnScope ["self"] ["self"] (defScope s_Counting_note_told) := ⟨rfl, rfl, rfl, by decide +kernel, rfl, by decide +kernel, by decide +kernel⟩
theorem sc_Counting_told_jitter : FnScope ["self"] ["self"] (defScope s_Counting_told_jitter) := ⟨rfl, rfl, rfl, by decide +kernel, rfl, by decide +kernel, by decide +kernel⟩
theorem sc_share_lost : FnScope ["expected", "came"] ["expected", "came"] (defScope s_share_lost) := ⟨rfl, rfl, rfl, by decide +kernel, rfl, by decide +kernel, by decide +kernel⟩
theorem sc_held_missing : FnScope ["missing"] ["missing"] (defScope s_held_missing) := ⟨rfl, rfl, rfl, by decide +kernel, rfl, by decide +kernel, by decide +kernel⟩
theorem sc_number_behind : FnScope ["number"] ["number"] (defScope s_number_behind) := ⟨rfl, rfl, rfl, by decide +kernel, rfl, by decide +kernel, by decide +kernel⟩
theorem sc_way_of : FnScope ["arrival", "stamp"] ["arrival", "stamp"] (defScope s_way_of) := ⟨rfl, rfl, rfl, by decide +kernel, rfl, by decide +kernel, by decide +kernel⟩
theorem sc_way_change : FnScope ["before", "after", "change"] ["before", "after"] (defScope s_way_change) := ⟨rfl, rfl, rfl, by decide +kernel, rfl, by decide +kernel, by decide +kernel⟩
theorem sc_next_jitter : FnScope ["jitter", "change"] ["jitter", "change"] (defScope s_next_jitter) := ⟨rfl, rfl, rfl, by decide +kernel, rfl, by decide +kernel, by decide +kernel⟩
theorem sc_Hearing_init : FnScope ["self"] ["self"] (defScope s_Hearing_init) := ⟨rfl, rfl, rfl, by decide +kernel, rfl, by decide +kernel, by decide +kernel⟩
theorem sc_Hearing_note_part : FnScope ["self", "part", "source", "now"] ["self", "part", "source", "now"] (defScope s_Hearing_note_part) := ⟨rfl, rfl, rfl, by decide +kernel, rfl, by decide +kernel, by decide +kernel⟩
theorem sc_Hearing_time_since_report : FnScope ["self", "now"] ["self", "now"] (defScope s_Hearing_time_since_report) := ⟨rfl, rfl, rfl, by decide +kernel, rfl, by decide +kernel, by decide +kernel⟩
theorem sc_Packet_init : FnScope ["self", "octets", "carried"] ["self", "octets", "carried"] (defScope s_Packet_init) := ⟨rfl, rfl, rfl, by decide +kernel, rfl, by decide +kernel, by decide +kernel⟩
theorem sc_carried_start : FnScope ["octets", "start", "words"] ["octets"] (defScope s_carried_start) := ⟨rfl, rfl, rfl, by decide +kernel, rfl, by decide +kernel, by decide +kernel⟩
theorem sc_read_packet : FnScope ["octets", "padding", "start", "end"] ["octets"] (defScope s_read_packet) := ⟨rfl, rfl, rfl, by decide +kernel, rfl, by decide +kernel, by decide +kernel⟩
theorem sc_Part_init : FnScope ["self", "octets"] ["self", "octets"] (defScope s_Part_init) := ⟨rfl, rfl, rfl, by decide +kernel, rfl, by decide +kernel, by decide +kernel⟩
theorem sc_Part_is_sender_report_of : FnScope ["self", "source"] ["self", "source"] (defScope s_Part_is_sender_report_of) := ⟨rfl, rfl, rfl, by decide +kernel, rfl, by decide +kernel, by decide +kernel⟩
theorem sc_Part_middle_of_time : FnScope ["self"] ["self"] (defScope s_Part_middle_of_time) := ⟨rfl, rfl, rfl, by decide +kernel, rfl, by decide +kernel, by decide +kernel⟩
theorem sc_Part_is_goodbye_of : FnScope ["self", "source"] ["self", "source"] (defScope s_Part_is_goodbye_of) := ⟨rfl, rfl, rfl, by decide +kernel, rfl, by decide +kernel, by decide +kernel⟩
theorem sc_Part_leaving : FnScope ["self", "place"] ["self"] (defScope s_Part_leaving) := ⟨rfl, rfl, rfl, by decide +kernel, rfl, by decide +kernel, by decide +kernel⟩
theorem sc_Part_is_right : FnScope ["self"] ["self"] (defScope s_Part_is_right) := ⟨rfl, rfl, rfl, by decide +kernel, rfl, by decide +kernel, by decide +kernel⟩
theorem sc_Part_is_long_enough : FnScope ["self", "least"] ["self"] (defScope s_Part_is_long_enough) := ⟨rfl, rfl, rfl, by decide +kernel, rfl, by decide +kernel, by decide +kernel⟩
theorem sc_padding_fits : FnScope ["octets", "padding"] ["octets"] (defScope s_padding_fits) := ⟨rfl, rfl, rfl, by decide +kernel, rfl, by decide +kernel, by decide +kernel⟩
theorem sc_cut_part : FnScope ["octets", "start", "length", "end"] ["octets", "start"] (defScope s_cut_part) := ⟨rfl, rfl, rfl, by decide +kernel, rfl, by decide +kernel, by decide +kernel⟩
theorem sc_begins_rightly : FnScope ["parts"] ["parts"] (defScope s_begins_rightly) := ⟨rfl, rfl, rfl, by decide +kernel, rfl, by decide +kernel, by decide +kernel⟩
theorem sc_is_padded_rightly : FnScope ["parts", "unpadded", "part"] ["parts"] (defScope s_is_padded_rightly) := ⟨rfl, rfl, rfl, by decide +kernel, rfl, by decide +kernel, by decide +kernel⟩
theorem sc_read_parts : FnScope ["octets", "parts", "start", "part"] ["octets"] (defScope s_read_parts) := ⟨rfl, rfl, rfl, by decide +kernel, rfl, by decide +kernel, by decide +kernel⟩
theorem sc_write_report : FnScope ["own", "block", "entries", "body", "head"] ["own", "block"] (defScope s_write_report) := ⟨rfl, rfl, rfl, by decide +kernel, rfl, by decide +kernel, by decide +kernel⟩
theorem sc_write_block : FnScope ["source", "counting", "hearing", "now"] ["source", "counting", "hearing", "now"] (defScope s_write_block) := ⟨rfl, rfl, rfl, by decide +kernel, rfl, by decide +kernel, by decide +kernel⟩
theorem sc_write_counts : FnScope ["counting", "lost"] ["counting"] (defScope s_write_counts) := ⟨rfl, rfl, rfl, by decide +kernel, rfl, by decide +kernel, by decide +kernel⟩
theorem sc_write_heard : FnScope ["hearing", "now"] ["hearing", "now"] (defScope s_write_heard) := ⟨rfl, rfl, rfl, by decide +kernel, rfl, by decide +kernel, by decide +kernel⟩
theorem sc_Waiting_init : FnScope ["self", "first"] ["self", "first"] (defScope s_Waiting_init) := ⟨rfl, rfl, rfl, by decide +kernel, rfl, by decide +kernel, by decide +kernel⟩
theorem sc_Waiting_try_keep : FnScope ["self", "whole", "packet"] ["self", "whole", "packet"] (defScope s_Waiting_try_keep) := ⟨rfl, rfl, rfl, by decide +kernel, rfl, by decide +kernel, by decide +kernel⟩
theorem sc_Waiting_how_many : FnScope ["self"] ["self"] (defScope s_Waiting_how_many) := ⟨rfl, rfl, rfl, by decide +kernel, rfl, by decide +kernel, by decide +kernel⟩
theorem sc_Waiting_due_waits : FnScope ["self"] ["self"] (defScope s_Waiting_due_waits) := ⟨rfl, rfl, rfl, by decide +kernel, rfl, by decide +kernel, by decide +kernel⟩
theorem sc_Waiting_take_due : FnScope ["self", "packet"] ["self"] (defScope s_Waiting_take_due) := ⟨rfl, rfl, rfl, by decide +kernel, rfl, by decide +kernel, by decide +kernel⟩
theorem sc_Waiting_give_up_due : FnScope ["self"] ["self"] (defScope s_Waiting_give_up_due) := ⟨rfl, rfl, rfl, by decide +kernel, rfl, by decide +kernel, by decide +kernel⟩
theorem sc_Receiver_init : FnScope ["self", "own", "depth"] ["self", "own", "depth"] (defScope s_Receiver_init) := ⟨rfl, rfl, rfl, by decide +kernel, rfl, by decide +kernel, by decide +kernel⟩
theorem sc_Receiver_receive : FnScope ["self", "octets", "arrival", "packet", "way", "whole"] ["self", "octets", "arrival"] (defScope s_Receiver_receive) := ⟨rfl, rfl, rfl, by decide +kernel, rfl, by decide +kernel, by decide +kernel⟩
theorem sc_Receiver_doubt : FnScope ["self", "packet", "way"] ["self", "packet", "way"] (defScope s_Receiver_doubt) := ⟨rfl, rfl, rfl, by decide +kernel, rfl, by decide +kernel, by decide +kernel⟩
theorem sc_Receiver_begin_numbers : FnScope ["self", "number", "way"] ["self", "number", "way"] (defScope s_Receiver_begin_numbers) := ⟨rfl, rfl, rfl, by decide +kernel, rfl, by decide +kernel, by decide +kernel⟩
theorem sc_Receiver_keep_counted : FnScope ["self", "whole", "packet"] ["self", "whole", "packet"] (defScope s_Receiver_keep_counted) := ⟨rfl, rfl, rfl, by decide +kernel, rfl, by decide +kernel, by decide +kernel⟩
theorem sc_Receiver_take : FnScope ["self", "most", "whole"] ["self", "most"] (defScope s_Receiver_take) := ⟨rfl, rfl, rfl, by decide +kernel, rfl, by decide +kernel, by decide +kernel⟩
theorem sc_Receiver_report : FnScope ["self", "now", "octets"] ["self", "now"] (defScope s_Receiver_report) := ⟨rfl, rfl, rfl, by decide +kernel, rfl, by decide +kernel, by decide +kernel⟩
theorem sc_Receiver_report_block : FnScope ["self", "now", "block"] ["self", "now"] (defScope s_Receiver_report_block) := ⟨rfl, rfl, rfl, by decide +kernel, rfl, by decide +kernel, by decide +kernel⟩
theorem sc_Receiver_hear : FnScope ["self", "octets", "now", "parts", "part"] ["self", "octets", "now"] (defScope s_Receiver_hear) := ⟨rfl, rfl, rfl, by decide +kernel, rfl, by decide +kernel, by decide +kernel⟩
theorem sc_Receiver_tell : FnScope ["self"] ["self"] (defScope s_Receiver_tell) := ⟨rfl, rfl, rfl, by decide +kernel, rfl, by decide +kernel, by decide +kernel⟩
theorem sc_Receiver_told_counts : FnScope ["self", "counting", "told"] ["self"] (defScope s_Receiver_told_counts) := ⟨rfl, rfl, rfl, by decide +kernel, rfl, by decide +kernel, by decide +kernel⟩
theorem sc_taken : FnScope ["whole", "packet", "told"] ["whole", "packet"] (defScope s_taken) := ⟨rfl, rfl, rfl, by decide +kernel, rfl, by decide +kernel, by decide +kernel⟩
theorem sc_Desk_init : FnScope ["self", "calls"] ["self", "calls"] (defScope s_Desk_init) := ⟨rfl, rfl, rfl, by decide +kernel, rfl, by decide +kernel, by decide +kernel⟩
theorem sc_Desk_has_more : FnScope ["self"] ["self"] (defScope s_Desk_has_more) := ⟨rfl, rfl, rfl, by decide +kernel, rfl, by decide +kernel, by decide +kernel⟩
theorem sc_Desk_draw : FnScope ["self", "drawn"] ["self"] (defScope s_Desk_draw) := ⟨rfl, rfl, rfl, by decide +kernel, rfl, by decide +kernel, by decide +kernel⟩
theorem sc_Desk_draw_row : FnScope ["self", "length", "row"] ["self"] (defScope s_Desk_draw_row) := ⟨rfl, rfl, rfl, by decide +kernel, rfl, by decide +kernel, by decide +kernel⟩
theorem sc_Desk_answer_call : FnScope ["self", "call"] ["self"] (defScope s_Desk_answer_call) := ⟨rfl, rfl, rfl, by decide +kernel, rfl, by decide +kernel, by decide +kernel⟩
theorem sc_Desk_answer_begin : FnScope ["self", "own", "depth"] ["self"] (defScope s_Desk_answer_begin) := ⟨rfl, rfl, rfl, by decide +kernel, rfl, by decide +kernel, by decide +kernel⟩
theorem sc_Desk_answer_receive : FnScope ["self", "arrival", "octets"] ["self"] (defScope s_Desk_answer_receive) := ⟨rfl, rfl, rfl, by decide +kernel, rfl, by decide +kernel, by decide +kernel⟩
theorem sc_Desk_answer_heard : FnScope ["self", "now", "octets"] ["self"] (defScope s_Desk_answer_heard) := ⟨rfl, rfl, rfl, by decide +kernel, rfl, by decide +kernel, by decide +kernel⟩
theorem sc_answers : FnScope ["calls", "desk", "answered", "answer"] ["calls"] (defScope s_answers) := ⟨rfl, rfl, rfl, by decide +kernel, rfl, by decide +kernel, by decide +kernel⟩
theorem lk_hit (f : Str) (v : V) (r : List (Str × V)) : List.lookup f ((f, v) :: r) = some v := by simp [List.lookup]
theorem lk_miss {f g : Str} (h : (f == g) = false) (v : V) (r : List (Str × V)) : List.lookup f ((g, v) :: r) = List.lookup f r := by simp [List.lookup, h]
theorem pf_hit (f : Str) (v y : V) (r : List (Str × V)) : putF f y ((f, v) :: r) = (f, y) :: r := by show (if f = f then _ else _) = _; rw [if_pos rfl]
theorem pf_miss {f g : Str} (h : ¬ g = f) (v y : V) (r : List (Str × V)) : putF f y ((g, v) :: r) = (g, v) :: putF f y r := by show (if g = f then _ else _) = _; rw [if_neg h]
def fs_Counting (v0 v1 v2 v3 v4 v5 v6 : V) : List (Str × V) := [("first", v0), ("greatest", v1), ("came", v2), ("jitter", v3), ("way", v4), ("told_expected", v5), ("told_came", v6)]
theorem get_Counting_first {v0 v1 v2 v3 v4 v5 v6 : V} : (fs_Counting v0 v1 v2 v3 v4 v5 v6).lookup ("first" : Str) = some v0 := lk_hit _ _ _
theorem put_Counting_first {v0 v1 v2 v3 v4 v5 v6 y : V} : putF "first" y (fs_Counting v0 v1 v2 v3 v4 v5 v6) = fs_Counting y v1 v2 v3 v4 v5 v6 := by
  unfold fs_Counting
  rw [pf_hit]
theorem get_Counting_greatest {v0 v1 v2 v3 v4 v5 v6 : V} : (fs_Counting v0 v1 v2 v3 v4 v5 v6).lookup ("greatest" : Str) = some v1 := (lk_miss (by decide +kernel) _ _).trans (lk_hit _ _ _)
theorem put_Counting_greatest {v0 v1 v2 v3 v4 v5 v6 y : V} : putF "greatest" y (fs_Counting v0 v1 v2 v3 v4 v5 v6) = fs_Counting v0 y v2 v3 v4 v5 v6 := by
  unfold fs_Counting
  rw [pf_miss (g := "first") (f := "greatest") (by decide +kernel), pf_hit]
theorem get_Counting_came {v0 v1 v2 v3 v4 v5 v6 : V} : (fs_Counting v0 v1 v2 v3 v4 v5 v6).lookup ("came" : Str) = some v2 := (lk_miss (by decide +kernel) _ _).trans ((lk_miss (by decide +kernel) _ _).trans (lk_hit _ _ _))
theorem put_Counting_came {v0 v1 v2 v3 v4 v5 v6 y : V} : putF "came" y (fs_Counting v0 v1 v2 v3 v4 v5 v6) = fs_Counting v0 v1 y v3 v4 v5 v6 := by
  unfold fs_Counting
  rw [pf_miss (g := "first") (f := "came") (by decide +kernel), pf_miss (g := "greatest") (f := "came") (by decide +kernel), pf_hit]
theorem get_Counting_jitter {v0 v1 v2 v3 v4 v5 v6 : V} : (fs_Counting v0 v1 v2 v3 v4 v5 v6).lookup ("jitter" : Str) = some v3 := (lk_miss (by decide +kernel) _ _).trans ((lk_miss (by decide +kernel) _ _).trans ((lk_miss (by decide +kernel) _ _).trans (lk_hit _ _ _)))
theorem put_Counting_jitter {v0 v1 v2 v3 v4 v5 v6 y : V} : putF "jitter" y (fs_Counting v0 v1 v2 v3 v4 v5 v6) = fs_Counting v0 v1 v2 y v4 v5 v6 := by
  unfold fs_Counting
  rw [pf_miss (g := "first") (f := "jitter") (by decide +kernel), pf_miss (g := "greatest") (f := "jitter") (by decide +kernel), pf_miss (g := "came") (f := "jitter") (by decide +kernel), pf_hit]
theorem get_Counting_way {v0 v1 v2 v3 v4 v5 v6 : V} : (fs_Counting v0 v1 v2 v3 v4 v5 v6).lookup ("way" : Str) = some v4 := (lk_miss (by decide +kernel) _ _).trans ((lk_miss (by decide +kernel) _ _).trans ((lk_miss (by decide +kernel) _ _).trans ((lk_miss (by decide +kernel) _ _).trans (lk_hit _ _ _))))
theorem put_Counting_way {v0 v1 v2 v3 v4 v5 v6 y : V} : putF "way" y (fs_Counting v0 v1 v2 v3 v4 v5 v6) = fs_Counting v0 v1 v2 v3 y v5 v6 := by
  unfold fs_Counting
  rw [pf_miss (g := "first") (f := "way") (by decide +kernel), pf_miss (g := "greatest") (f := "way") (by decide +kernel), pf_miss (g := "came") (f := "way") (by decide +kernel), pf_miss (g := "jitter") (f := "way") (by decide +kernel), pf_hit]
theorem get_Counting_told_expected {v0 v1 v2 v3 v4 v5 v6 : V} : (fs_Counting v0 v1 v2 v3 v4 v5 v6).lookup ("told_expected" : Str) = some v5 := (lk_miss (by decide +kernel) _ _).trans ((lk_miss (by decide +kernel) _ _).trans ((lk_miss (by decide +kernel) _ _).trans ((lk_miss (by decide +kernel) _ _).trans ((lk_miss (by decide +kernel) _ _).trans (lk_hit _ _ _)))))
theorem put_Counting_told_expected {v0 v1 v2 v3 v4 v5 v6 y : V} : putF "told_expected" y (fs_Counting v0 v1 v2 v3 v4 v5 v6) = fs_Counting v0 v1 v2 v3 v4 y v6 := by
  unfold fs_Counting
  rw [pf_miss (g := "first") (f := "told_expected") (by decide +kernel), pf_miss (g := "greatest") (f := "told_expected") (by decide +kernel), pf_miss (g := "came") (f := "told_expected") (by decide +kernel), pf_miss (g := "jitter") (f := "told_expected") (by decide +kernel), pf_miss (g := "way") (f := "told_expected") (by decide +kernel), pf_hit]
theorem get_Counting_told_came {v0 v1 v2 v3 v4 v5 v6 : V} : (fs_Counting v0 v1 v2 v3 v4 v5 v6).lookup ("told_came" : Str) = some v6 := (lk_miss (by decide +kernel) _ _).trans ((lk_miss (by decide +kernel) _ _).trans ((lk_miss (by decide +kernel) _ _).trans ((lk_miss (by decide +kernel) _ _).trans ((lk_miss (by decide +kernel) _ _).trans ((lk_miss (by decide +kernel) _ _).trans (lk_hit _ _ _))))))
theorem put_Counting_told_came {v0 v1 v2 v3 v4 v5 v6 y : V} : putF "told_came" y (fs_Counting v0 v1 v2 v3 v4 v5 v6) = fs_Counting v0 v1 v2 v3 v4 v5 y := by
  unfold fs_Counting
  rw [pf_miss (g := "first") (f := "told_came") (by decide +kernel), pf_miss (g := "greatest") (f := "told_came") (by decide +kernel), pf_miss (g := "came") (f := "told_came") (by decide +kernel), pf_miss (g := "jitter") (f := "told_came") (by decide +kernel), pf_miss (g := "way") (f := "told_came") (by decide +kernel), pf_miss (g := "told_expected") (f := "told_came") (by decide +kernel), pf_hit]
theorem made_Counting {v0 v1 v2 v3 v4 v5 v6 : V} : (putF "told_came" v6 (putF "told_expected" v5 (putF "way" v4 (putF "jitter" v3 (putF "came" v2 (putF "greatest" v1 (putF "first" v0 []))))))) = fs_Counting v0 v1 v2 v3 v4 v5 v6 := by
  unfold fs_Counting
  rw [show putF "first" v0 ([] : List (Str × V)) = ([("first", v0)] : List (Str × V)) from rfl]
  rw [show putF "greatest" v1 ([("first", v0)] : List (Str × V)) = ([("first", v0), ("greatest", v1)] : List (Str × V)) from by rw [pf_miss (g := "first") (f := "greatest") (by decide +kernel)]; rfl]
  rw [show putF "came" v2 ([("first", v0), ("greatest", v1)] : List (Str × V)) = ([("first", v0), ("greatest", v1), ("came", v2)] : List (Str × V)) from by rw [pf_miss (g := "first") (f := "came") (by decide +kernel), pf_miss (g := "greatest") (f := "came") (by decide +kernel)]; rfl]
  rw [show putF "jitter" v3 ([("first", v0), ("greatest", v1), ("came", v2)] : List (Str × V)) = ([("first", v0), ("greatest", v1), ("came", v2), ("jitter", v3)] : List (Str × V)) from by rw [pf_miss (g := "first") (f := "jitter") (by decide +kernel), pf_miss (g := "greatest") (f := "jitter") (by decide +kernel), pf_miss (g := "came") (f := "jitter") (by decide +kernel)]; rfl]
  rw [show putF "way" v4 ([("first", v0), ("greatest", v1), ("came", v2), ("jitter", v3)] : List (Str × V)) = ([("first", v0), ("greatest", v1), ("came", v2), ("jitter", v3), ("way", v4)] : List (Str × V)) from by rw [pf_miss (g := "first") (f := "way") (by decide +kernel), pf_miss (g := "greatest") (f := "way") (by decide +kernel), pf_miss (g := "came") (f := "way") (by decide +kernel), pf_miss (g := "jitter") (f := "way") (by decide +kernel)]; rfl]
  rw [show putF "told_expected" v5 ([("first", v0), ("greatest", v1), ("came", v2), ("jitter", v3), ("way", v4)] : List (Str × V)) = ([("first", v0), ("greatest", v1), ("came", v2), ("jitter", v3), ("way", v4), ("told_expected", v5)] : List (Str × V)) from by rw [pf_miss (g := "first") (f := "told_expected") (by decide +kernel), pf_miss (g := "greatest") (f := "told_expected") (by decide +kernel), pf_miss (g := "came") (f := "told_expected") (by decide +kernel), pf_miss (g := "jitter") (f := "told_expected") (by decide +kernel), pf_miss (g := "way") (f := "told_expected") (by decide +kernel)]; rfl]
  rw [show putF "told_came" v6 ([("first", v0), ("greatest", v1), ("came", v2), ("jitter", v3), ("way", v4), ("told_expected", v5)] : List (Str × V)) = ([("first", v0), ("greatest", v1), ("came", v2), ("jitter", v3), ("way", v4), ("told_expected", v5), ("told_came", v6)] : List (Str × V)) from by rw [pf_miss (g := "first") (f := "told_came") (by decide +kernel), pf_miss (g := "greatest") (f := "told_came") (by decide +kernel), pf_miss (g := "came") (f := "told_came") (by decide +kernel), pf_miss (g := "jitter") (f := "told_came") (by decide +kernel), pf_miss (g := "way") (f := "told_came") (by decide +kernel), pf_miss (g := "told_expected") (f := "told_came") (by decide +kernel)]; rfl]
theorem len_Counting {v0 v1 v2 v3 v4 v5 v6 : V} : (fs_Counting v0 v1 v2 v3 v4 v5 v6).length < 1000 := by show 7 < 1000; decide
theorem no_Counting_whole_number {v0 v1 v2 v3 v4 v5 v6 : V} : (fs_Counting v0 v1 v2 v3 v4 v5 v6).lookup ("whole_number" : Str) = none := (lk_miss (by decide +kernel) _ _).trans ((lk_miss (by decide +kernel) _ _).trans ((lk_miss (by decide +kernel) _ _).trans ((lk_miss (by decide +kernel) _ _).trans ((lk_miss (by decide +kernel) _ _).trans ((lk_miss (by decide +kernel) _ _).trans ((lk_miss (by decide +kernel) _ _).trans (rfl)))))))
theorem no_Counting_add_packet {v0 v1 v2 v3 v4 v5 v6 : V} : (fs_Counting v0 v1 v2 v3 v4 v5 v6).lookup ("add_packet" : Str) = none := (lk_miss (by decide +kernel) _ _).trans ((lk_miss (by decide +kernel) _ _).trans ((lk_miss (by decide +kernel) _ _).trans ((lk_miss (by decide +kernel) _ _).trans ((lk_miss (by decide +kernel) _ _).trans ((lk_miss (by decide +kernel) _ _).trans ((lk_miss (by decide +kernel) _ _).trans (rfl)))))))
theorem no_Counting_how_many_expected {v0 v1 v2 v3 v4 v5 v6 : V} : (fs_Counting v0 v1 v2 v3 v4 v5 v6).lookup ("how_many_expected" : Str) = none := (lk_miss (by decide +kernel) _ _).trans ((lk_miss (by decide +kernel) _ _).trans ((lk_miss (by decide +kernel) _ _).trans ((lk_miss (by decide +kernel) _ _).trans ((lk_miss (by decide +kernel) _ _).trans ((lk_miss (by decide +kernel) _ _).trans ((lk_miss (by decide +kernel) _ _).trans (rfl)))))))
theorem no_Counting_how_many_missing {v0 v1 v2 v3 v4 v5 v6 : V} : (fs_Counting v0 v1 v2 v3 v4 v5 v6).lookup ("how_many_missing" : Str) = none := (lk_miss (by decide +kernel) _ _).trans ((lk_miss (by decide +kernel) _ _).trans ((lk_miss (by decide +kernel) _ _).trans ((lk_miss (by decide +kernel) _ _).trans ((lk_miss (by decide +kernel) _ _).trans ((lk_miss (by decide +kernel) _ _).trans ((lk_miss (by decide +kernel) _ _).trans (rfl)))))))
theorem no_Counting_share_lost_since_told {v0 v1 v2 v3 v4 v5 v6 : V} : (fs_Counting v0 v1 v2 v3 v4 v5 v6).lookup ("share_lost_since_told" : Str) = none := (lk_miss (by decide +kernel) _ _).trans ((lk_miss (by decide +kernel) _ _).trans ((lk_miss (by decide +kernel) _ _).trans ((lk_miss (by decide +kernel) _ _).trans ((lk_miss (by decide +kernel) _ _).trans ((lk_miss (by decide +kernel) _ _).trans ((lk_miss (by decide +kernel) _ _).trans (rfl)))))))
theorem no_Counting_note_told {v0 v1 v2 v3 v4 v5 v6 : V} : (fs_Counting v0 v1 v2 v3 v4 v5 v6).lookup ("note_told" : Str) = none := (lk_miss (by decide +kernel) _ _).trans ((lk_miss (by decide +kernel) _ _).trans ((lk_miss (by decide +kernel) _ _).trans ((lk_miss (by decide +kernel) _ _).trans ((lk_miss (by decide +kernel) _ _).trans ((lk_miss (by decide +kernel) _ _).trans ((lk_miss (by decide +kernel) _ _).trans (rfl)))))))
theorem no_Counting_told_jitter {v0 v1 v2 v3 v4 v5 v6 : V} : (fs_Counting v0 v1 v2 v3 v4 v5 v6).lookup ("told_jitter" : Str) = none := (lk_miss (by decide +kernel) _ _).trans ((lk_miss (by decide +kernel) _ _).trans ((lk_miss (by decide +kernel) _ _).trans ((lk_miss (by decide +kernel) _ _).trans ((lk_miss (by decide +kernel) _ _).trans ((lk_miss (by decide +kernel) _ _).trans ((lk_miss (by decide +kernel) _ _).trans (rfl)))))))
def fs_Hearing (v0 v1 v2 : V) : List (Str × V) := [("middle", v0), ("heard_at", v1), ("goodbye", v2)]
theorem get_Hearing_middle {v0 v1 v2 : V} : (fs_Hearing v0 v1 v2).lookup ("middle" : Str) = some v0 := lk_hit _ _ _
theorem put_Hearing_middle {v0 v1 v2 y : V} : putF "middle" y (fs_Hearing v0 v1 v2) = fs_Hearing y v1 v2 := by
  unfold fs_Hearing
  rw [pf_hit]
theorem get_Hearing_heard_at {v0 v1 v2 : V} : (fs_Hearing v0 v1 v2).lookup ("heard_at" : Str) = some v1 := (lk_miss (by decide +kernel) _ _).trans (lk_hit _ _ _)
theorem put_Hearing_heard_at {v0 v1 v2 y : V} : putF "heard_at" y (fs_Hearing v0 v1 v2) = fs_Hearing v0 y v2 := by
  unfold fs_Hearing
  rw [pf_miss (g := "middle") (f := "heard_at") (by decide +kernel), pf_hit]
theorem get_Hearing_goodbye {v0 v1 v2 : V} : (fs_Hearing v0 v1 v2).lookup ("goodbye" : Str) = some v2 := (lk_miss (by decide +kernel) _ _).trans ((lk_miss (by decide +kernel) _ _).trans (lk_hit _ _ _))
theorem put_Hearing_goodbye {v0 v1 v2 y : V} : putF "goodbye" y (fs_Hearing v0 v1 v2) = fs_Hearing v0 v1 y := by
  unfold fs_Hearing
  rw [pf_miss (g := "middle") (f := "goodbye") (by decide +kernel), pf_miss (g := "heard_at") (f := "goodbye") (by decide +kernel), pf_hit]
theorem made_Hearing {v0 v1 v2 : V} : (putF "goodbye" v2 (putF "heard_at" v1 (putF "middle" v0 []))) = fs_Hearing v0 v1 v2 := by
  unfold fs_Hearing
  rw [show putF "middle" v0 ([] : List (Str × V)) = ([("middle", v0)] : List (Str × V)) from rfl]
  rw [show putF "heard_at" v1 ([("middle", v0)] : List (Str × V)) = ([("middle", v0), ("heard_at", v1)] : List (Str × V)) from by rw [pf_miss (g := "middle") (f := "heard_at") (by decide +kernel)]; rfl]
  rw [show putF "goodbye" v2 ([("middle", v0), ("heard_at", v1)] : List (Str × V)) = ([("middle", v0), ("heard_at", v1), ("goodbye", v2)] : List (Str × V)) from by rw [pf_miss (g := "middle") (f := "goodbye") (by decide +kernel), pf_miss (g := "heard_at") (f := "goodbye") (by decide +kernel)]; rfl]
theorem len_Hearing {v0 v1 v2 : V} : (fs_Hearing v0 v1 v2).length < 1000 := by show 3 < 1000; decide
theorem no_Hearing_note_part {v0 v1 v2 : V} : (fs_Hearing v0 v1 v2).lookup ("note_part" : Str) = none := (lk_miss (by decide +kernel) _ _).trans ((lk_miss (by decide +kernel) _ _).trans ((lk_miss (by decide +kernel) _ _).trans (rfl)))
theorem no_Hearing_time_since_report {v0 v1 v2 : V} : (fs_Hearing v0 v1 v2).lookup ("time_since_report" : Str) = none := (lk_miss (by decide +kernel) _ _).trans ((lk_miss (by decide +kernel) _ _).trans ((lk_miss (by decide +kernel) _ _).trans (rfl)))
def fs_Packet (v0 v1 v2 v3 v4 v5 : V) : List (Str × V) := [("mark", v0), ("kind", v1), ("number", v2), ("stamp", v3), ("source", v4), ("carried", v5)]
theorem get_Packet_mark {v0 v1 v2 v3 v4 v5 : V} : (fs_Packet v0 v1 v2 v3 v4 v5).lookup ("mark" : Str) = some v0 := lk_hit _ _ _
theorem put_Packet_mark {v0 v1 v2 v3 v4 v5 y : V} : putF "mark" y (fs_Packet v0 v1 v2 v3 v4 v5) = fs_Packet y v1 v2 v3 v4 v5 := by
  unfold fs_Packet
  rw [pf_hit]
theorem get_Packet_kind {v0 v1 v2 v3 v4 v5 : V} : (fs_Packet v0 v1 v2 v3 v4 v5).lookup ("kind" : Str) = some v1 := (lk_miss (by decide +kernel) _ _).trans (lk_hit _ _ _)
theorem put_Packet_kind {v0 v1 v2 v3 v4 v5 y : V} : putF "kind" y (fs_Packet v0 v1 v2 v3 v4 v5) = fs_Packet v0 y v2 v3 v4 v5 := by
  unfold fs_Packet
  rw [pf_miss (g := "mark") (f := "kind") (by decide +kernel), pf_hit]
theorem get_Packet_number {v0 v1 v2 v3 v4 v5 : V} : (fs_Packet v0 v1 v2 v3 v4 v5).lookup ("number" : Str) = some v2 := (lk_miss (by decide +kernel) _ _).trans ((lk_miss (by decide +kernel) _ _).trans (lk_hit _ _ _))
theorem put_Packet_number {v0 v1 v2 v3 v4 v5 y : V} : putF "number" y (fs_Packet v0 v1 v2 v3 v4 v5) = fs_Packet v0 v1 y v3 v4 v5 := by
  unfold fs_Packet
  rw [pf_miss (g := "mark") (f := "number") (by decide +kernel), pf_miss (g := "kind") (f := "number") (by decide +kernel), pf_hit]
theorem get_Packet_stamp {v0 v1 v2 v3 v4 v5 : V} : (fs_Packet v0 v1 v2 v3 v4 v5).lookup ("stamp" : Str) = some v3 := (lk_miss (by decide +kernel) _ _).trans ((lk_miss (by decide +kernel) _ _).trans ((lk_miss (by decide +kernel) _ _).trans (lk_hit _ _ _)))
theorem put_Packet_stamp {v0 v1 v2 v3 v4 v5 y : V} : putF "stamp" y (fs_Packet v0 v1 v2 v3 v4 v5) = fs_Packet v0 v1 v2 y v4 v5 := by
  unfold fs_Packet
  rw [pf_miss (g := "mark") (f := "stamp") (by decide +kernel), pf_miss (g := "kind") (f := "stamp") (by decide +kernel), pf_miss (g := "number") (f := "stamp") (by decide +kernel), pf_hit]
theorem get_Packet_source {v0 v1 v2 v3 v4 v5 : V} : (fs_Packet v0 v1 v2 v3 v4 v5).lookup ("source" : Str) = some v4 := (lk_miss (by decide +kernel) _ _).trans ((lk_miss (by decide +kernel) _ _).trans ((lk_miss (by decide +kernel) _ _).trans ((lk_miss (by decide +kernel) _ _).trans (lk_hit _ _ _))))
theorem put_Packet_source {v0 v1 v2 v3 v4 v5 y : V} : putF "source" y (fs_Packet v0 v1 v2 v3 v4 v5) = fs_Packet v0 v1 v2 v3 y v5 := by
  unfold fs_Packet
  rw [pf_miss (g := "mark") (f := "source") (by decide +kernel), pf_miss (g := "kind") (f := "source") (by decide +kernel), pf_miss (g := "number") (f := "source") (by decide +kernel), pf_miss (g := "stamp") (f := "source") (by decide +kernel), pf_hit]
theorem get_Packet_carried {v0 v1 v2 v3 v4 v5 : V} : (fs_Packet v0 v1 v2 v3 v4 v5).lookup ("carried" : Str) = some v5 := (lk_miss (by decide +kernel) _ _).trans ((lk_miss (by decide +kernel) _ _).trans ((lk_miss (by decide +kernel) _ _).trans ((lk_miss (by decide +kernel) _ _).trans ((lk_miss (by decide +kernel) _ _).trans (lk_hit _ _ _)))))
theorem put_Packet_carried {v0 v1 v2 v3 v4 v5 y : V} : putF "carried" y (fs_Packet v0 v1 v2 v3 v4 v5) = fs_Packet v0 v1 v2 v3 v4 y := by
  unfold fs_Packet
  rw [pf_miss (g := "mark") (f := "carried") (by decide +kernel), pf_miss (g := "kind") (f := "carried") (by decide +kernel), pf_miss (g := "number") (f := "carried") (by decide +kernel), pf_miss (g := "stamp") (f := "carried") (by decide +kernel), pf_miss (g := "source") (f := "carried") (by decide +kernel), pf_hit]
theorem made_Packet {v0 v1 v2 v3 v4 v5 : V} : (putF "carried" v5 (putF "source" v4 (putF "stamp" v3 (putF "number" v2 (putF "kind" v1 (putF "mark" v0 [])))))) = fs_Packet v0 v1 v2 v3 v4 v5 := by
  unfold fs_Packet
  rw [show putF "mark" v0 ([] : List (Str × V)) = ([("mark", v0)] : List (Str × V)) from rfl]
  rw [show putF "kind" v1 ([("mark", v0)] : List (Str × V)) = ([("mark", v0), ("kind", v1)] : List (Str × V)) from by rw [pf_miss (g := "mark") (f := "kind") (by decide +kernel)]; rfl]
  rw [show putF "number" v2 ([("mark", v0), ("kind", v1)] : List (Str × V)) = ([("mark", v0), ("kind", v1), ("number", v2)] : List (Str × V)) from by rw [pf_miss (g := "mark") (f := "number") (by decide +kernel), pf_miss (g := "kind") (f := "number") (by decide +kernel)]; rfl]
  rw [show putF "stamp" v3 ([("mark", v0), ("kind", v1), ("number", v2)] : List (Str × V)) = ([("mark", v0), ("kind", v1), ("number", v2), ("stamp", v3)] : List (Str × V)) from by rw [pf_miss (g := "mark") (f := "stamp") (by decide +kernel), pf_miss (g := "kind") (f := "stamp") (by decide +kernel), pf_miss (g := "number") (f := "stamp") (by decide +kernel)]; rfl]
  rw [show putF "source" v4 ([("mark", v0), ("kind", v1), ("number", v2), ("stamp", v3)] : List (Str × V)) = ([("mark", v0), ("kind", v1), ("number", v2), ("stamp", v3), ("source", v4)] : List (Str × V)) from by rw [pf_miss (g := "mark") (f := "source") (by decide +kernel), pf_miss (g := "kind") (f := "source") (by decide +kernel), pf_miss (g := "number") (f := "source") (by decide +kernel), pf_miss (g := "stamp") (f := "source") (by decide +kernel)]; rfl]
  rw [show putF "carried" v5 ([("mark", v0), ("kind", v1), ("number", v2), ("stamp", v3), ("source", v4)] : List (Str × V)) = ([("mark", v0), ("kind", v1), ("number", v2), ("stamp", v3), ("source", v4), ("carried", v5)] : List (Str × V)) from by rw [pf_miss (g := "mark") (f := "carried") (by decide +kernel), pf_miss (g := "kind") (f := "carried") (by decide +kernel), pf_miss (g := "number") (f := "carried") (by decide +kernel), pf_miss (g := "stamp") (f := "carried") (by decide +kernel), pf_miss (g := "source") (f := "carried") (by decide +kernel)]; rfl]
theorem len_Packet {v0 v1 v2 v3 v4 v5 : V} : (fs_Packet v0 v1 v2 v3 v4 v5).length < 1000 := by show 6 < 1000; decide
def fs_Part (v0 v1 v2 : V) : List (Str × V) := [("octets", v0), ("kind", v1), ("entries", v2)]
theorem get_Part_octets {v0 v1 v2 : V} : (fs_Part v0 v1 v2).lookup ("octets" : Str) = some v0 := lk_hit _ _ _
theorem put_Part_octets {v0 v1 v2 y : V} : putF "octets" y (fs_Part v0 v1 v2) = fs_Part y v1 v2 := by
  unfold fs_Part
  rw [pf_hit]
theorem get_Part_kind {v0 v1 v2 : V} : (fs_Part v0 v1 v2).lookup ("kind" : Str) = some v1 := (lk_miss (by decide +kernel) _ _).trans (lk_hit _ _ _)
theorem put_Part_kind {v0 v1 v2 y : V} : putF "kind" y (fs_Part v0 v1 v2) = fs_Part v0 y v2 := by
  unfold fs_Part
  rw [pf_miss (g := "octets") (f := "kind") (by decide +kernel), pf_hit]
theorem get_Part_entries {v0 v1 v2 : V} : (fs_Part v0 v1 v2).lookup ("entries" : Str) = some v2 := (lk_miss (by decide +kernel) _ _).trans ((lk_miss (by decide +kernel) _ _).trans (lk_hit _ _ _))
theorem put_Part_entries {v0 v1 v2 y : V} : putF "entries" y (fs_Part v0 v1 v2) = fs_Part v0 v1 y := by
  unfold fs_Part
  rw [pf_miss (g := "octets") (f := "entries") (by decide +kernel), pf_miss (g := "kind") (f := "entries") (by decide +kernel), pf_hit]
theorem made_Part {v0 v1 v2 : V} : (putF "entries" v2 (putF "kind" v1 (putF "octets" v0 []))) = fs_Part v0 v1 v2 := by
  unfold fs_Part
  rw [show putF "octets" v0 ([] : List (Str × V)) = ([("octets", v0)] : List (Str × V)) from rfl]
  rw [show putF "kind" v1 ([("octets", v0)] : List (Str × V)) = ([("octets", v0), ("kind", v1)] : List (Str × V)) from by rw [pf_miss (g := "octets") (f := "kind") (by decide +kernel)]; rfl]
  rw [show putF "entries" v2 ([("octets", v0), ("kind", v1)] : List (Str × V)) = ([("octets", v0), ("kind", v1), ("entries", v2)] : List (Str × V)) from by rw [pf_miss (g := "octets") (f := "entries") (by decide +kernel), pf_miss (g := "kind") (f := "entries") (by decide +kernel)]; rfl]
theorem len_Part {v0 v1 v2 : V} : (fs_Part v0 v1 v2).length < 1000 := by show 3 < 1000; decide
theorem no_Part_is_sender_report_of {v0 v1 v2 : V} : (fs_Part v0 v1 v2).lookup ("is_sender_report_of" : Str) = none := (lk_miss (by decide +kernel) _ _).trans ((lk_miss (by decide +kernel) _ _).trans ((lk_miss (by decide +kernel) _ _).trans (rfl)))
theorem no_Part_middle_of_time {v0 v1 v2 : V} : (fs_Part v0 v1 v2).lookup ("middle_of_time" : Str) = none := (lk_miss (by decide +kernel) _ _).trans ((lk_miss (by decide +kernel) _ _).trans ((lk_miss (by decide +kernel) _ _).trans (rfl)))
theorem no_Part_is_goodbye_of {v0 v1 v2 : V} : (fs_Part v0 v1 v2).lookup ("is_goodbye_of" : Str) = none := (lk_miss (by decide +kernel) _ _).trans ((lk_miss (by decide +kernel) _ _).trans ((lk_miss (by decide +kernel) _ _).trans (rfl)))
theorem no_Part_leaving {v0 v1 v2 : V} : (fs_Part v0 v1 v2).lookup ("leaving" : Str) = none := (lk_miss (by decide +kernel) _ _).trans ((lk_miss (by decide +kernel) _ _).trans ((lk_miss (by decide +kernel) _ _).trans (rfl)))
theorem no_Part_is_right {v0 v1 v2 : V} : (fs_Part v0 v1 v2).lookup ("is_right" : Str) = none := (lk_miss (by decide +kernel) _ _).trans ((lk_miss (by decide +kernel) _ _).trans ((lk_miss (by decide +kernel) _ _).trans (rfl)))
theorem no_Part_is_long_enough {v0 v1 v2 : V} : (fs_Part v0 v1 v2).lookup ("is_long_enough" : Str) = none := (lk_miss (by decide +kernel) _ _).trans ((lk_miss (by decide +kernel) _ _).trans ((lk_miss (by decide +kernel) _ _).trans (rfl)))
def fs_Waiting (v0 v1 : V) : List (Str × V) := [("due", v0), ("kept", v1)]
theorem get_Waiting_due {v0 v1 : V} : (fs_Waiting v0 v1).lookup ("due" : Str) = some v0 := lk_hit _ _ _
theorem put_Waiting_due {v0 v1 y : V} : putF "due" y (fs_Waiting v0 v1) = fs_Waiting y v1 := by
  unfold fs_Waiting
  rw [pf_hit]
theorem get_Waiting_kept {v0 v1 : V} : (fs_Waiting v0 v1).lookup ("kept" : Str) = some v1 := (lk_miss (by decide +kernel) _ _).trans (lk_hit _ _ _)
theorem put_Waiting_kept {v0 v1 y : V} : putF "kept" y (fs_Waiting v0 v1) = fs_Waiting v0 y := by
  unfold fs_Waiting
  rw [pf_miss (g := "due") (f := "kept") (by decide +kernel), pf_hit]
theorem made_Waiting {v0 v1 : V} : (putF "kept" v1 (putF "due" v0 [])) = fs_Waiting v0 v1 := by
  unfold fs_Waiting
  rw [show putF "due" v0 ([] : List (Str × V)) = ([("due", v0)] : List (Str × V)) from rfl]
  rw [show putF "kept" v1 ([("due", v0)] : List (Str × V)) = ([("due", v0), ("kept", v1)] : List (Str × V)) from by rw [pf_miss (g := "due") (f := "kept") (by decide +kernel)]; rfl]
theorem len_Waiting {v0 v1 : V} : (fs_Waiting v0 v1).length < 1000 := by show 2 < 1000; decide
theorem no_Waiting_try_keep {v0 v1 : V} : (fs_Waiting v0 v1).lookup ("try_keep" : Str) = none := (lk_miss (by decide +kernel) _ _).trans ((lk_miss (by decide +kernel) _ _).trans (rfl))
theorem no_Waiting_how_many {v0 v1 : V} : (fs_Waiting v0 v1).lookup ("how_many" : Str) = none := (lk_miss (by decide +kernel) _ _).trans ((lk_miss (by decide +kernel) _ _).trans (rfl))
theorem no_Waiting_due_waits {v0 v1 : V} : (fs_Waiting v0 v1).lookup ("due_waits" : Str) = none := (lk_miss (by decide +kernel) _ _).trans ((lk_miss (by decide +kernel) _ _).trans (rfl))
theorem no_Waiting_take_due {v0 v1 : V} : (fs_Waiting v0 v1).lookup ("take_due" : Str) = none := (lk_miss (by decide +kernel) _ _).trans ((lk_miss (by decide +kernel) _ _).trans (rfl))
theorem no_Waiting_give_up_due {v0 v1 : V} : (fs_Waiting v0 v1).lookup ("give_up_due" : Str) = none := (lk_miss (by decide +kernel) _ _).trans ((lk_miss (by decide +kernel) _ _).trans (rfl))
def fs_Receiver (v0 v1 v2 v3 v4 v5 v6 : V) : List (Str × V) := [("own", v0), ("depth", v1), ("source", v2), ("awaited", v3), ("counting", v4), ("waiting", v5), ("hearing", v6)]
theorem get_Receiver_own {v0 v1 v2 v3 v4 v5 v6 : V} : (fs_Receiver v0 v1 v2 v3 v4 v5 v6).lookup ("own" : Str) = some v0 := lk_hit _ _ _
theorem put_Receiver_own {v0 v1 v2 v3 v4 v5 v6 y : V} : putF "own" y (fs_Receiver v0 v1 v2 v3 v4 v5 v6) = fs_Receiver y v1 v2 v3 v4 v5 v6 := by
  unfold fs_Receiver
  rw [pf_hit]
theorem get_Receiver_depth {v0 v1 v2 v3 v4 v5 v6 : V} : (fs_Receiver v0 v1 v2 v3 v4 v5 v6).lookup ("depth" : Str) = some v1 := (lk_miss (by decide +kernel) _ _).trans (lk_hit _ _ _)
theorem put_Receiver_depth {v0 v1 v2 v3 v4 v5 v6 y : V} : putF "depth" y (fs_Receiver v0 v1 v2 v3 v4 v5 v6) = fs_Receiver v0 y v2 v3 v4 v5 v6 := by
  unfold fs_Receiver
  rw [pf_miss (g := "own") (f := "depth") (by decide +kernel), pf_hit]
theorem get_Receiver_source {v0 v1 v2 v3 v4 v5 v6 : V} : (fs_Receiver v0 v1 v2 v3 v4 v5 v6).lookup ("source" : Str) = some v2 := (lk_miss (by decide +kernel) _ _).trans ((lk_miss (by decide +kernel) _ _).trans (lk_hit _ _ _))
theorem put_Receiver_source {v0 v1 v2 v3 v4 v5 v6 y : V} : putF "source" y (fs_Receiver v0 v1 v2 v3 v4 v5 v6) = fs_Receiver v0 v1 y v3 v4 v5 v6 := by
  unfold fs_Receiver
  rw [pf_miss (g := "own") (f := "source") (by decide +kernel), pf_miss (g := "depth") (f := "source") (by decide +kernel), pf_hit]
theorem get_Receiver_awaited {v0 v1 v2 v3 v4 v5 v6 : V} : (fs_Receiver v0 v1 v2 v3 v4 v5 v6).lookup ("awaited" : Str) = some v3 := (lk_miss (by decide +kernel) _ _).trans ((lk_miss (by decide +kernel) _ _).trans ((lk_miss (by decide +kernel) _ _).trans (lk_hit _ _ _)))
theorem put_Receiver_awaited {v0 v1 v2 v3 v4 v5 v6 y : V} : putF "awaited" y (fs_Receiver v0 v1 v2 v3 v4 v5 v6) = fs_Receiver v0 v1 v2 y v4 v5 v6 := by
  unfold fs_Receiver
  rw [pf_miss (g := "own") (f := "awaited") (by decide +kernel), pf_miss (g := "depth") (f := "awaited") (by decide +kernel), pf_miss (g := "source") (f := "awaited") (by decide +kernel), pf_hit]
theorem get_Receiver_counting {v0 v1 v2 v3 v4 v5 v6 : V} : (fs_Receiver v0 v1 v2 v3 v4 v5 v6).lookup ("counting" : Str) = some v4 := (lk_miss (by decide +kernel) _ _).trans ((lk_miss (by decide +kernel) _ _).trans ((lk_miss (by decide +kernel) _ _).trans ((lk_miss (by decide +kernel) _ _).trans (lk_hit _ _ _))))
theorem put_Receiver_counting {v0 v1 v2 v3 v4 v5 v6 y : V} : putF "counting" y (fs_Receiver v0 v1 v2 v3 v4 v5 v6) = fs_Receiver v0 v1 v2 v3 y v5 v6 := by
  unfold fs_Receiver
  rw [pf_miss (g := "own") (f := "counting") (by decide +kernel), pf_miss (g := "depth") (f := "counting") (by decide +kernel), pf_miss (g := "source") (f := "counting") (by decide +kernel), pf_miss (g := "awaited") (f := "counting") (by decide +kernel), pf_hit]
theorem get_Receiver_waiting {v0 v1 v2 v3 v4 v5 v6 : V} : (fs_Receiver v0 v1 v2 v3 v4 v5 v6).lookup ("waiting" : Str) = some v5 := (lk_miss (by decide +kernel) _ _).trans ((lk_miss (by decide +kernel) _ _).trans ((lk_miss (by decide +kernel) _ _).trans ((lk_miss (by decide +kernel) _ _).trans ((lk_miss (by decide +kernel) _ _).trans (lk_hit _ _ _)))))
theorem put_Receiver_waiting {v0 v1 v2 v3 v4 v5 v6 y : V} : putF "waiting" y (fs_Receiver v0 v1 v2 v3 v4 v5 v6) = fs_Receiver v0 v1 v2 v3 v4 y v6 := by
  unfold fs_Receiver
  rw [pf_miss (g := "own") (f := "waiting") (by decide +kernel), pf_miss (g := "depth") (f := "waiting") (by decide +kernel), pf_miss (g := "source") (f := "waiting") (by decide +kernel), pf_miss (g := "awaited") (f := "waiting") (by decide +kernel), pf_miss (g := "counting") (f := "waiting") (by decide +kernel), pf_hit]
theorem get_Receiver_hearing {v0 v1 v2 v3 v4 v5 v6 : V} : (fs_Receiver v0 v1 v2 v3 v4 v5 v6).lookup ("hearing" : Str) = some v6 := (lk_miss (by decide +kernel) _ _).trans ((lk_miss (by decide +kernel) _ _).trans ((lk_miss (by decide +kernel) _ _).trans ((lk_miss (by decide +kernel) _ _).trans ((lk_miss (by decide +kernel) _ _).trans ((lk_miss (by decide +kernel) _ _).trans (lk_hit _ _ _))))))
theorem put_Receiver_hearing {v0 v1 v2 v3 v4 v5 v6 y : V} : putF "hearing" y (fs_Receiver v0 v1 v2 v3 v4 v5 v6) = fs_Receiver v0 v1 v2 v3 v4 v5 y := by
  unfold fs_Receiver
  rw [pf_miss (g := "own") (f := "hearing") (by decide +kernel), pf_miss (g := "depth") (f := "hearing") (by decide +kernel), pf_miss (g := "source") (f := "hearing") (by decide +kernel), pf_miss (g := "awaited") (f := "hearing") (by decide +kernel), pf_miss (g := "counting") (f := "hearing") (by decide +kernel), pf_miss (g := "waiting") (f := "hearing") (by decide +kernel), pf_hit]
theorem made_Receiver {v0 v1 v2 v3 v4 v5 v6 : V} : (putF "hearing" v6 (putF "waiting" v5 (putF "counting" v4 (putF "awaited" v3 (putF "source" v2 (putF "depth" v1 (putF "own" v0 []))))))) = fs_Receiver v0 v1 v2 v3 v4 v5 v6 := by
  unfold fs_Receiver
  rw [show putF "own" v0 ([] : List (Str × V)) = ([("own", v0)] : List (Str × V)) from rfl]
  rw [show putF "depth" v1 ([("own", v0)] : List (Str × V)) = ([("own", v0), ("depth", v1)] : List (Str × V)) from by rw [pf_miss (g := "own") (f := "depth") (by decide +kernel)]; rfl]
  rw [show putF "source" v2 ([("own", v0), ("depth", v1)] : List (Str × V)) = ([("own", v0), ("depth", v1), ("source", v2)] : List (Str × V)) from by rw [pf_miss (g := "own") (f := "source") (by decide +kernel), pf_miss (g := "depth") (f := "source") (by decide +kernel)]; rfl]
  rw [show putF "awaited" v3 ([("own", v0), ("depth", v1), ("source", v2)] : List (Str × V)) = ([("own", v0), ("depth", v1), ("source", v2), ("awaited", v3)] : List (Str × V)) from by rw [pf_miss (g := "own") (f := "awaited") (by decide +kernel), pf_miss (g := "depth") (f := "awaited") (by decide +kernel), pf_miss (g := "source") (f := "awaited") (by decide +kernel)]; rfl]
  rw [show putF "counting" v4 ([("own", v0), ("depth", v1), ("source", v2), ("awaited", v3)] : List (Str × V)) = ([("own", v0), ("depth", v1), ("source", v2), ("awaited", v3), ("counting", v4)] : List (Str × V)) from by rw [pf_miss (g := "own") (f := "counting") (by decide +kernel), pf_miss (g := "depth") (f := "counting") (by decide +kernel), pf_miss (g := "source") (f := "counting") (by decide +kernel), pf_miss (g := "awaited") (f := "counting") (by decide +kernel)]; rfl]
  rw [show putF "waiting" v5 ([("own", v0), ("depth", v1), ("source", v2), ("awaited", v3), ("counting", v4)] : List (Str × V)) = ([("own", v0), ("depth", v1), ("source", v2), ("awaited", v3), ("counting", v4), ("waiting", v5)] : List (Str × V)) from by rw [pf_miss (g := "own") (f := "waiting") (by decide +kernel), pf_miss (g := "depth") (f := "waiting") (by decide +kernel), pf_miss (g := "source") (f := "waiting") (by decide +kernel), pf_miss (g := "awaited") (f := "waiting") (by decide +kernel), pf_miss (g := "counting") (f := "waiting") (by decide +kernel)]; rfl]
  rw [show putF "hearing" v6 ([("own", v0), ("depth", v1), ("source", v2), ("awaited", v3), ("counting", v4), ("waiting", v5)] : List (Str × V)) = ([("own", v0), ("depth", v1), ("source", v2), ("awaited", v3), ("counting", v4), ("waiting", v5), ("hearing", v6)] : List (Str × V)) from by rw [pf_miss (g := "own") (f := "hearing") (by decide +kernel), pf_miss (g := "depth") (f := "hearing") (by decide +kernel), pf_miss (g := "source") (f := "hearing") (by decide +kernel), pf_miss (g := "awaited") (f := "hearing") (by decide +kernel), pf_miss (g := "counting") (f := "hearing") (by decide +kernel), pf_miss (g := "waiting") (f := "hearing") (by decide +kernel)]; rfl]
theorem len_Receiver {v0 v1 v2 v3 v4 v5 v6 : V} : (fs_Receiver v0 v1 v2 v3 v4 v5 v6).length < 1000 := by show 7 < 1000; decide
theorem no_Receiver_receive {v0 v1 v2 v3 v4 v5 v6 : V} : (fs_Receiver v0 v1 v2 v3 v4 v5 v6).lookup ("receive" : Str) = none := (lk_miss (by decide +kernel) _ _).trans ((lk_miss (by decide +kernel) _ _).trans ((lk_miss (by decide +kernel) _ _).trans ((lk_miss (by decide +kernel) _ _).trans ((lk_miss (by decide +kernel) _ _).trans ((lk_miss (by decide +kernel) _ _).trans ((lk_miss (by decide +kernel) _ _).trans (rfl)))))))
theorem no_Receiver_doubt {v0 v1 v2 v3 v4 v5 v6 : V} : (fs_Receiver v0 v1 v2 v3 v4 v5 v6).lookup ("doubt" : Str) = none := (lk_miss (by decide +kernel) _ _).trans ((lk_miss (by decide +kernel) _ _).trans ((lk_miss (by decide +kernel) _ _).trans ((lk_miss (by decide +kernel) _ _).trans ((lk_miss (by decide +kernel) _ _).trans ((lk_miss (by decide +kernel) _ _).trans ((lk_miss (by decide +kernel) _ _).trans (rfl)))))))
theorem no_Receiver_begin_numbers {v0 v1 v2 v3 v4 v5 v6 : V} : (fs_Receiver v0 v1 v2 v3 v4 v5 v6).lookup ("begin_numbers" : Str) = none := (lk_miss (by decide +kernel) _ _).trans ((lk_miss (by decide +kernel) _ _).trans ((lk_miss (by decide +kernel) _ _).trans ((lk_miss (by decide +kernel) _ _).trans ((lk_miss (by decide +kernel) _ _).trans ((lk_miss (by decide +kernel) _ _).trans ((lk_miss (by decide +kernel) _ _).trans (rfl)))))))
theorem no_Receiver_keep_counted {v0 v1 v2 v3 v4 v5 v6 : V} : (fs_Receiver v0 v1 v2 v3 v4 v5 v6).lookup ("keep_counted" : Str) = none := (lk_miss (by decide +kernel) _ _).trans ((lk_miss (by decide +kernel) _ _).trans ((lk_miss (by decide +kernel) _ _).trans ((lk_miss (by decide +kernel) _ _).trans ((lk_miss (by decide +kernel) _ _).trans ((lk_miss (by decide +kernel) _ _).trans ((lk_miss (by decide +kernel) _ _).trans (rfl)))))))
theorem no_Receiver_take {v0 v1 v2 v3 v4 v5 v6 : V} : (fs_Receiver v0 v1 v2 v3 v4 v5 v6).lookup ("take" : Str) = none := (lk_miss (by decide +kernel) _ _).trans ((lk_miss (by decide +kernel) _ _).trans ((lk_miss (by decide +kernel) _ _).trans ((lk_miss (by decide +kernel) _ _).trans ((lk_miss (by decide +kernel) _ _).trans ((lk_miss (by decide +kernel) _ _).trans ((lk_miss (by decide +kernel) _ _).trans (rfl)))))))
theorem no_Receiver_report {v0 v1 v2 v3 v4 v5 v6 : V} : (fs_Receiver v0 v1 v2 v3 v4 v5 v6).lookup ("report" : Str) = none := (lk_miss (by decide +kernel) _ _).trans ((lk_miss (by decide +kernel) _ _).trans ((lk_miss (by decide +kernel) _ _).trans ((lk_miss (by decide +kernel) _ _).trans ((lk_miss (by decide +kernel) _ _).trans ((lk_miss (by decide +kernel) _ _).trans ((lk_miss (by decide +kernel) _ _).trans (rfl)))))))
theorem no_Receiver_report_block {v0 v1 v2 v3 v4 v5 v6 : V} : (fs_Receiver v0 v1 v2 v3 v4 v5 v6).lookup ("report_block" : Str) = none := (lk_miss (by decide +kernel) _ _).trans ((lk_miss (by decide +kernel) _ _).trans ((lk_miss (by decide +kernel) _ _).trans ((lk_miss (by decide +kernel) _ _).trans ((lk_miss (by decide +kernel) _ _).trans ((lk_miss (by decide +kernel) _ _).trans ((lk_miss (by decide +kernel) _ _).trans (rfl)))))))
theorem no_Receiver_hear {v0 v1 v2 v3 v4 v5 v6 : V} : (fs_Receiver v0 v1 v2 v3 v4 v5 v6).lookup ("hear" : Str) = none := (lk_miss (by decide +kernel) _ _).trans ((lk_miss (by decide +kernel) _ _).trans ((lk_miss (by decide +kernel) _ _).trans ((lk_miss (by decide +kernel) _ _).trans ((lk_miss (by decide +kernel) _ _).trans ((lk_miss (by decide +kernel) _ _).trans ((lk_miss (by decide +kernel) _ _).trans (rfl)))))))
theorem no_Receiver_tell {v0 v1 v2 v3 v4 v5 v6 : V} : (fs_Receiver v0 v1 v2 v3 v4 v5 v6).lookup ("tell" : Str) = none := (lk_miss (by decide +kernel) _ _).trans ((lk_miss (by decide +kernel) _ _).trans ((lk_miss (by decide +kernel) _ _).trans ((lk_miss (by decide +kernel) _ _).trans ((lk_miss (by decide +kernel) _ _).trans ((lk_miss (by decide +kernel) _ _).trans ((lk_miss (by decide +kernel) _ _).trans (rfl)))))))
theorem no_Receiver_told_counts {v0 v1 v2 v3 v4 v5 v6 : V} : (fs_Receiver v0 v1 v2 v3 v4 v5 v6).lookup ("told_counts" : Str) = none := (lk_miss (by decide +kernel) _ _).trans ((lk_miss (by decide +kernel) _ _).trans ((lk_miss (by decide +kernel) _ _).trans ((lk_miss (by decide +kernel) _ _).trans ((lk_miss (by decide +kernel) _ _).trans ((lk_miss (by decide +kernel) _ _).trans ((lk_miss (by decide +kernel) _ _).trans (rfl)))))))
def fs_Desk (v0 v1 v2 : V) : List (Str × V) := [("calls", v0), ("place", v1), ("receiver", v2)]
theorem get_Desk_calls {v0 v1 v2 : V} : (fs_Desk v0 v1 v2).lookup ("calls" : Str) = some v0 := lk_hit _ _ _
theorem put_Desk_calls {v0 v1 v2 y : V} : putF "calls" y (fs_Desk v0 v1 v2) = fs_Desk y v1 v2 := by
  unfold fs_Desk
  rw [pf_hit]
theorem get_Desk_place {v0 v1 v2 : V} : (fs_Desk v0 v1 v2).lookup ("place" : Str) = some v1 := (lk_miss (by decide +kernel) _ _).trans (lk_hit _ _ _)
theorem put_Desk_place {v0 v1 v2 y : V} : putF "place" y (fs_Desk v0 v1 v2) = fs_Desk v0 y v2 := by
  unfold fs_Desk
  rw [pf_miss (g := "calls") (f := "place") (by decide +kernel), pf_hit]
theorem get_Desk_receiver {v0 v1 v2 : V} : (fs_Desk v0 v1 v2).lookup ("receiver" : Str) = some v2 := (lk_miss (by decide +kernel) _ _).trans ((lk_miss (by decide +kernel) _ _).trans (lk_hit _ _ _))
theorem put_Desk_receiver {v0 v1 v2 y : V} : putF "receiver" y (fs_Desk v0 v1 v2) = fs_Desk v0 v1 y := by
  unfold fs_Desk
  rw [pf_miss (g := "calls") (f := "receiver") (by decide +kernel), pf_miss (g := "place") (f := "receiver") (by decide +kernel), pf_hit]
theorem made_Desk {v0 v1 v2 : V} : (putF "receiver" v2 (putF "place" v1 (putF "calls" v0 []))) = fs_Desk v0 v1 v2 := by
  unfold fs_Desk
  rw [show putF "calls" v0 ([] : List (Str × V)) = ([("calls", v0)] : List (Str × V)) from rfl]
  rw [show putF "place" v1 ([("calls", v0)] : List (Str × V)) = ([("calls", v0), ("place", v1)] : List (Str × V)) from by rw [pf_miss (g := "calls") (f := "place") (by decide +kernel)]; rfl]
  rw [show putF "receiver" v2 ([("calls", v0), ("place", v1)] : List (Str × V)) = ([("calls", v0), ("place", v1), ("receiver", v2)] : List (Str × V)) from by rw [pf_miss (g := "calls") (f := "receiver") (by decide +kernel), pf_miss (g := "place") (f := "receiver") (by decide +kernel)]; rfl]
theorem len_Desk {v0 v1 v2 : V} : (fs_Desk v0 v1 v2).length < 1000 := by show 3 < 1000; decide
theorem no_Desk_has_more {v0 v1 v2 : V} : (fs_Desk v0 v1 v2).lookup ("has_more" : Str) = none := (lk_miss (by decide +kernel) _ _).trans ((lk_miss (by decide +kernel) _ _).trans ((lk_miss (by decide +kernel) _ _).trans (rfl)))
theorem no_Desk_draw {v0 v1 v2 : V} : (fs_Desk v0 v1 v2).lookup ("draw" : Str) = none := (lk_miss (by decide +kernel) _ _).trans ((lk_miss (by decide +kernel) _ _).trans ((lk_miss (by decide +kernel) _ _).trans (rfl)))
theorem no_Desk_draw_row {v0 v1 v2 : V} : (fs_Desk v0 v1 v2).lookup ("draw_row" : Str) = none := (lk_miss (by decide +kernel) _ _).trans ((lk_miss (by decide +kernel) _ _).trans ((lk_miss (by decide +kernel) _ _).trans (rfl)))
theorem no_Desk_answer_call {v0 v1 v2 : V} : (fs_Desk v0 v1 v2).lookup ("answer_call" : Str) = none := (lk_miss (by decide +kernel) _ _).trans ((lk_miss (by decide +kernel) _ _).trans ((lk_miss (by decide +kernel) _ _).trans (rfl)))
theorem no_Desk_answer_begin {v0 v1 v2 : V} : (fs_Desk v0 v1 v2).lookup ("answer_begin" : Str) = none := (lk_miss (by decide +kernel) _ _).trans ((lk_miss (by decide +kernel) _ _).trans ((lk_miss (by decide +kernel) _ _).trans (rfl)))
theorem no_Desk_answer_receive {v0 v1 v2 : V} : (fs_Desk v0 v1 v2).lookup ("answer_receive" : Str) = none := (lk_miss (by decide +kernel) _ _).trans ((lk_miss (by decide +kernel) _ _).trans ((lk_miss (by decide +kernel) _ _).trans (rfl)))
theorem no_Desk_answer_heard {v0 v1 v2 : V} : (fs_Desk v0 v1 v2).lookup ("answer_heard" : Str) = none := (lk_miss (by decide +kernel) _ _).trans ((lk_miss (by decide +kernel) _ _).trans ((lk_miss (by decide +kernel) _ _).trans (rfl)))
structure Adr where
  c_Counting : Addr
  c_Hearing : Addr
  c_Packet : Addr
  c_Part : Addr
  c_Waiting : Addr
  c_Receiver : Addr
  c_Desk : Addr
  f_read_number : Addr
  fd_read_number : FuncData
  f_write_number : Addr
  fd_write_number : FuncData
  f_has_version : Addr
  fd_has_version : FuncData
  f_has_padding : Addr
  fd_has_padding : FuncData
  f_padding_length : Addr
  fd_padding_length : FuncData
  f_Counting_init : Addr
  fd_Counting_init : FuncData
  f_Counting_whole_number : Addr
  fd_Counting_whole_number : FuncData
  f_Counting_add_packet : Addr
  fd_Counting_add_packet : FuncData
  f_Counting_how_many_expected : Addr
  fd_Counting_how_many_expected : FuncData
  f_Counting_how_many_missing : Addr
  fd_Counting_how_many_missing : FuncData
  f_Counting_share_lost_since_told : Addr
  fd_Counting_share_lost_since_told : FuncData
  f_Counting_note_told : Addr
  fd_Counting_note_told : FuncData
  f_Counting_told_jitter : Addr
  fd_Counting_told_jitter : FuncData
  f_share_lost : Addr
  fd_share_lost : FuncData
  f_held_missing : Addr
  fd_held_missing : FuncData
  f_number_behind : Addr
  fd_number_behind : FuncData
  f_way_of : Addr
  fd_way_of : FuncData
  f_way_change : Addr
  fd_way_change : FuncData
  f_next_jitter : Addr
  fd_next_jitter : FuncData
  f_Hearing_init : Addr
  fd_Hearing_init : FuncData
  f_Hearing_note_part : Addr
  fd_Hearing_note_part : FuncData
  f_Hearing_time_since_report : Addr
  fd_Hearing_time_since_report : FuncData
  f_Packet_init : Addr
  fd_Packet_init : FuncData
  f_carried_start : Addr
  fd_carried_start : FuncData
  f_read_packet : Addr
  fd_read_packet : FuncData
  f_Part_init : Addr
  fd_Part_init : FuncData
  f_Part_is_sender_report_of : Addr
  fd_Part_is_sender_report_of : FuncData
  f_Part_middle_of_time : Addr
  fd_Part_middle_of_time : FuncData
  f_Part_is_goodbye_of : Addr
  fd_Part_is_goodbye_of : FuncData
  f_Part_leaving : Addr
  fd_Part_leaving : FuncData
  f_Part_is_right : Addr
  fd_Part_is_right : FuncData
  f_Part_is_long_enough : Addr
  fd_Part_is_long_enough : FuncData
  f_padding_fits : Addr
  fd_padding_fits : FuncData
  f_cut_part : Addr
  fd_cut_part : FuncData
  f_begins_rightly : Addr
  fd_begins_rightly : FuncData
  f_is_padded_rightly : Addr
  fd_is_padded_rightly : FuncData
  f_read_parts : Addr
  fd_read_parts : FuncData
  f_write_report : Addr
  fd_write_report : FuncData
  f_write_block : Addr
  fd_write_block : FuncData
  f_write_counts : Addr
  fd_write_counts : FuncData
  f_write_heard : Addr
  fd_write_heard : FuncData
  f_Waiting_init : Addr
  fd_Waiting_init : FuncData
  f_Waiting_try_keep : Addr
  fd_Waiting_try_keep : FuncData
  f_Waiting_how_many : Addr
  fd_Waiting_how_many : FuncData
  f_Waiting_due_waits : Addr
  fd_Waiting_due_waits : FuncData
  f_Waiting_take_due : Addr
  fd_Waiting_take_due : FuncData
  f_Waiting_give_up_due : Addr
  fd_Waiting_give_up_due : FuncData
  f_Receiver_init : Addr
  fd_Receiver_init : FuncData
  f_Receiver_receive : Addr
  fd_Receiver_receive : FuncData
  f_Receiver_doubt : Addr
  fd_Receiver_doubt : FuncData
  f_Receiver_begin_numbers : Addr
  fd_Receiver_begin_numbers : FuncData
  f_Receiver_keep_counted : Addr
  fd_Receiver_keep_counted : FuncData
  f_Receiver_take : Addr
  fd_Receiver_take : FuncData
  f_Receiver_report : Addr
  fd_Receiver_report : FuncData
  f_Receiver_report_block : Addr
  fd_Receiver_report_block : FuncData
  f_Receiver_hear : Addr
  fd_Receiver_hear : FuncData
  f_Receiver_tell : Addr
  fd_Receiver_tell : FuncData
  f_Receiver_told_counts : Addr
  fd_Receiver_told_counts : FuncData
  f_taken : Addr
  fd_taken : FuncData
  f_Desk_init : Addr
  fd_Desk_init : FuncData
  f_Desk_has_more : Addr
  fd_Desk_has_more : FuncData
  f_Desk_draw : Addr
  fd_Desk_draw : FuncData
  f_Desk_draw_row : Addr
  fd_Desk_draw_row : FuncData
  f_Desk_answer_call : Addr
  fd_Desk_answer_call : FuncData
  f_Desk_answer_begin : Addr
  fd_Desk_answer_begin : FuncData
  f_Desk_answer_receive : Addr
  fd_Desk_answer_receive : FuncData
  f_Desk_answer_heard : Addr
  fd_Desk_answer_heard : FuncData
  f_answers : Addr
  fd_answers : FuncData
  d_LEAST_LENGTHS : Addr
  d_LEAST_LENGTHS_0 : Addr
  d_LEAST_LENGTHS_1 : Addr
  d_LEAST_LENGTHS_2 : Addr
  d_LEAST_LENGTHS_3 : Addr
  d_LEAST_LENGTHS_4 : Addr
structure Txt (K : PySem.W.Frag) (mg : Str → Option Value) (t : Adr) : Prop where
  cl_Counting : Cls K t.c_Counting
  mgc_Counting : mg "Counting" = some (.ref t.c_Counting)
  mk_Counting : Mk K t.c_Counting t.f_Counting_init
  na_Counting_first : NoAttr K t.c_Counting "first"
  na_Counting_greatest : NoAttr K t.c_Counting "greatest"
  na_Counting_came : NoAttr K t.c_Counting "came"
  na_Counting_jitter : NoAttr K t.c_Counting "jitter"
  na_Counting_way : NoAttr K t.c_Counting "way"
  na_Counting_told_expected : NoAttr K t.c_Counting "told_expected"
  na_Counting_told_came : NoAttr K t.c_Counting "told_came"
  cl_Hearing : Cls K t.c_Hearing
  mgc_Hearing : mg "Hearing" = some (.ref t.c_Hearing)
  mk_Hearing : Mk K t.c_Hearing t.f_Hearing_init
  na_Hearing_middle : NoAttr K t.c_Hearing "middle"
  na_Hearing_heard_at : NoAttr K t.c_Hearing "heard_at"
  na_Hearing_goodbye : NoAttr K t.c_Hearing "goodbye"
  cl_Packet : Cls K t.c_Packet
  mgc_Packet : mg "Packet" = some (.ref t.c_Packet)
  mk_Packet : Mk K t.c_Packet t.f_Packet_init
  na_Packet_mark : NoAttr K t.c_Packet "mark"
  na_Packet_kind : NoAttr K t.c_Packet "kind"
  na_Packet_number : NoAttr K t.c_Packet "number"
  na_Packet_stamp : NoAttr K t.c_Packet "stamp"
  na_Packet_source : NoAttr K t.c_Packet "source"
  na_Packet_carried : NoAttr K t.c_Packet "carried"
  cl_Part : Cls K t.c_Part
  mgc_Part : mg "Part" = some (.ref t.c_Part)
  mk_Part : Mk K t.c_Part t.f_Part_init
  na_Part_octets : NoAttr K t.c_Part "octets"
  na_Part_kind : NoAttr K t.c_Part "kind"
  na_Part_entries : NoAttr K t.c_Part "entries"
  cl_Waiting : Cls K t.c_Waiting
  mgc_Waiting : mg "Waiting" = some (.ref t.c_Waiting)
  mk_Waiting : Mk K t.c_Waiting t.f_Waiting_init
  na_Waiting_due : NoAttr K t.c_Waiting "due"
  na_Waiting_kept : NoAttr K t.c_Waiting "kept"
  cl_Receiver : Cls K t.c_Receiver
  mgc_Receiver : mg "Receiver" = some (.ref t.c_Receiver)
  mk_Receiver : Mk K t.c_Receiver t.f_Receiver_init
  na_Receiver_own : NoAttr K t.c_Receiver "own"
  na_Receiver_depth : NoAttr K t.c_Receiver "depth"
  na_Receiver_source : NoAttr K t.c_Receiver "source"
  na_Receiver_awaited : NoAttr K t.c_Receiver "awaited"
  na_Receiver_counting : NoAttr K t.c_Receiver "counting"
  na_Receiver_waiting : NoAttr K t.c_Receiver "waiting"
  na_Receiver_hearing : NoAttr K t.c_Receiver "hearing"
  cl_Desk : Cls K t.c_Desk
  mgc_Desk : mg "Desk" = some (.ref t.c_Desk)
  mk_Desk : Mk K t.c_Desk t.f_Desk_init
  na_Desk_calls : NoAttr K t.c_Desk "calls"
  na_Desk_place : NoAttr K t.c_Desk "place"
  na_Desk_receiver : NoAttr K t.c_Desk "receiver"
  fn_read_number : Fun K "read_number" "read_number" s_read_number t.f_read_number t.fd_read_number
  b_read_number : Binds K t.fd_read_number ["octets", "start", "length"] []
  mg_read_number : mg "read_number" = some (.ref t.f_read_number)
  fn_write_number : Fun K "write_number" "write_number" s_write_number t.f_write_number t.fd_write_number
  b_write_number : Binds K t.fd_write_number ["number", "length"] []
  mg_write_number : mg "write_number" = some (.ref t.f_write_number)
  fn_has_version : Fun K "has_version" "has_version" s_has_version t.f_has_version t.fd_has_version
  b_has_version : Binds K t.fd_has_version ["octets"] []
  mg_has_version : mg "has_version" = some (.ref t.f_has_version)
  fn_has_padding : Fun K "has_padding" "has_padding" s_has_padding t.f_has_padding t.fd_has_padding
  b_has_padding : Binds K t.fd_has_padding ["octets"] []
  mg_has_padding : mg "has_padding" = some (.ref t.f_has_padding)
  fn_padding_length : Fun K "padding_length" "padding_length" s_padding_length t.f_padding_length t.fd_padding_length
  b_padding_length : Binds K t.fd_padding_length ["octets"] []
  mg_padding_length : mg "padding_length" = some (.ref t.f_padding_length)
  fn_Counting_init : Fun K "__init__" "Counting.__init__" s_Counting_init t.f_Counting_init t.fd_Counting_init
  b_Counting_init : Binds K t.fd_Counting_init ["self", "number", "way"] []
  fn_Counting_whole_number : Fun K "whole_number" "Counting.whole_number" s_Counting_whole_number t.f_Counting_whole_number t.fd_Counting_whole_number
  b_Counting_whole_number : Binds K t.fd_Counting_whole_number ["self", "number"] []
  me_Counting_whole_number : Meth K t.c_Counting "whole_number" t.f_Counting_whole_number
  fn_Counting_add_packet : Fun K "add_packet" "Counting.add_packet" s_Counting_add_packet t.f_Counting_add_packet t.fd_Counting_add_packet
  b_Counting_add_packet : Binds K t.fd_Counting_add_packet ["self", "whole", "way"] []
  me_Counting_add_packet : Meth K t.c_Counting "add_packet" t.f_Counting_add_packet
  fn_Counting_how_many_expected : Fun K "how_many_expected" "Counting.how_many_expected" s_Counting_how_many_expected t.f_Counting_how_many_expected t.fd_Counting_how_many_expected
  b_Counting_how_many_expected : Binds K t.fd_Counting_how_many_expected ["self"] []
  me_Counting_how_many_expected : Meth K t.c_Counting "how_many_expected" t.f_Counting_how_many_expected
  fn_Counting_how_many_missing : Fun K "how_many_missing" "Counting.how_many_missing" s_Counting_how_many_missing t.f_Counting_how_many_missing t.fd_Counting_how_many_missing
  b_Counting_how_many_missing : Binds K t.fd_Counting_how_many_missing ["self"] []
  me_Counting_how_many_missing : Meth K t.c_Counting "how_many_missing" t.f_Counting_how_many_missing
  fn_Counting_share_lost_since_told : Fun K "share_lost_since_told" "Counting.share_lost_since_told" s_Counting_share_lost_since_told t.f_Counting_share_lost_since_told t.fd_Counting_share_lost_since_told
  b_Counting_share_lost_since_told : Binds K t.fd_Counting_share_lost_since_told ["self"] []
  me_Counting_share_lost_since_told : Meth K t.c_Counting "share_lost_since_told" t.f_Counting_share_lost_since_told
  fn_Counting_note_told : Fun K "note_told" "Counting.note_told" s_Counting_note_told t.f_Counting_note_told t.fd_Counting_note_told
  b_Counting_note_told : Binds K t.fd_Counting_note_told ["self"] []
  me_Counting_note_told : Meth K t.c_Counting "note_told" t.f_Counting_note_told
  fn_Counting_told_jitter : Fun K "told_jitter" "Counting.told_jitter" s_Counting_told_jitter t.f_Counting_told_jitter t.fd_Counting_told_jitter
  b_Counting_told_jitter : Binds K t.fd_Counting_told_jitter ["self"] []
  me_Counting_told_jitter : Meth K t.c_Counting "told_jitter" t.f_Counting_told_jitter
  fn_share_lost : Fun K "share_lost" "share_lost" s_share_lost t.f_share_lost t.fd_share_lost
  b_share_lost : Binds K t.fd_share_lost ["expected", "came"] []
  mg_share_lost : mg "share_lost" = some (.ref t.f_share_lost)
  fn_held_missing : Fun K "held_missing" "held_missing" s_held_missing t.f_held_missing t.fd_held_missing
  b_held_missing : Binds K t.fd_held_missing ["missing"] []
  mg_held_missing : mg "held_missing" = some (.ref t.f_held_missing)
  fn_number_behind : Fun K "number_behind" "number_behind" s_number_behind t.f_number_behind t.fd_number_behind
  b_number_behind : Binds K t.fd_number_behind ["number"] []
  mg_number_behind : mg "number_behind" = some (.ref t.f_number_behind)
  fn_way_of : Fun K "way_of" "way_of" s_way_of t.f_way_of t.fd_way_of
  b_way_of : Binds K t.fd_way_of ["arrival", "stamp"] []
  mg_way_of : mg "way_of" = some (.ref t.f_way_of)
  fn_way_change : Fun K "way_change" "way_change" s_way_change t.f_way_change t.fd_way_change
  b_way_change : Binds K t.fd_way_change ["before", "after"] []
  mg_way_change : mg "way_change" = some (.ref t.f_way_change)
  fn_next_jitter : Fun K "next_jitter" "next_jitter" s_next_jitter t.f_next_jitter t.fd_next_jitter
  b_next_jitter : Binds K t.fd_next_jitter ["jitter", "change"] []
  mg_next_jitter : mg "next_jitter" = some (.ref t.f_next_jitter)
  fn_Hearing_init : Fun K "__init__" "Hearing.__init__" s_Hearing_init t.f_Hearing_init t.fd_Hearing_init
  b_Hearing_init : Binds K t.fd_Hearing_init ["self"] []
  fn_Hearing_note_part : Fun K "note_part" "Hearing.note_part" s_Hearing_note_part t.f_Hearing_note_part t.fd_Hearing_note_part
  b_Hearing_note_part : Binds K t.fd_Hearing_note_part ["self", "part", "source", "now"] []
  me_Hearing_note_part : Meth K t.c_Hearing "note_part" t.f_Hearing_note_part
  fn_Hearing_time_since_report : Fun K "time_since_report" "Hearing.time_since_report" s_Hearing_time_since_report t.f_Hearing_time_since_report t.fd_Hearing_time_since_report
  b_Hearing_time_since_report : Binds K t.fd_Hearing_time_since_report ["self", "now"] []
  me_Hearing_time_since_report : Meth K t.c_Hearing "time_since_report" t.f_Hearing_time_since_report
  fn_Packet_init : Fun K "__init__" "Packet.__init__" s_Packet_init t.f_Packet_init t.fd_Packet_init
  b_Packet_init : Binds K t.fd_Packet_init ["self", "octets", "carried"] []
  fn_carried_start : Fun K "carried_start" "carried_start" s_carried_start t.f_carried_start t.fd_carried_start
  b_carried_start : Binds K t.fd_carried_start ["octets"] []
  mg_carried_start : mg "carried_start" = some (.ref t.f_carried_start)
  fn_read_packet : Fun K "read_packet" "read_packet" s_read_packet t.f_read_packet t.fd_read_packet
  b_read_packet : Binds K t.fd_read_packet ["octets"] []
  mg_read_packet : mg "read_packet" = some (.ref t.f_read_packet)
  fn_Part_init : Fun K "__init__" "Part.__init__" s_Part_init t.f_Part_init t.fd_Part_init
  b_Part_init : Binds K t.fd_Part_init ["self", "octets"] []
  fn_Part_is_sender_report_of : Fun K "is_sender_report_of" "Part.is_sender_report_of" s_Part_is_sender_report_of t.f_Part_is_sender_report_of t.fd_Part_is_sender_report_of
  b_Part_is_sender_report_of : Binds K t.fd_Part_is_sender_report_of ["self", "source"] []
  me_Part_is_sender_report_of : Meth K t.c_Part "is_sender_report_of" t.f_Part_is_sender_report_of
  fn_Part_middle_of_time : Fun K "middle_of_time" "Part.middle_of_time" s_Part_middle_of_time t.f_Part_middle_of_time t.fd_Part_middle_of_time
  b_Part_middle_of_time : Binds K t.fd_Part_middle_of_time ["self"] []
  me_Part_middle_of_time : Meth K t.c_Part "middle_of_time" t.f_Part_middle_of_time
  fn_Part_is_goodbye_of : Fun K "is_goodbye_of" "Part.is_goodbye_of" s_Part_is_goodbye_of t.f_Part_is_goodbye_of t.fd_Part_is_goodbye_of
  b_Part_is_goodbye_of : Binds K t.fd_Part_is_goodbye_of ["self", "source"] []
  me_Part_is_goodbye_of : Meth K t.c_Part "is_goodbye_of" t.f_Part_is_goodbye_of
  fn_Part_leaving : Fun K "leaving" "Part.leaving" s_Part_leaving t.f_Part_leaving t.fd_Part_leaving
  b_Part_leaving : Binds K t.fd_Part_leaving ["self"] []
  me_Part_leaving : Meth K t.c_Part "leaving" t.f_Part_leaving
  fn_Part_is_right : Fun K "is_right" "Part.is_right" s_Part_is_right t.f_Part_is_right t.fd_Part_is_right
  b_Part_is_right : Binds K t.fd_Part_is_right ["self"] []
  me_Part_is_right : Meth K t.c_Part "is_right" t.f_Part_is_right
  fn_Part_is_long_enough : Fun K "is_long_enough" "Part.is_long_enough" s_Part_is_long_enough t.f_Part_is_long_enough t.fd_Part_is_long_enough
  b_Part_is_long_enough : Binds K t.fd_Part_is_long_enough ["self"] []
  me_Part_is_long_enough : Meth K t.c_Part "is_long_enough" t.f_Part_is_long_enough
  fn_padding_fits : Fun K "padding_fits" "padding_fits" s_padding_fits t.f_padding_fits t.fd_padding_fits
  b_padding_fits : Binds K t.fd_padding_fits ["octets"] []
  mg_padding_fits : mg "padding_fits" = some (.ref t.f_padding_fits)
  fn_cut_part : Fun K "cut_part" "cut_part" s_cut_part t.f_cut_part t.fd_cut_part
  b_cut_part : Binds K t.fd_cut_part ["octets", "start"] []
  mg_cut_part : mg "cut_part" = some (.ref t.f_cut_part)
  fn_begins_rightly : Fun K "begins_rightly" "begins_rightly" s_begins_rightly t.f_begins_rightly t.fd_begins_rightly
  b_begins_rightly : Binds K t.fd_begins_rightly ["parts"] []
  mg_begins_rightly : mg "begins_rightly" = some (.ref t.f_begins_rightly)
  fn_is_padded_rightly : Fun K "is_padded_rightly" "is_padded_rightly" s_is_padded_rightly t.f_is_padded_rightly t.fd_is_padded_rightly
  b_is_padded_rightly : Binds K t.fd_is_padded_rightly ["parts"] []
  mg_is_padded_rightly : mg "is_padded_rightly" = some (.ref t.f_is_padded_rightly)
  fn_read_parts : Fun K "read_parts" "read_parts" s_read_parts t.f_read_parts t.fd_read_parts
  b_read_parts : Binds K t.fd_read_parts ["octets"] []
  mg_read_parts : mg "read_parts" = some (.ref t.f_read_parts)
  fn_write_report : Fun K "write_report" "write_report" s_write_report t.f_write_report t.fd_write_report
  b_write_report : Binds K t.fd_write_report ["own", "block"] []
  mg_write_report : mg "write_report" = some (.ref t.f_write_report)
  fn_write_block : Fun K "write_block" "write_block" s_write_block t.f_write_block t.fd_write_block
  b_write_block : Binds K t.fd_write_block ["source", "counting", "hearing", "now"] []
  mg_write_block : mg "write_block" = some (.ref t.f_write_block)
  fn_write_counts : Fun K "write_counts" "write_counts" s_write_counts t.f_write_counts t.fd_write_counts
  b_write_counts : Binds K t.fd_write_counts ["counting"] []
  mg_write_counts : mg "write_counts" = some (.ref t.f_write_counts)
  fn_write_heard : Fun K "write_heard" "write_heard" s_write_heard t.f_write_heard t.fd_write_heard
  b_write_heard : Binds K t.fd_write_heard ["hearing", "now"] []
  mg_write_heard : mg "write_heard" = some (.ref t.f_write_heard)
  fn_Waiting_init : Fun K "__init__" "Waiting.__init__" s_Waiting_init t.f_Waiting_init t.fd_Waiting_init
  b_Waiting_init : Binds K t.fd_Waiting_init ["self", "first"] []
  fn_Waiting_try_keep : Fun K "try_keep" "Waiting.try_keep" s_Waiting_try_keep t.f_Waiting_try_keep t.fd_Waiting_try_keep
  b_Waiting_try_keep : Binds K t.fd_Waiting_try_keep ["self", "whole", "packet"] []
  me_Waiting_try_keep : Meth K t.c_Waiting "try_keep" t.f_Waiting_try_keep
  fn_Waiting_how_many : Fun K "how_many" "Waiting.how_many" s_Waiting_how_many t.f_Waiting_how_many t.fd_Waiting_how_many
  b_Waiting_how_many : Binds K t.fd_Waiting_how_many ["self"] []
  me_Waiting_how_many : Meth K t.c_Waiting "how_many" t.f_Waiting_how_many
  fn_Waiting_due_waits : Fun K "due_waits" "Waiting.due_waits" s_Waiting_due_waits t.f_Waiting_due_waits t.fd_Waiting_due_waits
  b_Waiting_due_waits : Binds K t.fd_Waiting_due_waits ["self"] []
  me_Waiting_due_waits : Meth K t.c_Waiting "due_waits" t.f_Waiting_due_waits
  fn_Waiting_take_due : Fun K "take_due" "Waiting.take_due" s_Waiting_take_due t.f_Waiting_take_due t.fd_Waiting_take_due
  b_Waiting_take_due : Binds K t.fd_Waiting_take_due ["self"] []
  me_Waiting_take_due : Meth K t.c_Waiting "take_due" t.f_Waiting_take_due
  fn_Waiting_give_up_due : Fun K "give_up_due" "Waiting.give_up_due" s_Waiting_give_up_due t.f_Waiting_give_up_due t.fd_Waiting_give_up_due
  b_Waiting_give_up_due : Binds K t.fd_Waiting_give_up_due ["self"] []
  me_Waiting_give_up_due : Meth K t.c_Waiting "give_up_due" t.f_Waiting_give_up_due
  fn_Receiver_init : Fun K "__init__" "Receiver.__init__" s_Receiver_init t.f_Receiver_init t.fd_Receiver_init
  b_Receiver_init : Binds K t.fd_Receiver_init ["self", "own", "depth"] []
  fn_Receiver_receive : Fun K "receive" "Receiver.receive" s_Receiver_receive t.f_Receiver_receive t.fd_Receiver_receive
  b_Receiver_receive : Binds K t.fd_Receiver_receive ["self", "octets", "arrival"] []
  me_Receiver_receive : Meth K t.c_Receiver "receive" t.f_Receiver_receive
  fn_Receiver_doubt : Fun K "doubt" "Receiver.doubt" s_Receiver_doubt t.f_Receiver_doubt t.fd_Receiver_doubt
  b_Receiver_doubt : Binds K t.fd_Receiver_doubt ["self", "packet", "way"] []
  me_Receiver_doubt : Meth K t.c_Receiver "doubt" t.f_Receiver_doubt
  fn_Receiver_begin_numbers : Fun K "begin_numbers" "Receiver.begin_numbers" s_Receiver_begin_numbers t.f_Receiver_begin_numbers t.fd_Receiver_begin_numbers
  b_Receiver_begin_numbers : Binds K t.fd_Receiver_begin_numbers ["self", "number", "way"] []
  me_Receiver_begin_numbers : Meth K t.c_Receiver "begin_numbers" t.f_Receiver_begin_numbers
  fn_Receiver_keep_counted : Fun K "keep_counted" "Receiver.keep_counted" s_Receiver_keep_counted t.f_Receiver_keep_counted t.fd_Receiver_keep_counted
  b_Receiver_keep_counted : Binds K t.fd_Receiver_keep_counted ["self", "whole", "packet"] []
  me_Receiver_keep_counted : Meth K t.c_Receiver "keep_counted" t.f_Receiver_keep_counted
  fn_Receiver_take : Fun K "take" "Receiver.take" s_Receiver_take t.f_Receiver_take t.fd_Receiver_take
  b_Receiver_take : Binds K t.fd_Receiver_take ["self", "most"] []
  me_Receiver_take : Meth K t.c_Receiver "take" t.f_Receiver_take
  fn_Receiver_report : Fun K "report" "Receiver.report" s_Receiver_report t.f_Receiver_report t.fd_Receiver_report
  b_Receiver_report : Binds K t.fd_Receiver_report ["self", "now"] []
  me_Receiver_report : Meth K t.c_Receiver "report" t.f_Receiver_report
  fn_Receiver_report_block : Fun K "report_block" "Receiver.report_block" s_Receiver_report_block t.f_Receiver_report_block t.fd_Receiver_report_block
  b_Receiver_report_block : Binds K t.fd_Receiver_report_block ["self", "now"] []
  me_Receiver_report_block : Meth K t.c_Receiver "report_block" t.f_Receiver_report_block
  fn_Receiver_hear : Fun K "hear" "Receiver.hear" s_Receiver_hear t.f_Receiver_hear t.fd_Receiver_hear
  b_Receiver_hear : Binds K t.fd_Receiver_hear ["self", "octets", "now"] []
  me_Receiver_hear : Meth K t.c_Receiver "hear" t.f_Receiver_hear
  fn_Receiver_tell : Fun K "tell" "Receiver.tell" s_Receiver_tell t.f_Receiver_tell t.fd_Receiver_tell
  b_Receiver_tell : Binds K t.fd_Receiver_tell ["self"] []
  me_Receiver_tell : Meth K t.c_Receiver "tell" t.f_Receiver_tell
  fn_Receiver_told_counts : Fun K "told_counts" "Receiver.told_counts" s_Receiver_told_counts t.f_Receiver_told_counts t.fd_Receiver_told_counts
  b_Receiver_told_counts : Binds K t.fd_Receiver_told_counts ["self"] []
  me_Receiver_told_counts : Meth K t.c_Receiver "told_counts" t.f_Receiver_told_counts
  fn_taken : Fun K "taken" "taken" s_taken t.f_taken t.fd_taken
  b_taken : Binds K t.fd_taken ["whole", "packet"] []
  mg_taken : mg "taken" = some (.ref t.f_taken)
  fn_Desk_init : Fun K "__init__" "Desk.__init__" s_Desk_init t.f_Desk_init t.fd_Desk_init
  b_Desk_init : Binds K t.fd_Desk_init ["self", "calls"] []
  fn_Desk_has_more : Fun K "has_more" "Desk.has_more" s_Desk_has_more t.f_Desk_has_more t.fd_Desk_has_more
  b_Desk_has_more : Binds K t.fd_Desk_has_more ["self"] []
  me_Desk_has_more : Meth K t.c_Desk "has_more" t.f_Desk_has_more
  fn_Desk_draw : Fun K "draw" "Desk.draw" s_Desk_draw t.f_Desk_draw t.fd_Desk_draw
  b_Desk_draw : Binds K t.fd_Desk_draw ["self"] []
  me_Desk_draw : Meth K t.c_Desk "draw" t.f_Desk_draw
  fn_Desk_draw_row : Fun K "draw_row" "Desk.draw_row" s_Desk_draw_row t.f_Desk_draw_row t.fd_Desk_draw_row
  b_Desk_draw_row : Binds K t.fd_Desk_draw_row ["self"] []
  me_Desk_draw_row : Meth K t.c_Desk "draw_row" t.f_Desk_draw_row
  fn_Desk_answer_call : Fun K "answer_call" "Desk.answer_call" s_Desk_answer_call t.f_Desk_answer_call t.fd_Desk_answer_call
  b_Desk_answer_call : Binds K t.fd_Desk_answer_call ["self"] []
  me_Desk_answer_call : Meth K t.c_Desk "answer_call" t.f_Desk_answer_call
  fn_Desk_answer_begin : Fun K "answer_begin" "Desk.answer_begin" s_Desk_answer_begin t.f_Desk_answer_begin t.fd_Desk_answer_begin
  b_Desk_answer_begin : Binds K t.fd_Desk_answer_begin ["self"] []
  me_Desk_answer_begin : Meth K t.c_Desk "answer_begin" t.f_Desk_answer_begin
  fn_Desk_answer_receive : Fun K "answer_receive" "Desk.answer_receive" s_Desk_answer_receive t.f_Desk_answer_receive t.fd_Desk_answer_receive
  b_Desk_answer_receive : Binds K t.fd_Desk_answer_receive ["self"] []
  me_Desk_answer_receive : Meth K t.c_Desk "answer_receive" t.f_Desk_answer_receive
  fn_Desk_answer_heard : Fun K "answer_heard" "Desk.answer_heard" s_Desk_answer_heard t.f_Desk_answer_heard t.fd_Desk_answer_heard
  b_Desk_answer_heard : Binds K t.fd_Desk_answer_heard ["self"] []
  me_Desk_answer_heard : Meth K t.c_Desk "answer_heard" t.f_Desk_answer_heard
  fn_answers : Fun K "answers" "answers" s_answers t.f_answers t.fd_answers
  b_answers : Binds K t.fd_answers ["calls"] []
  mg_answers : mg "answers" = some (.ref t.f_answers)
  g_MOST_BYTES : GlI mg "MOST_BYTES" (.int (65535))
  g_VERSION : GlI mg "VERSION" (.int (2))
  g_PADDING : GlI mg "PADDING" (.int (32))
  g_FOUR_BYTES : GlI mg "FOUR_BYTES" (.int (4294967296))
  g_NUMBERS : GlI mg "NUMBERS" (.int (65536))
  g_FAR_AHEAD : GlI mg "FAR_AHEAD" (.int (3000))
  g_FAR_BEHIND : GlI mg "FAR_BEHIND" (.int (65436))
  g_MOST_SHARE : GlI mg "MOST_SHARE" (.int (255))
  g_LEAST_MISSING : GlI mg "LEAST_MISSING" (.int (-8388608))
  g_MOST_MISSING : GlI mg "MOST_MISSING" (.int (8388607))
  g_HEAD_LENGTH : GlI mg "HEAD_LENGTH" (.int (12))
  g_EXTENSION : GlI mg "EXTENSION" (.int (16))
  g_OTHER_SOURCES : GlI mg "OTHER_SOURCES" (.int (15))
  g_MARK : GlI mg "MARK" (.int (128))
  g_SENDER_REPORT : GlI mg "SENDER_REPORT" (.int (200))
  g_RECEIVER_REPORT : GlI mg "RECEIVER_REPORT" (.int (201))
  g_GOODBYE : GlI mg "GOODBYE" (.int (203))
  g_LEAST_LENGTH : GlI mg "LEAST_LENGTH" (.int (8))
  g_ENTRIES : GlI mg "ENTRIES" (.int (31))
  g_MOST_WAITING : GlI mg "MOST_WAITING" (.int (64))
  g_MOST_CARRIED : GlI mg "MOST_CARRIED" (.int (1472))
  g_KEPT : GlI mg "KEPT" (.int (1))
  g_COUNTED : GlI mg "COUNTED" (.int (0))
  g_NOT_BELIEVED : GlI mg "NOT_BELIEVED" (.int (2))
  g_NO_PACKET : GlI mg "NO_PACKET" (.int (-1))
  g_OTHER_SOURCE : GlI mg "OTHER_SOURCE" (.int (-2))
  g_NOT_THERE_YET : GlI mg "NOT_THERE_YET" (.int (-1))
  g_LOST : GlI mg "LOST" (.int (-2))
  g_MOST_TOO_SMALL : GlI mg "MOST_TOO_SMALL" (.int (-3))
  g_PARTS_NOT_RIGHT : GlI mg "PARTS_NOT_RIGHT" (.int (-1))
  g_NONE_HEARD_OF : GlI mg "NONE_HEARD_OF" (.int (-1))
  g_THREE_BYTES : GlI mg "THREE_BYTES" (.int (16777216))
  g_RP_BEGIN : GlI mg "RP_BEGIN" (.int (0))
  g_RP_RECEIVE : GlI mg "RP_RECEIVE" (.int (1))
  g_RP_TAKE : GlI mg "RP_TAKE" (.int (2))
  g_RP_REPORT : GlI mg "RP_REPORT" (.int (3))
  g_RP_HEARD : GlI mg "RP_HEARD" (.int (4))
  g_RP_TOLD : GlI mg "RP_TOLD" (.int (5))
  g_LEAST_DEPTH : GlI mg "LEAST_DEPTH" (.int (1))
  g_MOST_DEPTH : GlI mg "MOST_DEPTH" (.int (32))
  g_BEGUN : GlI mg "BEGUN" (.int (0))
  g_DEPTH_REFUSED : GlI mg "DEPTH_REFUSED" (.int (-1))
  gd_LEAST_LENGTHS : GlI mg "LEAST_LENGTHS" (.ref t.d_LEAST_LENGTHS)
  kd_LEAST_LENGTHS : KD K t.d_LEAST_LENGTHS [(200, .ref t.d_LEAST_LENGTHS_0), (201, .ref t.d_LEAST_LENGTHS_1), (202, .ref t.d_LEAST_LENGTHS_2), (203, .ref t.d_LEAST_LENGTHS_3), (204, .ref t.d_LEAST_LENGTHS_4)]
  kt_LEAST_LENGTHS_0 : KT K t.d_LEAST_LENGTHS_0 [.int 28, .int 24]
  kt_LEAST_LENGTHS_1 : KT K t.d_LEAST_LENGTHS_1 [.int 8, .int 24]
  kt_LEAST_LENGTHS_2 : KT K t.d_LEAST_LENGTHS_2 [.int 8, .int 0]
  kt_LEAST_LENGTHS_3 : KT K t.d_LEAST_LENGTHS_3 [.int 4, .int 4]
  kt_LEAST_LENGTHS_4 : KT K t.d_LEAST_LENGTHS_4 [.int 8, .int 0]
  n_any : mg "any" = none
  n_len : mg "len" = none
  n_max : mg "max" = none
  n_min : mg "min" = none
  n_range : mg "range" = none
end My
namespace My
open PySem L2
/-! ### heaps, lists of bytes -/
abbrev bV (b : List Nat) : List V := b.map fun (n : Nat) => V.int (n : Int)
abbrev iL (l : List Int) : List V := l.map V.int
theorem bV_iL (b : List Nat) : bV b = iL (b.map fun (n : Nat) => (n : Int)) := by
  show _ = List.map V.int (List.map _ b)
  rw [List.map_map]
  rfl
def vO : Option Int → V
  | some z => .int z
  | none => .non
theorem pl {fs : List (Str × V)} {f : Str} {v : V} {m : Nat} (h : fs.length < m) : (putF f v fs).length < m + 1 := Nat.lt_of_le_of_lt (length_putF f v fs) (Nat.succ_lt_succ h)
theorem pl0 {m : Nat} : ([] : List (Str × V)).length < m + 1 := Nat.succ_pos m
/-- all but p as it was -/
def But (p : Addr) (H H' : Hp) : Prop := ∀ c u, H c = some u → c ≠ p → H' c = some u
theorem But.refl (p : Addr) (H : Hp) : But p H H := fun _ _ e _ => e
theorem But.upd {p : Addr} {H H' : Hp} {o : HO} (h : But p H H') : But p H (L2.upd H' p o) := fun c u e n => by rw [upd_ne n]; exact h c u e n
theorem But.same {p : Addr} {H H' H2 : Hp} (h : But p H H') (s : Same H' H2) : But p H H2 := fun c u e n => s c u (h c u e n)
theorem same_new {H : Hp} {l : Addr} {o : HO} (h : H l = Option.none) : Same H (L2.upd H l o) := fun b u e => by rw [upd_ne (ne_of_none e h)]; exact e
theorem sq_but {K : PySem.W.Frag} {H H' : Hp} {p C dx a : Addr} {fs : List (Str × V)} {xs : List V} (h : H p = some (.ins C dx fs)) (b : But p H H') (s : SqL K H a xs) : SqL K H' a xs := by
  rcases s with (s | ⟨o, s⟩) | s
  · exact .inl (.inl (b a _ s (ne_of s h (by intro z; cases z))))
  · exact .inl (.inr ⟨o, b a _ s (ne_of s h (by intro z; cases z))⟩)
  · exact .inr s
theorem cut_nat (xs : List V) (i j : Nat) : cutV xs (some (i : Int)) (some (j : Int)) = (xs.drop i).take (j - i) := by
  unfold cutV
  rw [HT.sIx_nat, HT.sIx_nat]
  by_cases h : i ≤ xs.length
  · rw [Nat.min_eq_left h]
    by_cases h2 : j ≤ xs.length
    · rw [Nat.min_eq_left h2]
    · rw [Nat.min_eq_right (by omega), List.take_of_length_le (by simp), List.take_of_length_le (by simp; omega)]
  · have e : min i xs.length = xs.length := by omega
    rw [e, List.drop_length, List.drop_of_length_le (i := i) (by omega)]
    simp
theorem cut_bV (b : List Nat) (i n : Nat) : cutV (bV b) (some (i : Int)) (some ((i : Int) + (n : Int))) = bV ((b.drop i).take n) := by
  have e : (i : Int) + (n : Int) = ((i + n : Nat) : Int) := by omega
  rw [e, cut_nat, Nat.add_sub_cancel_left, ← List.map_drop, ← List.map_take]
theorem at_bV {b : List Nat} {i : Nat} (h : i < b.length) : atI (bV b) (i : Int) = some (V.int ((b.getD i 0 : Nat) : Int)) := atI_nat (by
  rw [List.getElem?_map, List.getElem?_eq_getElem h, List.getD_eq_getElem?_getD, List.getElem?_eq_getElem h]
  rfl)
theorem last_bV {b : List Nat} (h : b ≠ []) : atI (bV b) (-1) = some (V.int ((b.getLastD 0 : Nat) : Int)) := by
  have e : bV b = bV b.dropLast ++ [V.int ((b.getLast h : Nat) : Int)] := by
    conv => lhs; rw [← List.dropLast_concat_getLast h]
    simp
  rw [e, atI_last]
  congr 2
  rw [List.getLastD_eq_getLast?, List.getLast?_eq_some_getLast h]
  rfl
theorem bit15 (f : Nat) : Builtin.bitAnd (f : Int) 15 = ((f % 16 : Nat) : Int) := by
  have := PyProof.Rows.bitAnd_m4 (f : Int)
  rw [this]
  omega
theorem bit16 : ∀ f : Nat, f < 256 → Builtin.bitAnd (f : Int) 16 = ((16 * (f / 16 % 2) : Nat) : Int) := by decide +kernel
theorem bit32 : ∀ f : Nat, f < 256 → Builtin.bitAnd (f : Int) 32 = ((32 * (f / 32 % 2) : Nat) : Int) := by decide +kernel
theorem bit31 : ∀ f : Nat, f < 256 → Builtin.bitAnd (f : Int) 31 = ((f % 32 : Nat) : Int) := by decide +kernel
theorem num_snoc {s : List Nat} {i x : Nat} (h : s[i]? = some x) : Ql48.num (s.take (i + 1)) = 256 * Ql48.num (s.take i) + x := by
  obtain ⟨hi, e⟩ := List.getElem?_eq_some_iff.mp h
  unfold Ql48.num
  rw [List.take_succ, h, List.foldl_append]
  rfl
/-! ### what the defs promise -/
def sp_read_number (K : PySem.W.Frag) : Sp := fun vs H Q _ => ∃ (o : Addr) (b : List Nat) (i n : Nat), vs = [.ref o, .int (i : Int), .int (n : Int)] ∧ SqL K H o (bV b) ∧ ∀ H', Same H H' → Q (.int ((Ql48.field b i n : Nat) : Int)) H'
/-- a new list of whole numbers is given back, all else stays -/
def NewL (H : Hp) (Q : VK) (l : List Int) : Prop := ∀ r H', Same H H' → H r = none → H' r = some (.lst (iL l)) → Q (.ref r) H'
def sp_write_number : Sp := fun vs H Q _ => ∃ (z : Int) (n : Nat), vs = [.int z, .int (n : Int)] ∧ n ≤ 1000 ∧ NewL H Q (LP.writeM z n)
def sp_has_version (K : PySem.W.Frag) : Sp := fun vs H Q _ => ∃ (o : Addr) (b : List Nat), vs = [.ref o] ∧ SqL K H o (bV b) ∧ 0 < b.length ∧ Q (.bl (decide (LP.hd b / 64 = 2))) H
def sp_has_padding (K : PySem.W.Frag) : Sp := fun vs H Q _ => ∃ (o : Addr) (b : List Nat), vs = [.ref o] ∧ SqL K H o (bV b) ∧ 0 < b.length ∧ (∀ x ∈ b, x ≤ 255) ∧ Q (.bl (LP.pd b)) H
def sp_padding_length (K : PySem.W.Frag) : Sp := fun vs H Q _ => ∃ (o : Addr) (b : List Nat), vs = [.ref o] ∧ SqL K H o (bV b) ∧ 0 < b.length ∧ (∀ x ∈ b, x ≤ 255) ∧ Q (.int ((LP.padLen b : Nat) : Int)) H
section
variable {P : Program} {w : World} {K : PySem.W.Frag} {mg : Str → Option Value} {base : Heap} {t : Adr}
theorem ok_read_number (T : Txt K mg t) : FnOk P w K mg base CX0 1 t.f_read_number t.fd_read_number ["octets", "start", "length"] (sp_read_number K) := by
  refine T.fn_read_number.ok sc_read_number (fun vs H Q E h => ?_) (fun cdv A outer s H vs Q E hr h => ?_)
  · obtain ⟨o, b, i, n, rfl, _⟩ := h
    rfl
  · obtain ⟨o, b, i, n, rfl, hS, k⟩ := h
    refine ⟨_, (pss_cons (ps_set (i := 3) sc_read_number.nd rfl (Or.inl rfl) pe_int)
      (pss_cons (ps_for PassesOwn.never rfl (pi_list (pe_slice sl_list (pv 0) (po_some (pv 1)) (po_some (pe_op op_add (pv 1) (pv 2))))) (pg_name (i := 4) sc_read_number.nd rfl (Or.inl rfl)) (pss_one (ps_set (i := 3) sc_read_number.nd rfl (Or.inl rfl) (pe_op op_add (pe_op op_mul (pv 3) pe_int) (pv 4)))))
      (pss_one (ps_ret (pv 3))))), ?_⟩
    refine ⟨_, rfl, _, rfl, _, rfl, _, rfl, _, rfl, _, _, rfl, rfl, _, rfl, o, _, rfl, hS, fun l hl => ?_⟩
    rw [cut_bV]
    generalize hs : (b.drop i).take n = s
    have sq : SqL K (upd H l (.lst (bV s))) l (bV s) := SqL.of upd_same
    refine ⟨l, rfl, ⟨_, sq⟩, for_list (K := K) (a := l) (xs := bV s) (fun j σ H2 => ∃ v4 : Option V, σ = [some (.ref o), some (.int (i : Int)), some (.int (n : Int)), some (.int ((Ql48.num (s.take j) : Nat) : Int)), v4] ∧ H2 = upd H l (.lst (bV s)))
      ⟨none, rfl, rfl⟩ (fun j σ H2 _ ⟨_, _, e⟩ => by rw [e]; exact sq) ?_ ?_⟩
    · rintro j x σ H2 hj ⟨v4, rfl, rfl⟩
      obtain ⟨y, hy, rfl⟩ : ∃ y, s[j]? = some y ∧ x = V.int ((y : Nat) : Int) := by
        rw [List.getElem?_map] at hj
        cases e : s[j]? with
        | none => rw [e] at hj; cases hj
        | some y => rw [e] at hj; exact ⟨y, rfl, (Option.some.inj hj).symm⟩
      refine ⟨_, rfl, _, _, rfl, rfl, .inr ⟨by decide, by decide⟩, _, rfl, _, _, rfl, rfl, ?_⟩
      refine ⟨some (.int ((y : Nat) : Int)), ?_, rfl⟩
      have e : ((Ql48.num (s.take j) : Nat) : Int) * 256 + (y : Int) = ((Ql48.num (s.take (j + 1)) : Nat) : Int) := by
        rw [num_snoc hy]
        omega
      show ([some (.ref o), some (.int (i : Int)), some (.int (n : Int)), some (.int (((Ql48.num (s.take j) : Nat) : Int) * 256 + (y : Int))), some (.int ((y : Nat) : Int))] : List (Option V)) = _
      rw [e]
    · rintro σ H2 ⟨v4, rfl, rfl⟩
      refine ⟨_, rfl, ?_⟩
      have e : Ql48.num (s.take (bV s).length) = Ql48.field b i n := by
        rw [List.length_map, List.take_length, ← hs]
        rfl
      rw [e]
      exact k _ (same_new hl)
theorem ok_write_number (T : Txt K mg t) : FnOk P w K mg base CX0 1 t.f_write_number t.fd_write_number ["number", "length"] sp_write_number := by
  refine T.fn_write_number.ok sc_write_number (fun vs H Q E h => ?_) (fun cdv A outer s H vs Q E hr h => ?_)
  · obtain ⟨z, n, rfl, _⟩ := h
    rfl
  · obtain ⟨z, n, rfl, hn, k⟩ := h
    have sz : 4000 ≤ sizeLine := by decide
    refine ⟨_, (pss_cons (ps_set (i := 2) sc_write_number.nd rfl (Or.inl rfl) (pe_lst pa_nil))
      (pss_cons (ps_set (i := 3) sc_write_number.nd rfl (Or.inl rfl) (pv 0))
      (pss_cons (ps_for PassesOwn.never rfl (pi_range1 rfl T.n_range (pa_cons (pv 1) pa_nil)) (pg_name (i := 4) sc_write_number.nd rfl (Or.inl rfl)) (pss_cons (ps_expr (pe_bm PySem.F.plainAttrs_list PySem.F.slot_list_insert PySem.F.type_list_insert mt_insert (pv 2) (pa_cons pe_int (pa_cons (pe_op op_mod (pv 3) pe_int) pa_nil))))
      (pss_one (ps_set (i := 3) sc_write_number.nd rfl (Or.inl rfl) (pe_op op_fdiv (pv 3) pe_int)))))
      (pss_one (ps_ret (pv 2)))))), ?_⟩
    -- octets = []
    refine ⟨Nat.zero_le _, fun l hl => ?_⟩
    -- rest = number
    refine ⟨_, rfl, ?_⟩
    refine ⟨_, rfl, (n : Int), rfl, by omega, by omega, ?_⟩
    refine for_range (lo := 0) (n := ((n : Nat) : Int).toNat) (fun j σ H2 => ∃ v4 : Option V, σ = [some (.int z), some (.int (n : Int)), some (.ref l), some (.int (z / 256 ^ j)), v4] ∧ Same H H2 ∧ H2 l = some (.lst (iL (LP.writeM z j))))
      ⟨none, ?_, same_new hl, upd_same⟩ ?_ ?_
    · show _ = [some (V.int z), some (.int (n : Int)), some (.ref l), some (.int (z / 256 ^ 0)), none]
      rw [show z / 256 ^ 0 = z by simp]
      rfl
    · rintro j σ H2 hj ⟨v4, rfl, hs2, hl2⟩
      have hjn : j < n := by omega
      -- octets.insert(0, rest % 256)
      refine ⟨_, rfl, .inl ⟨rfl, _, SqL.of hl2⟩, _, rfl, _, _, rfl, rfl, (by show (0 : Int) < 256; decide), l, _, _, rfl, rfl, hl2, by rw [List.length_map, LP.writeM_length]; omega, ?_⟩
      -- rest = rest // 256
      refine ⟨_, rfl, _, _, rfl, rfl, ⟨by decide, by decide⟩, ?_⟩
      refine ⟨some (.int (0 + (j : Int))), ?_, ?_, ?_⟩
      · show ([some (V.int z), some (.int (n : Int)), some (.ref l), some (.int (z / 256 ^ j / 256)), some (.int (0 + (j : Int)))] : List (Option V)) = _
        rw [show z / 256 ^ j / 256 = z / 256 ^ (j + 1) by rw [Int.pow_succ, Int.ediv_ediv_of_nonneg (by exact Int.le_of_lt (Int.pow_pos (by decide)))]]
      · intro b u e
        rw [upd_ne (ne_of_none e hl)]
        exact hs2 b u e
      · exact upd_same
    · rintro σ H2 ⟨v4, rfl, hs2, hl2⟩
      refine ⟨_, rfl, ?_⟩
      exact k l H2 hs2 hl hl2
theorem ok_has_version (T : Txt K mg t) : FnOk P w K mg base CX0 1 t.f_has_version t.fd_has_version ["octets"] (sp_has_version K) := by
  refine T.fn_has_version.ok sc_has_version (fun vs H Q E h => ?_) (fun cdv A outer s H vs Q E hr h => ?_)
  · obtain ⟨o, b, rfl, _⟩ := h
    rfl
  · obtain ⟨o, b, rfl, hS, h0, k⟩ := h
    have hx0 : atI (bV b) 0 = some (V.int ((LP.hd b : Nat) : Int)) := at_bV (i := 0) h0
    refine ⟨_, (pss_one (ps_ret (pe_cmpR op_eq (pe_op op_fdiv (pe_ix ix_list (pv 0) pe_int (fun _ _ => rfl)) pe_int) (pe_gl T.g_VERSION rfl) (nomark _)))), ?_⟩
    refine ⟨_, rfl, o, _, _, _, rfl, rfl, hS, hx0, _, _, rfl, rfl, ⟨by decide, by decide⟩, rfl, ?_⟩
    have e : decide (V.int (((LP.hd b : Nat) : Int) / 64) = V.int 2) = decide (LP.hd b / 64 = 2) := by
      refine decide_eq_decide.mpr ⟨fun z => ?_, fun z => congrArg V.int (by omega)⟩
      have := V.int.inj z
      omega
    rw [← e] at k
    exact k
theorem ok_has_padding (T : Txt K mg t) : FnOk P w K mg base CX0 1 t.f_has_padding t.fd_has_padding ["octets"] (sp_has_padding K) := by
  refine T.fn_has_padding.ok sc_has_padding (fun vs H Q E h => ?_) (fun cdv A outer s H vs Q E hr h => ?_)
  · obtain ⟨o, b, rfl, _⟩ := h
    rfl
  · obtain ⟨o, b, rfl, hS, h0, hb, k⟩ := h
    have hx0 : atI (bV b) 0 = some (V.int ((LP.hd b : Nat) : Int)) := at_bV (i := 0) h0
    have e32 := bit32 (LP.hd b) (Nat.lt_succ_of_le (LP.getD_le hb 0))
    refine ⟨_, (pss_one (ps_ret (pe_cmpR op_ne (pe_op op_and (pe_ix ix_list (pv 0) pe_int (fun _ _ => rfl)) (pe_gl T.g_PADDING rfl)) pe_int (nomark _)))), ?_⟩
    refine ⟨_, rfl, o, _, _, _, rfl, rfl, hS, hx0, _, _, rfl, rfl, rfl, ?_⟩
    have e : (!decide (V.int (Builtin.bitAnd ((LP.hd b : Nat) : Int) 32) = V.int 0)) = LP.pd b := by
      unfold LP.pd
      rw [e32]
      congr 1
      refine decide_eq_decide.mpr ⟨fun z => ?_, fun z => congrArg V.int (by omega)⟩
      have := V.int.inj z
      omega
    rw [← e] at k
    exact k
theorem ok_padding_length (T : Txt K mg t) : FnOk P w K mg base CX0 2 t.f_padding_length t.fd_padding_length ["octets"] (sp_padding_length K) := by
  refine T.fn_padding_length.ok sc_padding_length (fun vs H Q E h => ?_) (fun cdv A outer s H vs Q E hr h => ?_)
  · obtain ⟨o, b, rfl, _⟩ := h
    rfl
  · obtain ⟨o, b, rfl, hS, h0, hb, k⟩ := h
    refine ⟨_, (pss_cons (ps_if (pt_val (pe_call (ok_has_padding T) (hr.mono (by decide)) rfl T.mg_has_padding T.fn_has_padding.kp T.b_has_padding .nil pass0 (pa_cons (pv 0) pa_nil))) (pss_one (ps_ret (pe_ix ix_list (pv 0) (pe_un un_neg pe_int) (fun _ _ => rfl)))) pss_nil)
      (pss_one (ps_ret pe_int))), ?_⟩
    refine ⟨_, rfl, o, b, rfl, hS, h0, hb, _, rfl, ?_⟩
    have e : LP.padLen b = if LP.pd b = true then b.getLastD 0 else 0 := by
      unfold LP.padLen LP.pd
      by_cases h : LP.hd b / 32 % 2 = 0 <;> simp [h]
    rw [e] at k
    refine ite2 (fun h1 => ?_) (fun h1 => ?_)
    · rw [if_pos h1] at k
      exact ⟨_, rfl, _, rfl, o, _, _, _, rfl, rfl, hS, last_bV (by intro z; rw [z] at h0; simp at h0), k⟩
    · rw [if_neg h1] at k
      exact k
end
end My
namespace My
open PySem L2
/-! ### counting -/
def sp_number_behind : Sp := fun vs H Q _ => ∃ n : Int, vs = [.int n] ∧ Q (.int ((n + 1) % 65536)) H
def sp_way_of : Sp := fun vs H Q _ => ∃ a t : Int, vs = [.int a, .int t] ∧ Q (.int (LP.wayM a t)) H
def sp_way_change : Sp := fun vs H Q _ => ∃ v w : Int, vs = [.int v, .int w] ∧ Q (.int (LP.changeM v w)) H
def sp_next_jitter : Sp := fun vs H Q _ => ∃ j c : Int, vs = [.int j, .int c] ∧ Q (.int (LP.jitM j c)) H
def oCnt (t : Adr) (dx : Addr) (c : LP.Cnt) : HO := .ins t.c_Counting dx (fs_Counting (.int c.first) (.int c.greatest) (.int c.came) (.int c.jitter) (.int c.way) (.int c.te) (.int c.tc))
def sp_Counting_init (t : Adr) : Sp := fun vs H Q _ => ∃ (p dx : Addr) (n w : Int), vs = [.ref p, .int n, .int w] ∧ H p = some (.ins t.c_Counting dx []) ∧ Q .non (upd H p (oCnt t dx ⟨n, n, 1, 0, w, 0, 0⟩))
def sp_Counting_whole_number (t : Adr) : Sp := fun vs H Q _ => ∃ (p dx : Addr) (c : LP.Cnt) (n : Int), vs = [.ref p, .int n] ∧ H p = some (oCnt t dx c) ∧ Q (vO (LP.wholeM c.greatest n)) H
def sp_Counting_add_packet (t : Adr) : Sp := fun vs H Q _ => ∃ (p dx : Addr) (c : LP.Cnt) (z w : Int), vs = [.ref p, .int z, .int w] ∧ H p = some (oCnt t dx c) ∧ Q .non (upd H p (oCnt t dx (c.add z w)))
def sp_share_lost : Sp := fun vs H Q _ => ∃ e c : Int, vs = [.int e, .int c] ∧ 0 ≤ e ∧ e < 1073741824 ∧ Q (.int (LP.shareM e c)) H
def sp_held_missing : Sp := fun vs H Q _ => ∃ z : Int, vs = [.int z] ∧ Q (.int (LP.heldM z)) H
def sp_Counting_how_many_expected (t : Adr) : Sp := fun vs H Q _ => ∃ (p dx : Addr) (c : LP.Cnt), vs = [.ref p] ∧ H p = some (oCnt t dx c) ∧ Q (.int c.expected) H
def sp_Counting_how_many_missing (t : Adr) : Sp := fun vs H Q _ => ∃ (p dx : Addr) (c : LP.Cnt), vs = [.ref p] ∧ H p = some (oCnt t dx c) ∧ Q (.int c.missing) H
/-- the numbers are such as can be divided by -/
def CntOk (c : LP.Cnt) : Prop := 0 ≤ c.expected - c.te ∧ c.expected - c.te < 1073741824
def sp_Counting_share_lost_since_told (t : Adr) : Sp := fun vs H Q _ => ∃ (p dx : Addr) (c : LP.Cnt), vs = [.ref p] ∧ H p = some (oCnt t dx c) ∧ CntOk c ∧ Q (.int c.share) H
def sp_Counting_note_told (t : Adr) : Sp := fun vs H Q _ => ∃ (p dx : Addr) (c : LP.Cnt), vs = [.ref p] ∧ H p = some (oCnt t dx c) ∧ Q .non (upd H p (oCnt t dx c.noted))
def sp_Counting_told_jitter (t : Adr) : Sp := fun vs H Q _ => ∃ (p dx : Addr) (c : LP.Cnt), vs = [.ref p] ∧ H p = some (oCnt t dx c) ∧ Q (.int (c.jitter / 16)) H
section
variable {P : Program} {w : World} {K : PySem.W.Frag} {mg : Str → Option Value} {base : Heap} {t : Adr}
theorem ok_number_behind (T : Txt K mg t) : FnOk P w K mg base CX0 1 t.f_number_behind t.fd_number_behind ["number"] sp_number_behind := by
  refine T.fn_number_behind.ok sc_number_behind (fun vs H Q E h => ?_) (fun cdv A outer s H vs Q E hr h => ?_)
  · obtain ⟨n, rfl, _⟩ := h
    rfl
  · obtain ⟨n, rfl, k⟩ := h
    refine ⟨_, (pss_one (ps_ret (pe_op op_mod (pe_op op_add (pv 0) pe_int) (pe_gl T.g_NUMBERS rfl)))), ?_⟩
    exact ⟨_, rfl, _, _, rfl, rfl, _, _, rfl, rfl, (by show (0 : Int) < 65536; decide), k⟩
theorem ok_way_of (T : Txt K mg t) : FnOk P w K mg base CX0 1 t.f_way_of t.fd_way_of ["arrival", "stamp"] sp_way_of := by
  refine T.fn_way_of.ok sc_way_of (fun vs H Q E h => ?_) (fun cdv A outer s H vs Q E hr h => ?_)
  · obtain ⟨a, b, rfl, _⟩ := h
    rfl
  · obtain ⟨a, b, rfl, k⟩ := h
    refine ⟨_, (pss_one (ps_ret (pe_op op_mod (pe_op op_sub (pv 0) (pv 1)) (pe_gl T.g_FOUR_BYTES rfl)))), ?_⟩
    exact ⟨_, rfl, _, rfl, _, _, rfl, rfl, _, _, rfl, rfl, (by show (0 : Int) < 4294967296; decide), k⟩
theorem ok_way_change (T : Txt K mg t) : FnOk P w K mg base CX0 1 t.f_way_change t.fd_way_change ["before", "after"] sp_way_change := by
  refine T.fn_way_change.ok sc_way_change (fun vs H Q E h => ?_) (fun cdv A outer s H vs Q E hr h => ?_)
  · obtain ⟨a, b, rfl, _⟩ := h
    rfl
  · obtain ⟨a, b, rfl, k⟩ := h
    refine ⟨_, (pss_cons (ps_set (i := 2) sc_way_change.nd rfl (Or.inl rfl) (pe_op op_mod (pe_op op_sub (pv 1) (pv 0)) (pe_gl T.g_FOUR_BYTES rfl)))
      (pss_one (ps_ret (pe_callB (call_min2 rfl) rfl T.n_min PyProof.Rows.boot_min (pa_cons (pv 2) (pa_cons (pe_op op_sub (pe_gl T.g_FOUR_BYTES rfl) (pv 2)) pa_nil)))))), ?_⟩
    refine ⟨_, rfl, _, rfl, _, _, rfl, rfl, _, _, rfl, rfl, (by show (0 : Int) < 4294967296; decide), ?_⟩
    exact ⟨_, rfl, _, rfl, _, _, rfl, rfl, _, _, rfl, k⟩
theorem ok_next_jitter (T : Txt K mg t) : FnOk P w K mg base CX0 1 t.f_next_jitter t.fd_next_jitter ["jitter", "change"] sp_next_jitter := by
  refine T.fn_next_jitter.ok sc_next_jitter (fun vs H Q E h => ?_) (fun cdv A outer s H vs Q E hr h => ?_)
  · obtain ⟨a, b, rfl, _⟩ := h
    rfl
  · obtain ⟨a, b, rfl, k⟩ := h
    refine ⟨_, (pss_one (ps_ret (pe_op op_sub (pe_op op_add (pv 0) (pv 1)) (pe_op op_fdiv (pe_op op_add (pv 0) pe_int) pe_int)))), ?_⟩
    exact ⟨_, rfl, _, rfl, _, _, rfl, rfl, _, rfl, _, _, rfl, rfl, _, _, rfl, rfl, ⟨by decide, by decide⟩, _, _, rfl, rfl, k⟩
theorem ok_Counting_init (T : Txt K mg t) : FnOk P w K mg base CX0 1 t.f_Counting_init t.fd_Counting_init ["self", "number", "way"] (sp_Counting_init t) := by
  refine T.fn_Counting_init.ok sc_Counting_init (fun vs H Q E h => ?_) (fun cdv A outer s H vs Q E hr h => ?_)
  · obtain ⟨p, dx, n, w, rfl, _⟩ := h
    rfl
  · obtain ⟨p, dx, n, w, rfl, hp, k⟩ := h
    refine ⟨_, (pss_cons (ps_fld (pv 0) (pv 1) rfl)
      (pss_cons (ps_fld (pv 0) (pv 1) rfl)
      (pss_cons (ps_fld (pv 0) pe_int rfl)
      (pss_cons (ps_fld (pv 0) pe_int rfl)
      (pss_cons (ps_fld (pv 0) (pv 2) rfl)
      (pss_cons (ps_fld (pv 0) pe_int rfl)
      (pss_one (ps_fld (pv 0) pe_int rfl)))))))), ?_⟩
    refine ⟨_, rfl, _, rfl, p, _, dx, _, rfl, hp, T.cl_Counting, T.na_Counting_first, pl0, ?_⟩
    refine ⟨_, rfl, _, rfl, p, _, dx, _, rfl, upd_same, T.cl_Counting, T.na_Counting_greatest, pl pl0, ?_⟩
    refine ⟨_, rfl, p, _, dx, _, rfl, upd_same, T.cl_Counting, T.na_Counting_came, pl (pl pl0), ?_⟩
    refine ⟨_, rfl, p, _, dx, _, rfl, upd_same, T.cl_Counting, T.na_Counting_jitter, pl (pl (pl pl0)), ?_⟩
    refine ⟨_, rfl, _, rfl, p, _, dx, _, rfl, upd_same, T.cl_Counting, T.na_Counting_way, pl (pl (pl (pl pl0))), ?_⟩
    refine ⟨_, rfl, p, _, dx, _, rfl, upd_same, T.cl_Counting, T.na_Counting_told_expected, pl (pl (pl (pl (pl pl0)))), ?_⟩
    refine ⟨_, rfl, p, _, dx, _, rfl, upd_same, T.cl_Counting, T.na_Counting_told_came, pl (pl (pl (pl (pl (pl pl0))))), ?_⟩
    rw [upd_upd, upd_upd, upd_upd, upd_upd, upd_upd, upd_upd, made_Counting]
    exact k
theorem ok_Counting_whole_number (T : Txt K mg t) : FnOk P w K mg base CX0 1 t.f_Counting_whole_number t.fd_Counting_whole_number ["self", "number"] (sp_Counting_whole_number t) := by
  refine T.fn_Counting_whole_number.ok sc_Counting_whole_number (fun vs H Q E h => ?_) (fun cdv A outer s H vs Q E hr h => ?_)
  · obtain ⟨p, dx, c, n, rfl, _⟩ := h
    rfl
  · obtain ⟨p, dx, c, n, rfl, hp, k⟩ := h
    refine ⟨_, (pss_cons (ps_set (i := 2) sc_Counting_whole_number.nd rfl (Or.inl rfl) (pe_op op_mod (pe_op op_sub (pv 1) (pe_fld (pv 0) rfl)) (pe_gl T.g_NUMBERS rfl)))
      (pss_cons (ps_if (pt_cmpR op_lt (pv 2) (pe_gl T.g_FAR_AHEAD rfl) (nomark _)) (pss_one (ps_ret (pe_op op_add (pe_fld (pv 0) rfl) (pv 2)))) pss_nil)
      (pss_cons (ps_if (pt_cmpR op_gt (pv 2) (pe_gl T.g_FAR_BEHIND rfl) (nomark _)) (pss_one (ps_ret (pe_op op_sub (pe_op op_add (pe_fld (pv 0) rfl) (pv 2)) (pe_gl T.g_NUMBERS rfl)))) pss_nil)
      (pss_one (ps_ret pe_non))))), ?_⟩
    -- distance = (number - self.greatest) % NUMBERS
    refine ⟨_, rfl, _, rfl, p, _, dx, _, _, rfl, hp, T.cl_Counting, T.na_Counting_greatest, get_Counting_greatest, _, _, rfl, rfl, _, _, rfl, rfl, (by show (0 : Int) < 65536; decide), ?_⟩
    -- if distance < FAR_AHEAD: return self.greatest + distance
    refine ⟨_, rfl, _, _, rfl, rfl, _, rfl, ?_⟩
    unfold LP.wholeM at k
    refine ite2 (fun h1 => ?_) (fun h1 => ?_)
    · rw [if_pos (of_decide_eq_true h1)] at k
      exact ⟨_, rfl, p, _, dx, _, _, rfl, hp, T.cl_Counting, T.na_Counting_greatest, get_Counting_greatest, _, rfl, _, _, rfl, rfl, k⟩
    · rw [if_neg (fun z => h1 (decide_eq_true z))] at k
      refine ⟨_, rfl, _, _, rfl, rfl, _, rfl, ?_⟩
      refine ite2 (fun h2 => ?_) (fun h2 => ?_)
      · rw [if_pos (of_decide_eq_true h2)] at k
        exact ⟨_, rfl, p, _, dx, _, _, rfl, hp, T.cl_Counting, T.na_Counting_greatest, get_Counting_greatest, _, rfl, _, _, rfl, rfl, _, _, rfl, rfl, k⟩
      · rw [if_neg (fun z => h2 (decide_eq_true z))] at k
        exact k
theorem ok_Counting_add_packet (T : Txt K mg t) : FnOk P w K mg base CX0 2 t.f_Counting_add_packet t.fd_Counting_add_packet ["self", "whole", "way"] (sp_Counting_add_packet t) := by
  refine T.fn_Counting_add_packet.ok sc_Counting_add_packet (fun vs H Q E h => ?_) (fun cdv A outer s H vs Q E hr h => ?_)
  · obtain ⟨p, dx, c, z, w, rfl, _⟩ := h
    rfl
  · obtain ⟨p, dx, c, z, w, rfl, hp, k⟩ := h
    refine ⟨_, (pss_cons (ps_fld (pv 0) (pe_callB (call_max2 rfl) rfl T.n_max PyProof.Rows.boot_max (pa_cons (pe_fld (pv 0) rfl) (pa_cons (pv 1) pa_nil))) rfl)
      (pss_cons (ps_fldaug (pv 0) pe_int in_add)
      (pss_cons (ps_fld (pv 0) (pe_call (ok_next_jitter T) (hr.mono (by decide)) rfl T.mg_next_jitter T.fn_next_jitter.kp T.b_next_jitter .nil pass0 (pa_cons (pe_fld (pv 0) rfl) (pa_cons (pe_call (ok_way_change T) (hr.mono (by decide)) rfl T.mg_way_change T.fn_way_change.kp T.b_way_change .nil pass0 (pa_cons (pe_fld (pv 0) rfl) (pa_cons (pv 2) pa_nil))) pa_nil))) rfl)
      (pss_one (ps_fld (pv 0) (pv 2) rfl))))), ?_⟩
    -- self.greatest = max(self.greatest, whole)
    refine ⟨_, rfl, p, _, dx, _, _, rfl, hp, T.cl_Counting, T.na_Counting_greatest, get_Counting_greatest, _, rfl, _, _, rfl, _, rfl, p, _, dx, _, rfl, hp, T.cl_Counting, T.na_Counting_greatest, len_Counting, ?_⟩
    rw [put_Counting_greatest]
    -- self.came += 1
    refine ⟨_, rfl, p, _, dx, _, _, rfl, upd_same, T.cl_Counting, T.na_Counting_came, get_Counting_came, _, _, rfl, rfl, _, _, upd_same, len_Counting, ?_⟩
    rw [put_Counting_came, upd_upd]
    -- self.jitter = next_jitter(self.jitter, way_change(self.way, way))
    refine ⟨_, rfl, p, _, dx, _, _, rfl, upd_same, T.cl_Counting, T.na_Counting_jitter, get_Counting_jitter, _, rfl, p, _, dx, _, _, rfl, upd_same, T.cl_Counting, T.na_Counting_way, get_Counting_way, _, rfl, _, _, rfl, _, _, rfl, _, rfl, p, _, dx, _, rfl, upd_same, T.cl_Counting, T.na_Counting_jitter, len_Counting, ?_⟩
    rw [put_Counting_jitter, upd_upd]
    -- self.way = way
    refine ⟨_, rfl, _, rfl, p, _, dx, _, rfl, upd_same, T.cl_Counting, T.na_Counting_way, len_Counting, ?_⟩
    rw [put_Counting_way, upd_upd]
    exact k
theorem ok_share_lost (T : Txt K mg t) : FnOk P w K mg base CX0 1 t.f_share_lost t.fd_share_lost ["expected", "came"] sp_share_lost := by
  refine T.fn_share_lost.ok sc_share_lost (fun vs H Q E h => ?_) (fun cdv A outer s H vs Q E hr h => ?_)
  · obtain ⟨e, c, rfl, _⟩ := h
    rfl
  · obtain ⟨e, c, rfl, h0, h30, k⟩ := h
    unfold LP.shareM at k
    refine ⟨_, (pss_cons (ps_if (PW.pt (pw_or (pt_cmpR op_eq (pv 0) pe_int (nomark _)) (pw_or1 (pt_cmpR op_ge (pv 1) (pv 0) (nomark _))))) (pss_one (ps_ret pe_int)) pss_nil)
      (pss_one (ps_ret (pe_callB (call_min2 rfl) rfl T.n_min PyProof.Rows.boot_min (pa_cons (pe_gl T.g_MOST_SHARE rfl) (pa_cons (pe_op op_fdiv (pe_op op_mul (pe_op op_sub (pv 0) (pv 1)) pe_int) (pv 0)) pa_nil)))))), ?_⟩
    -- if expected == 0 or came >= expected: return 0
    refine ⟨_, rfl, rfl, _, rfl, ?_⟩
    refine ite2 (fun h1 => ?_) (fun h1 => ?_)
    · rw [if_pos (.inl (V.int.inj (of_decide_eq_true h1)))] at k
      exact iteT k
    refine ⟨_, rfl, _, rfl, _, _, rfl, rfl, _, rfl, ?_⟩
    refine ite2 (fun h2 => ?_) (fun h2 => ?_)
    · rw [if_pos (.inr (of_decide_eq_true h2))] at k
      exact k
    have h1' : ¬ e = 0 := fun z => h1 (decide_eq_true (congrArg V.int z))
    have h2' : ¬ e ≤ c := fun z => h2 (decide_eq_true z)
    rw [if_neg (fun z => z.elim h1' h2')] at k
    -- return min(MOST_SHARE, (expected - came) * 256 // expected)
    exact ⟨_, rfl, _, rfl, _, _, rfl, rfl, _, _, rfl, rfl, .inr ⟨by decide, by decide⟩, _, rfl, _, _, rfl, rfl, ⟨by omega, h30⟩, _, _, rfl, k⟩
theorem ok_held_missing (T : Txt K mg t) : FnOk P w K mg base CX0 1 t.f_held_missing t.fd_held_missing ["missing"] sp_held_missing := by
  refine T.fn_held_missing.ok sc_held_missing (fun vs H Q E h => ?_) (fun cdv A outer s H vs Q E hr h => ?_)
  · obtain ⟨z, rfl, _⟩ := h
    rfl
  · obtain ⟨z, rfl, k⟩ := h
    refine ⟨_, (pss_one (ps_ret (pe_callB (call_max2 rfl) rfl T.n_max PyProof.Rows.boot_max (pa_cons (pe_gl T.g_LEAST_MISSING rfl) (pa_cons (pe_callB (call_min2 rfl) rfl T.n_min PyProof.Rows.boot_min (pa_cons (pe_gl T.g_MOST_MISSING rfl) (pa_cons (pv 0) pa_nil))) pa_nil))))), ?_⟩
    exact ⟨_, rfl, _, _, rfl, _, _, rfl, k⟩
theorem ok_Counting_how_many_expected (T : Txt K mg t) : FnOk P w K mg base CX0 1 t.f_Counting_how_many_expected t.fd_Counting_how_many_expected ["self"] (sp_Counting_how_many_expected t) := by
  refine T.fn_Counting_how_many_expected.ok sc_Counting_how_many_expected (fun vs H Q E h => ?_) (fun cdv A outer s H vs Q E hr h => ?_)
  · obtain ⟨p, dx, c, rfl, _⟩ := h
    rfl
  · obtain ⟨p, dx, c, rfl, hp, k⟩ := h
    refine ⟨_, (pss_one (ps_ret (pe_op op_add (pe_op op_sub (pe_fld (pv 0) rfl) (pe_fld (pv 0) rfl)) pe_int))), ?_⟩
    exact ⟨_, rfl, p, _, dx, _, _, rfl, hp, T.cl_Counting, T.na_Counting_greatest, get_Counting_greatest, _, rfl, p, _, dx, _, _, rfl, hp, T.cl_Counting, T.na_Counting_first, get_Counting_first, _, _, rfl, rfl, _, _, rfl, rfl, k⟩
theorem ok_Counting_how_many_missing (T : Txt K mg t) : FnOk P w K mg base CX0 2 t.f_Counting_how_many_missing t.fd_Counting_how_many_missing ["self"] (sp_Counting_how_many_missing t) := by
  refine T.fn_Counting_how_many_missing.ok sc_Counting_how_many_missing (fun vs H Q E h => ?_) (fun cdv A outer s H vs Q E hr h => ?_)
  · obtain ⟨p, dx, c, rfl, _⟩ := h
    rfl
  · obtain ⟨p, dx, c, rfl, hp, k⟩ := h
    refine ⟨_, (pss_one (ps_ret (pe_call (ok_held_missing T) (hr.mono (by decide)) rfl T.mg_held_missing T.fn_held_missing.kp T.b_held_missing .nil pass0 (pa_cons (pe_op op_sub (pe_meth0 (pv 0) T.cl_Counting T.me_Counting_how_many_expected (ok_Counting_how_many_expected T) (hr.mono (by decide)) T.b_Counting_how_many_expected .nil pass0) (pe_fld (pv 0) rfl)) pa_nil)))), ?_⟩
    exact ⟨_, rfl, p, dx, _, rfl, hp, no_Counting_how_many_expected, p, dx, c, rfl, hp, _, rfl, p, _, dx, _, _, rfl, hp, T.cl_Counting, T.na_Counting_came, get_Counting_came, _, _, rfl, rfl, _, rfl, k⟩
theorem ok_Counting_share_lost_since_told (T : Txt K mg t) : FnOk P w K mg base CX0 2 t.f_Counting_share_lost_since_told t.fd_Counting_share_lost_since_told ["self"] (sp_Counting_share_lost_since_told t) := by
  refine T.fn_Counting_share_lost_since_told.ok sc_Counting_share_lost_since_told (fun vs H Q E h => ?_) (fun cdv A outer s H vs Q E hr h => ?_)
  · obtain ⟨p, dx, c, rfl, _⟩ := h
    rfl
  · obtain ⟨p, dx, c, rfl, hp, hc, k⟩ := h
    refine ⟨_, (pss_one (ps_ret (pe_call (ok_share_lost T) (hr.mono (by decide)) rfl T.mg_share_lost T.fn_share_lost.kp T.b_share_lost .nil pass0 (pa_cons (pe_op op_sub (pe_meth0 (pv 0) T.cl_Counting T.me_Counting_how_many_expected (ok_Counting_how_many_expected T) (hr.mono (by decide)) T.b_Counting_how_many_expected .nil pass0) (pe_fld (pv 0) rfl)) (pa_cons (pe_op op_sub (pe_fld (pv 0) rfl) (pe_fld (pv 0) rfl)) pa_nil))))), ?_⟩
    exact ⟨_, rfl, p, dx, _, rfl, hp, no_Counting_how_many_expected, p, dx, c, rfl, hp, _, rfl, p, _, dx, _, _, rfl, hp, T.cl_Counting, T.na_Counting_told_expected, get_Counting_told_expected, _, _, rfl, rfl, _, rfl, p, _, dx, _, _, rfl, hp, T.cl_Counting, T.na_Counting_came, get_Counting_came, _, rfl, p, _, dx, _, _, rfl, hp, T.cl_Counting, T.na_Counting_told_came, get_Counting_told_came, _, _, rfl, rfl, _, _, rfl, hc.1, hc.2, k⟩
theorem ok_Counting_note_told (T : Txt K mg t) : FnOk P w K mg base CX0 2 t.f_Counting_note_told t.fd_Counting_note_told ["self"] (sp_Counting_note_told t) := by
  refine T.fn_Counting_note_told.ok sc_Counting_note_told (fun vs H Q E h => ?_) (fun cdv A outer s H vs Q E hr h => ?_)
  · obtain ⟨p, dx, c, rfl, _⟩ := h
    rfl
  · obtain ⟨p, dx, c, rfl, hp, k⟩ := h
    refine ⟨_, (pss_cons (ps_fld (pv 0) (pe_meth0 (pv 0) T.cl_Counting T.me_Counting_how_many_expected (ok_Counting_how_many_expected T) (hr.mono (by decide)) T.b_Counting_how_many_expected .nil pass0) rfl)
      (pss_one (ps_fld (pv 0) (pe_fld (pv 0) rfl) rfl))), ?_⟩
    -- self.told_expected = self.how_many_expected()
    refine ⟨_, rfl, p, dx, _, rfl, hp, no_Counting_how_many_expected, p, dx, c, rfl, hp, _, rfl, p, _, dx, _, rfl, hp, T.cl_Counting, T.na_Counting_told_expected, len_Counting, ?_⟩
    rw [put_Counting_told_expected]
    -- self.told_came = self.came
    refine ⟨_, rfl, p, _, dx, _, _, rfl, upd_same, T.cl_Counting, T.na_Counting_came, get_Counting_came, _, rfl, p, _, dx, _, rfl, upd_same, T.cl_Counting, T.na_Counting_told_came, len_Counting, ?_⟩
    rw [put_Counting_told_came, upd_upd]
    exact k
theorem ok_Counting_told_jitter (T : Txt K mg t) : FnOk P w K mg base CX0 1 t.f_Counting_told_jitter t.fd_Counting_told_jitter ["self"] (sp_Counting_told_jitter t) := by
  refine T.fn_Counting_told_jitter.ok sc_Counting_told_jitter (fun vs H Q E h => ?_) (fun cdv A outer s H vs Q E hr h => ?_)
  · obtain ⟨p, dx, c, rfl, _⟩ := h
    rfl
  · obtain ⟨p, dx, c, rfl, hp, k⟩ := h
    refine ⟨_, (pss_one (ps_ret (pe_op op_fdiv (pe_fld (pv 0) rfl) pe_int))), ?_⟩
    exact ⟨_, rfl, p, _, dx, _, _, rfl, hp, T.cl_Counting, T.na_Counting_jitter, get_Counting_jitter, _, _, rfl, rfl, ⟨by decide, by decide⟩, k⟩
end
end My
namespace My
open PySem L2
/-! ### packets -/
def fsP (m k n s c : Int) (l : Addr) : List (Str × V) := fs_Packet (.int m) (.int k) (.int n) (.int s) (.int c) (.ref l)
/-- a packet stands there; its list is none of those in Z -/
def PkAt (t : Adr) (Z : Addr → Prop) (H : Hp) (a : Addr) (p : Ql48.Packet) : Prop := ∃ dx l, H a = some (.ins t.c_Packet dx (fsP (LP.mk1 p.mark) p.kind p.seq p.time p.source l)) ∧ H l = some (.lst (bV p.load)) ∧ ¬ Z l
abbrev No : Addr → Prop := fun _ => False
theorem PkAt.any {t : Adr} {Z : Addr → Prop} {H : Hp} {a : Addr} {p : Ql48.Packet} (h : PkAt t Z H a p) : PkAt t No H a p := by
  obtain ⟨dx, l, h1, h2, _⟩ := h
  exact ⟨dx, l, h1, h2, fun z => z⟩
def sp_Packet_init (t : Adr) (K : PySem.W.Frag) : Sp := fun vs H Q _ => ∃ (p dx o l : Addr) (b : List Nat), vs = [.ref p, .ref o, .ref l] ∧ H p = some (.ins t.c_Packet dx []) ∧ SqL K H o (bV b) ∧ 12 ≤ b.length ∧
  ∀ H', H' p = some (.ins t.c_Packet dx (fsP (((b.getD 1 0 : Nat) : Int) / 128) (((b.getD 1 0 : Nat) : Int) % 128) (Ql48.field b 2 2 : Nat) (Ql48.field b 4 4 : Nat) (Ql48.field b 8 4 : Nat) l)) → But p H H' → Q .non H'
def sp_carried_start (K : PySem.W.Frag) : Sp := fun vs H Q _ => ∃ (o : Addr) (b : List Nat), vs = [.ref o] ∧ SqL K H o (bV b) ∧ 0 < b.length ∧ (∀ x ∈ b, x ≤ 255) ∧ ∀ H', Same H H' → Q (.int ((LP.cStart b : Nat) : Int)) H'
def PkOr (t : Adr) (H0 H : Hp) (r : V) : Option Ql48.Packet → Prop
  | none => r = .non
  | some p => ∃ a dx l, r = .ref a ∧ H a = some (.ins t.c_Packet dx (fsP (LP.mk1 p.mark) p.kind p.seq p.time p.source l)) ∧ H l = some (.lst (bV p.load)) ∧ H0 l = none
def sp_read_packet (t : Adr) (K : PySem.W.Frag) : Sp := fun vs H Q _ => ∃ (o : Addr) (b : List Nat), vs = [.ref o] ∧ SqL K H o (bV b) ∧ (∀ x ∈ b, x ≤ 255) ∧ ∀ r H', Same H H' → PkOr t H H' r (LP.readM b) → Q r H'
section
variable {P : Program} {w : World} {K : PySem.W.Frag} {mg : Str → Option Value} {base : Heap} {t : Adr}
theorem ok_Packet_init (T : Txt K mg t) : FnOk P w K mg base CX0 2 t.f_Packet_init t.fd_Packet_init ["self", "octets", "carried"] (sp_Packet_init t K) := by
  refine T.fn_Packet_init.ok sc_Packet_init (fun vs H Q E h => ?_) (fun cdv A outer s H vs Q E hr h => ?_)
  · obtain ⟨p, dx, o, l, b, rfl, _⟩ := h
    rfl
  · obtain ⟨p, dx, o, l, b, rfl, hp, hS, hlen, k⟩ := h
    have hx1 : atI (bV b) 1 = some (V.int ((b.getD 1 0 : Nat) : Int)) := at_bV (i := 1) (by omega)
    refine ⟨_, (pss_cons (ps_fld (pv 0) (pe_op op_fdiv (pe_ix ix_list (pv 1) pe_int (fun _ _ => rfl)) (pe_gl T.g_MARK rfl)) rfl)
      (pss_cons (ps_fld (pv 0) (pe_op op_mod (pe_ix ix_list (pv 1) pe_int (fun _ _ => rfl)) (pe_gl T.g_MARK rfl)) rfl)
      (pss_cons (ps_fld (pv 0) (pe_call (ok_read_number T) (hr.mono (by decide)) rfl T.mg_read_number T.fn_read_number.kp T.b_read_number .nil pass0 (pa_cons (pv 1) (pa_cons pe_int (pa_cons pe_int pa_nil)))) rfl)
      (pss_cons (ps_fld (pv 0) (pe_call (ok_read_number T) (hr.mono (by decide)) rfl T.mg_read_number T.fn_read_number.kp T.b_read_number .nil pass0 (pa_cons (pv 1) (pa_cons pe_int (pa_cons pe_int pa_nil)))) rfl)
      (pss_cons (ps_fld (pv 0) (pe_call (ok_read_number T) (hr.mono (by decide)) rfl T.mg_read_number T.fn_read_number.kp T.b_read_number .nil pass0 (pa_cons (pv 1) (pa_cons pe_int (pa_cons pe_int pa_nil)))) rfl)
      (pss_one (ps_fld (pv 0) (pv 2) rfl))))))), ?_⟩
    -- self.mark = octets[1] // MARK
    refine ⟨_, rfl, o, _, _, _, rfl, rfl, hS, hx1, _, _, rfl, rfl, ⟨by decide, by decide⟩, _, rfl, p, _, dx, _, rfl, hp, T.cl_Packet, T.na_Packet_mark, pl0, ?_⟩
    -- self.kind = octets[1] % MARK
    refine ⟨_, rfl, o, _, _, _, rfl, rfl, sq_but hp (But.refl p H).upd hS, hx1, _, _, rfl, rfl, (by show (0 : Int) < 128; decide), _, rfl, p, _, dx, _, rfl, upd_same, T.cl_Packet, T.na_Packet_kind, pl pl0, ?_⟩
    -- self.number = read_number(octets, 2, 2)
    refine ⟨_, rfl, o, b, 2, 2, rfl, sq_but hp (But.refl p H).upd.upd hS, fun H2 s2 => ⟨_, rfl, p, _, dx, _, rfl, s2 _ _ upd_same, T.cl_Packet, T.na_Packet_number, pl (pl pl0), ?_⟩⟩
    have B2 := ((But.refl p H).upd.upd.same s2)
    -- self.stamp = read_number(octets, 4, 4)
    refine ⟨_, rfl, o, b, 4, 4, rfl, sq_but hp B2.upd hS, fun H4 s4 => ⟨_, rfl, p, _, dx, _, rfl, s4 _ _ upd_same, T.cl_Packet, T.na_Packet_stamp, pl (pl (pl pl0)), ?_⟩⟩
    have B4 := B2.upd.same s4
    -- self.source = read_number(octets, 8, 4)
    refine ⟨_, rfl, o, b, 8, 4, rfl, sq_but hp B4.upd hS, fun H6 s6 => ⟨_, rfl, p, _, dx, _, rfl, s6 _ _ upd_same, T.cl_Packet, T.na_Packet_source, pl (pl (pl (pl pl0))), ?_⟩⟩
    have B6 := B4.upd.same s6
    -- self.carried = carried
    refine ⟨_, rfl, _, rfl, p, _, dx, _, rfl, upd_same, T.cl_Packet, T.na_Packet_carried, pl (pl (pl (pl (pl pl0)))), ?_⟩
    rw [made_Packet]
    exact k _ upd_same B6.upd.upd
theorem ok_carried_start (T : Txt K mg t) : FnOk P w K mg base CX0 2 t.f_carried_start t.fd_carried_start ["octets"] (sp_carried_start K) := by
  refine T.fn_carried_start.ok sc_carried_start (fun vs H Q E h => ?_) (fun cdv A outer s H vs Q E hr h => ?_)
  · obtain ⟨o, b, rfl, _⟩ := h
    rfl
  · obtain ⟨o, b, rfl, hS, h0, hb, k⟩ := h
    have hx0 : atI (bV b) 0 = some (V.int ((LP.hd b : Nat) : Int)) := at_bV (i := 0) h0
    have hf : LP.hd b < 256 := Nat.lt_succ_of_le (LP.getD_le hb 0)
    have e15 : (12 : Int) + 4 * Builtin.bitAnd ((LP.hd b : Nat) : Int) 15 = ((12 + 4 * (LP.hd b % 16) : Nat) : Int) := by
      rw [bit15]
      omega
    have e16 := bit16 (LP.hd b) hf
    refine ⟨_, (pss_cons (ps_set (i := 1) sc_carried_start.nd rfl (Or.inl rfl) (pe_op op_add (pe_gl T.g_HEAD_LENGTH rfl) (pe_op op_mul pe_int (pe_op op_and (pe_ix ix_list (pv 0) pe_int (fun _ _ => rfl)) (pe_gl T.g_OTHER_SOURCES rfl)))))
      (pss_cons (ps_if (pt_cmpR op_eq (pe_op op_and (pe_ix ix_list (pv 0) pe_int (fun _ _ => rfl)) (pe_gl T.g_EXTENSION rfl)) pe_int (nomark _)) (pss_one (ps_ret (pv 1))) pss_nil)
      (pss_cons (ps_set (i := 2) sc_carried_start.nd rfl (Or.inl rfl) (pe_call (ok_read_number T) (hr.mono (by decide)) rfl T.mg_read_number T.fn_read_number.kp T.b_read_number .nil pass0 (pa_cons (pv 0) (pa_cons (pe_op op_add (pv 1) pe_int) (pa_cons pe_int pa_nil)))))
      (pss_one (ps_ret (pe_op op_add (pe_op op_add (pv 1) pe_int) (pe_op op_mul pe_int (pv 2)))))))), ?_⟩
    -- start = HEAD_LENGTH + 4 * (octets[0] & OTHER_SOURCES)
    refine ⟨_, rfl, o, _, _, _, rfl, rfl, hS, hx0, _, _, rfl, rfl, _, _, rfl, rfl, .inl ⟨by decide, by decide⟩, _, _, rfl, rfl, ?_⟩
    -- if octets[0] & EXTENSION == 0: return start
    refine ⟨_, rfl, o, _, _, _, rfl, rfl, hS, hx0, _, _, rfl, rfl, rfl, _, rfl, ?_⟩
    refine ite2 (fun h1 => ?_) (fun h1 => ?_)
    · have h2 : Builtin.bitAnd ((LP.hd b : Nat) : Int) 16 = 0 := V.int.inj (of_decide_eq_true h1)
      refine ⟨_, rfl, ?_⟩
      have e : LP.cStart b = 12 + 4 * (LP.hd b % 16) := by
        unfold LP.cStart
        rw [if_pos (by omega)]
      show Q (V.int ((12 : Int) + 4 * Builtin.bitAnd ((LP.hd b : Nat) : Int) 15)) H
      rw [e15, ← e]
      exact k H (Same.refl H)
    · have h2 : ¬ Builtin.bitAnd ((LP.hd b : Nat) : Int) 16 = 0 := fun z => h1 (decide_eq_true (congrArg V.int z))
      -- words = read_number(octets, start + 2, 2)
      refine ⟨_, rfl, _, rfl, _, _, rfl, rfl, o, b, 12 + 4 * (LP.hd b % 16) + 2, 2, ?_, hS, fun H2 s2 => ?_⟩
      · show [V.ref o, V.int ((12 : Int) + 4 * Builtin.bitAnd ((LP.hd b : Nat) : Int) 15 + 2), V.int 2] = _
        rw [e15]
        rfl
      -- return start + 4 + 4 * words
      refine ⟨_, rfl, _, _, rfl, rfl, _, rfl, _, _, rfl, rfl, .inl ⟨by decide, by decide⟩, _, _, rfl, rfl, ?_⟩
      have e : LP.cStart b = 12 + 4 * (LP.hd b % 16) + 4 + 4 * Ql48.field b (12 + 4 * (LP.hd b % 16) + 2) 2 := by
        unfold LP.cStart
        rw [if_neg (by omega)]
      show Q (V.int ((12 : Int) + 4 * Builtin.bitAnd ((LP.hd b : Nat) : Int) 15 + 4 + 4 * ((Ql48.field b (12 + 4 * (LP.hd b % 16) + 2) 2 : Nat) : Int))) H2
      have e2 : (12 : Int) + 4 * Builtin.bitAnd ((LP.hd b : Nat) : Int) 15 + 4 + 4 * ((Ql48.field b (12 + 4 * (LP.hd b % 16) + 2) 2 : Nat) : Int) = ((LP.cStart b : Nat) : Int) := by
        rw [e15, e]
        omega
      rw [e2]
      exact k H2 s2
theorem ok_read_packet (T : Txt K mg t) : FnOk P w K mg base CX0 4 t.f_read_packet t.fd_read_packet ["octets"] (sp_read_packet t K) := by
  refine T.fn_read_packet.ok sc_read_packet (fun vs H Q E h => ?_) (fun cdv A outer s H vs Q E hr h => ?_)
  · obtain ⟨o, b, rfl, _⟩ := h
    rfl
  · obtain ⟨o, b, rfl, hS, hb, k⟩ := h
    have hl : (bV b).length = b.length := List.length_map _
    refine ⟨_, (pss_cons (ps_if (PW.pt (pw_or (pt_cmpR op_lt (pe_callB call_len_seq rfl T.n_len PySem.boot_len (pa_cons (pv 0) pa_nil)) (pe_gl T.g_HEAD_LENGTH rfl) (nomark _)) (pw_or1 (pt_cmpR op_gt (pe_callB call_len_seq rfl T.n_len PySem.boot_len (pa_cons (pv 0) pa_nil)) (pe_gl T.g_MOST_BYTES rfl) (nomark _))))) (pss_one (ps_ret pe_non)) pss_nil)
      (pss_cons (ps_if (pt_not (pt_val (pe_call (ok_has_version T) (hr.mono (by decide)) rfl T.mg_has_version T.fn_has_version.kp T.b_has_version .nil pass0 (pa_cons (pv 0) pa_nil)))) (pss_one (ps_ret pe_non)) pss_nil)
      (pss_cons (ps_set (i := 1) sc_read_packet.nd rfl (Or.inl rfl) (pe_call (ok_padding_length T) (hr.mono (by decide)) rfl T.mg_padding_length T.fn_padding_length.kp T.b_padding_length .nil pass0 (pa_cons (pv 0) pa_nil)))
      (pss_cons (ps_if (PW.pt (pw_and (pt_val (pe_call (ok_has_padding T) (hr.mono (by decide)) rfl T.mg_has_padding T.fn_has_padding.kp T.b_has_padding .nil pass0 (pa_cons (pv 0) pa_nil))) (pw_and1 (pt_cmpR op_eq (pv 1) pe_int (nomark _))))) (pss_one (ps_ret pe_non)) pss_nil)
      (pss_cons (ps_set (i := 2) sc_read_packet.nd rfl (Or.inl rfl) (pe_call (ok_carried_start T) (hr.mono (by decide)) rfl T.mg_carried_start T.fn_carried_start.kp T.b_carried_start .nil pass0 (pa_cons (pv 0) pa_nil)))
      (pss_cons (ps_set (i := 3) sc_read_packet.nd rfl (Or.inl rfl) (pe_op op_sub (pe_callB call_len_seq rfl T.n_len PySem.boot_len (pa_cons (pv 0) pa_nil)) (pv 1)))
      (pss_cons (ps_if (pt_cmpR op_gt (pv 2) (pv 3) (nomark _)) (pss_one (ps_ret pe_non)) pss_nil)
      (pss_one (ps_ret (pe_make T.mk_Packet (ok_Packet_init T) (hr.mono (by decide)) rfl T.mgc_Packet T.b_Packet_init .nil pass0 (pa_cons (pv 0) (pa_cons (pe_slice sl_list (pv 0) (po_some (pv 2)) (po_some (pv 3))) pa_nil)))))))))))), ?_⟩
    -- if len(octets) < HEAD_LENGTH or len(octets) > MOST_BYTES: return None
    refine ⟨_, rfl, o, _, rfl, .inl hS, _, _, rfl, rfl, _, rfl, ?_⟩
    refine ite2 (fun h1 => ?_) (fun h1 => ?_)
    · have h1' := of_decide_eq_true h1
      rw [hl] at h1'
      refine iteT ?_
      refine k _ H (Same.refl H) ?_
      unfold LP.readM
      rw [if_pos (by omega)]
      rfl
    have h1' : ¬ ((bV b).length : Int) < 12 := fun z => h1 (decide_eq_true z)
    rw [hl] at h1'
    refine ⟨_, rfl, o, _, rfl, .inl hS, _, _, rfl, rfl, _, rfl, ?_⟩
    refine ite2 (fun h2 => ?_) (fun h2 => ?_)
    · have h2' := of_decide_eq_true h2
      rw [hl] at h2'
      refine k _ H (Same.refl H) ?_
      unfold LP.readM
      rw [if_pos (by omega)]
      rfl
    have h2' : ¬ (65535 : Int) < ((bV b).length : Int) := fun z => h2 (decide_eq_true z)
    rw [hl] at h2'
    have e12 : LP.readM b = if LP.hd b / 64 ≠ 2 then none else if LP.hd b / 32 % 2 ≠ 0 ∧ LP.padLen b = 0 then none else if b.length < LP.cStart b + LP.padLen b then none else some (LP.mkPk b) := by
      unfold LP.readM
      rw [if_neg (by omega)]
    rw [e12] at k
    -- if not has_version(octets): return None
    refine ⟨_, rfl, o, b, rfl, hS, by omega, _, rfl, ?_⟩
    by_cases h5 : LP.hd b / 64 = 2
    case neg =>
      rw [decide_eq_false h5]
      refine iteT ?_
      rw [if_pos h5] at k
      exact k _ H (Same.refl H) rfl
    rw [decide_eq_true h5]
    refine iteF ?_
    rw [if_neg (fun z => z h5)] at k
    -- padding = padding_length(octets)
    refine ⟨_, rfl, o, b, rfl, hS, by omega, hb, ?_⟩
    -- if has_padding(octets) and padding == 0: return None
    refine ⟨_, rfl, o, b, rfl, hS, by omega, hb, _, rfl, ?_⟩
    have tail : ¬ (LP.hd b / 32 % 2 ≠ 0 ∧ LP.padLen b = 0) → (∀ r H', Same H H' → PkOr t H H' r (if b.length < LP.cStart b + LP.padLen b then none else some (LP.mkPk b)) → Q r H') := fun h6 => by
      rw [if_neg h6] at k
      exact k
    have n32 : LP.pd b = true ↔ LP.hd b / 32 % 2 ≠ 0 := by
      unfold LP.pd
      simp
    refine ite2 (fun h6 => ⟨_, rfl, rfl, _, rfl, ite2 (fun h7 => ?none) (fun h7 => ?r1)⟩) (fun h6 => iteF ?r2)
    case none =>
      have h8 : LP.padLen b = 0 := by
        have := V.int.inj (of_decide_eq_true h7)
        omega
      rw [if_pos ⟨n32.mp h6, h8⟩] at k
      exact k _ H (Same.refl H) rfl
    all_goals
      have h9 : ¬ (LP.hd b / 32 % 2 ≠ 0 ∧ LP.padLen b = 0) := by
        first
          | exact fun z => h7 (decide_eq_true (congrArg V.int (by rw [z.2]; rfl)))
          | exact fun z => h6 (n32.mpr z.1)
      have k2 := tail h9
      clear k tail
      -- start = carried_start(octets)
      refine ⟨_, rfl, o, b, rfl, hS, by omega, hb, fun H2 s2 => ?_⟩
      -- end = len(octets) - padding
      refine ⟨_, rfl, o, _, rfl, .inl (s2.seq hS), _, rfl, _, _, rfl, rfl, ?_⟩
      -- if start > end: return None
      refine ⟨_, rfl, _, rfl, _, _, rfl, rfl, _, rfl, ?_⟩
      refine ite2 (fun h8 => ?_) (fun h8 => ?_)
      · have h8' := of_decide_eq_true h8
        rw [hl] at h8'
        rw [if_pos (by omega)] at k2
        exact k2 _ H2 s2 rfl
      · have h8' : ¬ ((bV b).length : Int) - ((LP.padLen b : Nat) : Int) < ((LP.cStart b : Nat) : Int) := fun z => h8 (decide_eq_true z)
        rw [hl] at h8'
        rw [if_neg (by omega)] at k2
        -- return Packet(octets, octets[start:end])
        refine ⟨_, rfl, _, rfl, _, rfl, _, rfl, _, rfl, _, rfl, o, _, rfl, s2.seq hS, fun l hl2 => ?_⟩
        intro x dx nx ndx nex
        have eL : cutV (bV b) (some ((LP.cStart b : Nat) : Int)) (some (((bV b).length : Int) - ((LP.padLen b : Nat) : Int))) = bV (LP.mkPk b).load := by
          have e : ((bV b).length : Int) - ((LP.padLen b : Nat) : Int) = ((b.length - LP.padLen b : Nat) : Int) := by
            rw [hl]
            omega
          rw [e, cut_nat, ← List.map_drop, ← List.map_take]
          rfl
        have s3 : Same H2 (upd (upd (upd H2 l (.lst (bV (LP.mkPk b).load))) dx (.own x)) x (.ins t.c_Packet dx [])) := fun c u e => by
          have e1 := same_new (o := .lst (cutV (bV b) (some ((LP.cStart b : Nat) : Int)) (some (((bV b).length : Int) - ((LP.padLen b : Nat) : Int))))) hl2 c u e
          rw [upd_ne (ne_of_none e1 nx), upd_ne (ne_of_none e1 ndx), upd_ne (ne_of_none e hl2)]
          exact e
        rw [eL] at nx ndx ⊢
        have hxl : upd H2 l (.lst (bV (LP.mkPk b).load)) l = some (.lst (bV (LP.mkPk b).load)) := upd_same
        refine ⟨x, dx, o, l, b, rfl, upd_same, s3.seq (s2.seq hS), by omega, fun H' hx' but => ⟨rfl, ?_⟩⟩
        have hlx : l ≠ x := ne_of_none hxl nx
        have s4 : Same H2 H' := fun c u e => but c u (s3 c u e) (by
          intro z
          rw [z] at e
          have := same_new (o := .lst (bV (LP.mkPk b).load)) hl2 x u e
          rw [nx] at this
          cases this)
        have hb1 := LP.getD_le hb 1
        have em : ((b.getD 1 0 : Nat) : Int) / 128 = LP.mk1 (LP.mkPk b).mark := by
          show _ = LP.mk1 (b.getD 1 0 / 128 == 1)
          unfold LP.mk1
          by_cases h : b.getD 1 0 / 128 = 1
          · rw [h, if_pos (by decide)]
            omega
          · rw [if_neg (by simpa using h)]
            omega
        have ek : ((b.getD 1 0 : Nat) : Int) % 128 = (((LP.mkPk b).kind : Nat) : Int) := by
          show _ = ((b.getD 1 0 % 128 : Nat) : Int)
          omega
        refine k2 _ H' (s2.trans s4) ⟨x, dx, l, rfl, ?_, ?_, s2.free hl2⟩
        · rw [hx', em, ek]
          rfl
        · refine but l _ ?_ hlx
          rw [upd_ne hlx, upd_ne (ne_of_none hxl ndx)]
          exact hxl
end
end My
namespace My
open PySem L2
/-! ### waiting -/
abbrev fsW (due : Int) (d : Addr) : List (Str × V) := fs_Waiting (.int due) (.ref d)
abbrev kI (z : Int) : Key := Sum.inl z
def sp_Waiting_init (t : Adr) : Sp := fun vs H Q _ => ∃ (p dx : Addr) (n : Int), vs = [.ref p, .int n] ∧ H p = some (.ins t.c_Waiting dx []) ∧
  ∀ d H', H d = none → H' p = some (.ins t.c_Waiting dx (fsW n d)) → H' d = some (.dK []) → But p H H' → Q .non H'
def full (due : Int) (kvs : List (Key × V)) (z : Int) (n : Nat) : Prop := (z < due ∨ (valV kvs (kI z)).isSome = true) ∨ (64 ≤ kvs.length ∨ 1472 < n)
def sp_Waiting_try_keep (t : Adr) : Sp := fun vs H Q _ => ∃ (p dx d a : Addr) (due z : Int) (kvs : List (Key × V)) (pk : Ql48.Packet), vs = [.ref p, .int z, .ref a] ∧ H p = some (.ins t.c_Waiting dx (fsW due d)) ∧ H d = some (.dK kvs) ∧ PkAt t No H a pk ∧
  kvs.length ≤ 64 ∧ (full due kvs z pk.load.length → Q (.bl false) H) ∧ (¬ full due kvs z pk.load.length → Q (.bl true) (upd H d (.dK (putK kvs (kI z) (.ref a)))))
def sp_Waiting_how_many (t : Adr) : Sp := fun vs H Q _ => ∃ (p dx d : Addr) (due : Int) (kvs : List (Key × V)), vs = [.ref p] ∧ H p = some (.ins t.c_Waiting dx (fsW due d)) ∧ H d = some (.dK kvs) ∧ Q (.int kvs.length) H
def sp_Waiting_due_waits (t : Adr) : Sp := fun vs H Q _ => ∃ (p dx d : Addr) (due : Int) (kvs : List (Key × V)), vs = [.ref p] ∧ H p = some (.ins t.c_Waiting dx (fsW due d)) ∧ H d = some (.dK kvs) ∧ Q (.bl (valV kvs (kI due)).isSome) H
def sp_Waiting_take_due (t : Adr) : Sp := fun vs H Q _ => ∃ (p dx d : Addr) (due : Int) (kvs : List (Key × V)) (v : V), vs = [.ref p] ∧ H p = some (.ins t.c_Waiting dx (fsW due d)) ∧ H d = some (.dK kvs) ∧ valV kvs (kI due) = some v ∧
  Q v (upd (upd H d (.dK (dropK kvs (kI due)))) p (.ins t.c_Waiting dx (fsW (due + 1) d)))
def sp_Waiting_give_up_due (t : Adr) : Sp := fun vs H Q _ => ∃ (p dx d : Addr) (due : Int), vs = [.ref p] ∧ H p = some (.ins t.c_Waiting dx (fsW due d)) ∧ Q .non (upd H p (.ins t.c_Waiting dx (fsW (due + 1) d)))
section
variable {P : Program} {w : World} {K : PySem.W.Frag} {mg : Str → Option Value} {base : Heap} {t : Adr}
theorem ok_Waiting_init (T : Txt K mg t) : FnOk P w K mg base CX0 1 t.f_Waiting_init t.fd_Waiting_init ["self", "first"] (sp_Waiting_init t) := by
  refine T.fn_Waiting_init.ok sc_Waiting_init (fun vs H Q E h => ?_) (fun cdv A outer s H vs Q E hr h => ?_)
  · obtain ⟨p, dx, n, rfl, _⟩ := h
    rfl
  · obtain ⟨p, dx, n, rfl, hp, k⟩ := h
    refine ⟨_, (pss_cons (ps_fld (pv 0) (pv 1) rfl)
      (pss_one (ps_fld (pv 0) pe_dnewK rfl))), ?_⟩
    refine ⟨_, rfl, _, rfl, p, _, dx, _, rfl, hp, T.cl_Waiting, T.na_Waiting_due, pl0, ?_⟩
    intro d hd
    have npd : p ≠ d := ne_of_none upd_same hd
    have hd0 : H d = none := by rw [upd_ne npd.symm] at hd; exact hd
    refine ⟨_, rfl, p, _, dx, _, rfl, (by rw [upd_ne npd]; exact upd_same), T.cl_Waiting, T.na_Waiting_kept, pl pl0, ?_⟩
    rw [made_Waiting]
    exact k d _ hd0 upd_same (by rw [upd_ne npd.symm]; exact upd_same) (But.upd fun c u e n => by rw [upd_ne (ne_of_none e hd0), upd_ne n]; exact e)
theorem ok_Waiting_try_keep (T : Txt K mg t) : FnOk P w K mg base CX0 1 t.f_Waiting_try_keep t.fd_Waiting_try_keep ["self", "whole", "packet"] (sp_Waiting_try_keep t) := by
  refine T.fn_Waiting_try_keep.ok sc_Waiting_try_keep (fun vs H Q E h => ?_) (fun cdv A outer s H vs Q E hr h => ?_)
  · obtain ⟨p, dx, d, a, due, z, kvs, pk, rfl, _⟩ := h
    rfl
  · obtain ⟨p, dx, d, a, due, z, kvs, pk, rfl, hp, hd, ⟨dy, l, ha, hL, _⟩, h64, k0, k1⟩ := h
    have hu := hu_of hr
    have hl : (bV pk.load).length = pk.load.length := List.length_map _
    refine ⟨_, (pss_cons (ps_if (PW.pt (pw_or (pt_cmpR op_lt (pv 1) (pe_fld (pv 0) rfl) (nomark _)) (pw_or1 (pt_cmp (pc_din hu (pv 1) (pe_fld (pv 0) rfl)))))) (pss_one (ps_ret pe_bl)) pss_nil)
      (pss_cons (ps_if (PW.pt (pw_or (pt_cmpR op_ge (pe_callB call_lenD rfl T.n_len PySem.boot_len (pa_cons (pe_fld (pv 0) rfl) pa_nil)) (pe_gl T.g_MOST_WAITING rfl) (nomark _)) (pw_or1 (pt_cmpR op_gt (pe_callB call_len_seq rfl T.n_len PySem.boot_len (pa_cons (pe_fld (pv 2) rfl) pa_nil)) (pe_gl T.g_MOST_CARRIED rfl) (nomark _))))) (pss_one (ps_ret pe_bl)) pss_nil)
      (pss_cons (ps_dput hu (pe_fld (pv 0) rfl) (pv 1) (pv 2) rfl)
      (pss_one (ps_ret pe_bl))))), ?_⟩
    -- if whole < self.due or whole in self.kept: return False
    refine ⟨_, rfl, _, rfl, p, _, dx, _, _, rfl, hp, T.cl_Waiting, T.na_Waiting_due, get_Waiting_due, _, _, rfl, rfl, _, rfl, ?_⟩
    refine ite2 (fun h1 => ?_) (fun h1 => ?_)
    · exact iteT (k0 (.inl (.inl (of_decide_eq_true h1))))
    refine ⟨_, rfl, _, rfl, p, _, dx, _, _, rfl, hp, T.cl_Waiting, T.na_Waiting_kept, get_Waiting_kept, d, _, rfl, DGet.k (k := kI z) hd, _, rfl, ?_⟩
    refine ite2 (fun h2 => ?_) (fun h2 => ?_)
    · exact k0 (.inl (.inr h2))
    -- if len(self.kept) >= MOST_WAITING or len(packet.carried) > MOST_CARRIED: return False
    refine ⟨_, rfl, p, _, dx, _, _, rfl, hp, T.cl_Waiting, T.na_Waiting_kept, get_Waiting_kept, d, kvs, rfl, hd, _, _, rfl, rfl, _, rfl, ?_⟩
    refine ite2 (fun h3 => ?_) (fun h3 => ?_)
    · have := of_decide_eq_true h3
      exact iteT (k0 (.inr (.inl (by omega))))
    have h3' : ¬ (64 : Int) ≤ (kvs.length : Int) := fun q => h3 (decide_eq_true q)
    refine ⟨_, rfl, a, _, dy, _, _, rfl, ha, T.cl_Packet, T.na_Packet_carried, get_Packet_carried, l, _, rfl, .inl (SqL.of hL), _, _, rfl, rfl, _, rfl, ?_⟩
    refine ite2 (fun h4 => ?_) (fun h4 => ?_)
    · have := of_decide_eq_true h4
      rw [hl] at this
      exact k0 (.inr (.inr (by omega)))
    have h4' : ¬ (1472 : Int) < ((bV pk.load).length : Int) := fun q => h4 (decide_eq_true q)
    rw [hl] at h4'
    -- self.kept[whole] = packet
    refine ⟨_, rfl, _, rfl, p, _, dx, _, _, rfl, hp, T.cl_Waiting, T.na_Waiting_kept, get_Waiting_kept, _, rfl, d, _, rfl, DPut.k (k := kI z) hd (small1000 (by omega)), ?_⟩
    exact k1 (by
      unfold full
      rintro ((q | q) | q | q)
      · exact h1 (decide_eq_true q)
      · exact h2 q
      · omega
      · omega)
theorem ok_Waiting_how_many (T : Txt K mg t) : FnOk P w K mg base CX0 1 t.f_Waiting_how_many t.fd_Waiting_how_many ["self"] (sp_Waiting_how_many t) := by
  refine T.fn_Waiting_how_many.ok sc_Waiting_how_many (fun vs H Q E h => ?_) (fun cdv A outer s H vs Q E hr h => ?_)
  · obtain ⟨p, dx, d, due, kvs, rfl, _⟩ := h
    rfl
  · obtain ⟨p, dx, d, due, kvs, rfl, hp, hd, k⟩ := h
    refine ⟨_, (pss_one (ps_ret (pe_callB call_lenD rfl T.n_len PySem.boot_len (pa_cons (pe_fld (pv 0) rfl) pa_nil)))), ?_⟩
    exact ⟨_, rfl, p, _, dx, _, _, rfl, hp, T.cl_Waiting, T.na_Waiting_kept, get_Waiting_kept, d, kvs, rfl, hd, k⟩
theorem ok_Waiting_due_waits (T : Txt K mg t) : FnOk P w K mg base CX0 1 t.f_Waiting_due_waits t.fd_Waiting_due_waits ["self"] (sp_Waiting_due_waits t) := by
  refine T.fn_Waiting_due_waits.ok sc_Waiting_due_waits (fun vs H Q E h => ?_) (fun cdv A outer s H vs Q E hr h => ?_)
  · obtain ⟨p, dx, d, due, kvs, rfl, _⟩ := h
    rfl
  · obtain ⟨p, dx, d, due, kvs, rfl, hp, hd, k⟩ := h
    have hu := hu_of hr
    refine ⟨_, (pss_one (ps_ret (pe_cmp (pc_din hu (pe_fld (pv 0) rfl) (pe_fld (pv 0) rfl))))), ?_⟩
    exact ⟨_, rfl, p, _, dx, _, _, rfl, hp, T.cl_Waiting, T.na_Waiting_due, get_Waiting_due, _, rfl, p, _, dx, _, _, rfl, hp, T.cl_Waiting, T.na_Waiting_kept, get_Waiting_kept, d, _, rfl, DGet.k (k := kI due) hd, k⟩
theorem ok_Waiting_take_due (T : Txt K mg t) : FnOk P w K mg base CX0 1 t.f_Waiting_take_due t.fd_Waiting_take_due ["self"] (sp_Waiting_take_due t) := by
  refine T.fn_Waiting_take_due.ok sc_Waiting_take_due (fun vs H Q E h => ?_) (fun cdv A outer s H vs Q E hr h => ?_)
  · obtain ⟨p, dx, d, due, kvs, v, rfl, _⟩ := h
    rfl
  · obtain ⟨p, dx, d, due, kvs, v, rfl, hp, hd, hv, k⟩ := h
    have npd : p ≠ d := ne_of hp hd (by intro z; cases z)
    refine ⟨_, (pss_cons (ps_set (i := 1) sc_Waiting_take_due.nd rfl (Or.inl rfl) (pe_dpop1 (pe_fld (pv 0) rfl) (pe_fld (pv 0) rfl) ⟨rfl, rfl, rfl, rfl⟩))
      (pss_cons (ps_fldaug (pv 0) pe_int in_add)
      (pss_one (ps_ret (pv 1))))), ?_⟩
    -- packet = self.kept.pop(self.due)
    refine ⟨_, rfl, p, _, dx, _, _, rfl, hp, T.cl_Waiting, T.na_Waiting_kept, get_Waiting_kept, d, rfl, .inl ⟨kvs, .inl hd⟩, _, rfl, p, _, dx, _, _, rfl, hp, T.cl_Waiting, T.na_Waiting_due, get_Waiting_due, kvs, kI due, v, hd, rfl, hv, ?_⟩
    have hp' : (upd H d (.dK (dropK kvs (kI due)))) p = some (.ins t.c_Waiting dx (fsW due d)) := by rw [upd_ne npd]; exact hp
    -- self.due += 1
    refine ⟨_, rfl, p, _, dx, _, _, rfl, hp', T.cl_Waiting, T.na_Waiting_due, get_Waiting_due, _, _, rfl, rfl, _, _, hp', len_Waiting, ?_⟩
    rw [put_Waiting_due]
    exact ⟨_, rfl, k⟩
theorem ok_Waiting_give_up_due (T : Txt K mg t) : FnOk P w K mg base CX0 1 t.f_Waiting_give_up_due t.fd_Waiting_give_up_due ["self"] (sp_Waiting_give_up_due t) := by
  refine T.fn_Waiting_give_up_due.ok sc_Waiting_give_up_due (fun vs H Q E h => ?_) (fun cdv A outer s H vs Q E hr h => ?_)
  · obtain ⟨p, dx, d, due, rfl, _⟩ := h
    rfl
  · obtain ⟨p, dx, d, due, rfl, hp, k⟩ := h
    refine ⟨_, (pss_one (ps_fldaug (pv 0) pe_int in_add)), ?_⟩
    refine ⟨_, rfl, p, _, dx, _, _, rfl, hp, T.cl_Waiting, T.na_Waiting_due, get_Waiting_due, _, _, rfl, rfl, _, _, hp, len_Waiting, ?_⟩
    rw [put_Waiting_due]
    exact k
end
/-! ### what is kept -/
def KeptAt (t : Adr) (Z : Addr → Prop) (H : Hp) : List (Key × V) → List (Int × Ql48.Packet) → Prop
  | [], [] => True
  | kv :: r, zp :: q => kv.1 = kI zp.1 ∧ (∃ a, kv.2 = .ref a ∧ PkAt t Z H a zp.2) ∧ KeptAt t Z H r q
  | _, _ => False
section
variable {t : Adr} {Z : Addr → Prop} {H H' : Hp}
theorem KeptAt.length : ∀ {kvs : List (Key × V)} {l : List (Int × Ql48.Packet)}, KeptAt t Z H kvs l → kvs.length = l.length
  | [], [], _ => rfl
  | _ :: _, _ :: _, h => by simp [KeptAt.length h.2.2]
  | [], _ :: _, h => h.elim
  | _ :: _, [], h => h.elim
theorem KeptAt.mono (m : ∀ a p, PkAt t Z H a p → PkAt t Z H' a p) : ∀ {kvs : List (Key × V)} {l : List (Int × Ql48.Packet)}, KeptAt t Z H kvs l → KeptAt t Z H' kvs l
  | [], [], _ => trivial
  | _ :: _, _ :: _, ⟨e, ⟨a, e2, h⟩, r⟩ => ⟨e, ⟨a, e2, m _ _ h⟩, KeptAt.mono m r⟩
  | [], _ :: _, h => h.elim
  | _ :: _, [], h => h.elim
theorem kI_ne {y z : Int} : kI y = kI z ↔ y = z := ⟨fun h => Sum.inl.inj h, fun h => by rw [h]⟩
theorem KeptAt.val (z : Int) : ∀ {kvs : List (Key × V)} {l : List (Int × Ql48.Packet)}, KeptAt t Z H kvs l →
    (((l.find? fun k => decide (k.1 = z)).map (·.2) = none ∧ valV kvs (kI z) = none) ∨ ∃ p a, (l.find? fun k => decide (k.1 = z)).map (·.2) = some p ∧ valV kvs (kI z) = some (.ref a) ∧ PkAt t Z H a p)
  | [], [], _ => .inl ⟨rfl, rfl⟩
  | kv :: r, zp :: q, ⟨e, ⟨a, e2, h⟩, rest⟩ => by
    unfold valV
    rw [List.find?_cons, List.find?_cons, e]
    by_cases hz : zp.1 = z
    · rw [decide_eq_true hz, decide_eq_true (kI_ne.mpr hz)]
      exact .inr ⟨zp.2, a, rfl, by show some kv.2 = _; rw [e2], h⟩
    · rw [decide_eq_false hz, decide_eq_false (fun x => hz (kI_ne.mp x))]
      exact KeptAt.val z rest
  | [], _ :: _, h => h.elim
  | _ :: _, [], h => h.elim
theorem KeptAt.snoc {z : Int} {a : Addr} {p : Ql48.Packet} (hp : PkAt t Z H a p) : ∀ {kvs : List (Key × V)} {l : List (Int × Ql48.Packet)}, KeptAt t Z H kvs l → KeptAt t Z H (kvs ++ [(kI z, .ref a)]) (l ++ [(z, p)])
  | [], [], _ => ⟨rfl, ⟨a, rfl, hp⟩, trivial⟩
  | _ :: _, _ :: _, ⟨e, h, r⟩ => ⟨e, h, KeptAt.snoc hp r⟩
  | [], _ :: _, h => h.elim
  | _ :: _, [], h => h.elim
theorem KeptAt.drop (z : Int) : ∀ {kvs : List (Key × V)} {l : List (Int × Ql48.Packet)}, KeptAt t Z H kvs l → KeptAt t Z H (dropK kvs (kI z)) (l.filter fun k => decide (k.1 ≠ z))
  | [], [], _ => trivial
  | kv :: r, zp :: q, ⟨e, h, rest⟩ => by
    unfold dropK
    rw [List.filter_cons, List.filter_cons, e]
    by_cases hz : zp.1 = z
    · rw [if_neg (by simp [hz]), if_neg (by simp [hz])]
      exact KeptAt.drop z rest
    · rw [if_pos (by simpa using hz), if_pos (by simpa using hz)]
      exact ⟨e, h, KeptAt.drop z rest⟩
  | [], _ :: _, h => h.elim
  | _ :: _, [], h => h.elim
theorem any_find {α : Type} (l : List α) (f : α → Bool) : l.any f = (l.find? f).isSome := by
  induction l with
  | nil => rfl
  | cons a r ih =>
    rw [List.any_cons, List.find?_cons]
    cases f a <;> simp [ih]
theorem KeptAt.full_iff {kvs : List (Key × V)} {x : LP.Wt} (h : KeptAt t Z H kvs x.kept) (z : Int) (n : Nat) : full x.due kvs z n ↔ ((z < x.due ∨ x.has z = true) ∨ (64 ≤ x.kept.length ∨ 1472 < n)) := by
  have e : (valV kvs (kI z)).isSome = x.has z := by
    have e2 : x.has z = ((x.kept.find? fun k => decide (k.1 = z)).map (·.2)).isSome := by
      unfold LP.Wt.has
      rw [any_find, Option.isSome_map]
      rfl
    rw [e2]
    rcases h.val z with ⟨h1, h2⟩ | ⟨p, a, h1, h2, _⟩
    · rw [h1, h2]
      rfl
    · rw [h1, h2]
      rfl
  unfold full
  rw [e, h.length]
end
end My
namespace My
open PySem L2
/-! ### parts -/
def By (b : List Nat) : Prop := ∀ x ∈ b, x ≤ 255
def PtAt (t : Adr) (H : Hp) (a : Addr) (o : List Nat) : Prop := ∃ dx l, H a = some (.ins t.c_Part dx (fs_Part (.ref l) (.int (LP.pk o : Nat)) (.int (LP.pc o : Nat)))) ∧ H l = some (.lst (bV o))
theorem PtAt.same {t : Adr} {H H' : Hp} {a : Addr} {o : List Nat} (s : Same H H') (h : PtAt t H a o) : PtAt t H' a o := by
  obtain ⟨dx, l, h1, h2⟩ := h
  exact ⟨dx, l, s _ _ h1, s _ _ h2⟩
def PtsAt (t : Adr) (H : Hp) : List V → List (List Nat) → Prop
  | [], [] => True
  | v :: r, o :: q => (∃ a, v = .ref a ∧ PtAt t H a o) ∧ PtsAt t H r q
  | _, _ => False
section
variable {t : Adr} {H H' : Hp}
theorem PtsAt.length : ∀ {vs : List V} {ps : List (List Nat)}, PtsAt t H vs ps → vs.length = ps.length
  | [], [], _ => rfl
  | _ :: _, _ :: _, h => by simp [PtsAt.length h.2]
  | [], _ :: _, h => h.elim
  | _ :: _, [], h => h.elim
theorem PtsAt.same (s : Same H H') : ∀ {vs : List V} {ps : List (List Nat)}, PtsAt t H vs ps → PtsAt t H' vs ps
  | [], [], _ => trivial
  | _ :: _, _ :: _, ⟨⟨a, e, h⟩, r⟩ => ⟨⟨a, e, h.same s⟩, PtsAt.same s r⟩
  | [], _ :: _, h => h.elim
  | _ :: _, [], h => h.elim
theorem PtsAt.append : ∀ {vs us : List V} {ps qs : List (List Nat)}, PtsAt t H vs ps → PtsAt t H us qs → PtsAt t H (vs ++ us) (ps ++ qs)
  | [], _, [], _, _, h => h
  | _ :: _, _, _ :: _, _, ⟨h, r⟩, q => ⟨h, PtsAt.append r q⟩
  | [], _, _ :: _, _, h, _ => h.elim
  | _ :: _, _, [], _, h, _ => h.elim
theorem PtsAt.take : ∀ (n : Nat) {vs : List V} {ps : List (List Nat)}, PtsAt t H vs ps → PtsAt t H (vs.take n) (ps.take n)
  | 0, _, _, _ => by simp [PtsAt]
  | _ + 1, [], [], _ => trivial
  | n + 1, _ :: _, _ :: _, ⟨h, r⟩ => ⟨h, PtsAt.take n r⟩
  | _ + 1, [], _ :: _, h => h.elim
  | _ + 1, _ :: _, [], h => h.elim
theorem PtsAt.get : ∀ {i : Nat} {vs : List V} {ps : List (List Nat)} {v : V}, PtsAt t H vs ps → vs[i]? = some v → ∃ a o, v = .ref a ∧ ps[i]? = some o ∧ PtAt t H a o
  | _, [], [], _, _, e => by simp at e
  | 0, _ :: _, _ :: _, _, ⟨⟨a, e1, h⟩, _⟩, e => by
    simp at e
    subst e
    exact ⟨a, _, e1, rfl, h⟩
  | i + 1, _ :: _, _ :: _, _, ⟨_, r⟩, e => by
    obtain ⟨a, o, h1, h2, h3⟩ := PtsAt.get (i := i) r (by simpa using e)
    exact ⟨a, o, h1, by simpa using h2, h3⟩
  | _, [], _ :: _, _, h, _ => h.elim
  | _, _ :: _, [], _, h, _ => h.elim
end
def sp_Part_init (t : Adr) : Sp := fun vs H Q _ => ∃ (p dx l : Addr) (o : List Nat), vs = [.ref p, .ref l] ∧ H p = some (.ins t.c_Part dx []) ∧ H l = some (.lst (bV o)) ∧ 2 ≤ o.length ∧ By o ∧ Q .non (upd H p (.ins t.c_Part dx (fs_Part (.ref l) (.int (LP.pk o : Nat)) (.int (LP.pc o : Nat)))))
def sp_Part_is_sender_report_of (t : Adr) : Sp := fun vs H Q _ => ∃ (a : Addr) (o : List Nat) (src : Int), vs = [.ref a, .int src] ∧ PtAt t H a o ∧ ∀ H', Same H H' → Q (.bl (decide (LP.pk o = 200 ∧ ((Ql48.field o 4 4 : Nat) : Int) = src))) H'
def sp_Part_middle_of_time (t : Adr) : Sp := fun vs H Q _ => ∃ (a : Addr) (o : List Nat), vs = [.ref a] ∧ PtAt t H a o ∧ ∀ H', Same H H' → Q (.int ((Ql48.field o 10 4 : Nat) : Int)) H'
def sp_Part_leaving (t : Adr) : Sp := fun vs H Q _ => ∃ (a : Addr) (o : List Nat), vs = [.ref a] ∧ PtAt t H a o ∧ NewL H Q (LP.leaving o)
def sp_Part_is_goodbye_of (t : Adr) : Sp := fun vs H Q _ => ∃ (a : Addr) (o : List Nat) (src : Int), vs = [.ref a, .int src] ∧ PtAt t H a o ∧ ∀ H', Same H H' → Q (.bl (decide (LP.pk o = 203 ∧ src ∈ LP.leaving o))) H'
def sp_padding_fits (K : PySem.W.Frag) : Sp := fun vs H Q _ => ∃ (l : Addr) (o : List Nat), vs = [.ref l] ∧ SqL K H l (bV o) ∧ 0 < o.length ∧ By o ∧ Q (.bl (LP.padFits o)) H
def sp_Part_is_long_enough (t : Adr) : Sp := fun vs H Q _ => ∃ (a : Addr) (o : List Nat), vs = [.ref a] ∧ PtAt t H a o ∧ 0 < o.length ∧ By o ∧ LP.least (LP.pk o) ≠ none ∧ Q (.bl (LP.longEnough o)) H
def sp_Part_is_right (t : Adr) : Sp := fun vs H Q _ => ∃ (a : Addr) (o : List Nat), vs = [.ref a] ∧ PtAt t H a o ∧ 0 < o.length ∧ By o ∧ Q (.bl (LP.rightM o)) H
def PtOr (t : Adr) (H : Hp) (r : V) : Option (List Nat) → Prop
  | none => r = .non
  | some o => ∃ a, r = .ref a ∧ PtAt t H a o
def sp_cut_part (t : Adr) (K : PySem.W.Frag) : Sp := fun vs H Q _ => ∃ (o : Addr) (b : List Nat) (i : Nat), vs = [.ref o, .int (i : Int)] ∧ SqL K H o (bV b) ∧ i ≤ b.length ∧ By b ∧ ∀ r H', Same H H' → PtOr t H' r (LP.cutM (b.drop i)) → Q r H'
def sp_begins_rightly (t : Adr) (K : PySem.W.Frag) : Sp := fun vs H Q _ => ∃ (l : Addr) (rs : List V) (ps : List (List Nat)), vs = [.ref l] ∧ H l = some (.lst rs) ∧ PtsAt t H rs ps ∧ Q (.bl (LP.beginsM ps)) H
def sp_is_padded_rightly (t : Adr) (K : PySem.W.Frag) : Sp := fun vs H Q _ => ∃ (l : Addr) (rs : List V) (ps : List (List Nat)), vs = [.ref l] ∧ H l = some (.lst rs) ∧ PtsAt t H rs ps ∧ ps.length ≤ 65535 ∧ (∀ o ∈ ps, 0 < o.length ∧ By o) ∧ ∀ H', Same H H' → Q (.bl (LP.paddedM ps)) H'
def PtsOr (t : Adr) (H : Hp) (r : V) : Option (List (List Nat)) → Prop
  | none => r = .non
  | some ps => ∃ l rs, r = .ref l ∧ H l = some (.lst rs) ∧ PtsAt t H rs ps
def sp_read_parts (t : Adr) (K : PySem.W.Frag) : Sp := fun vs H Q _ => ∃ (o : Addr) (b : List Nat), vs = [.ref o] ∧ SqL K H o (bV b) ∧ By b ∧ ∀ r H', Same H H' → PtsOr t H' r (LP.partsM b) → Q r H'
theorem inV_iL (z : Int) (l : List Int) : inV (.int z) (iL l) = decide (z ∈ l) := by
  induction l with
  | nil => rfl
  | cons a r ih =>
    have e : inV (.int z) (iL (a :: r)) = ((a == z) || inV (.int z) (iL r)) := by
      unfold inV
      rw [show iL (a :: r) = V.int a :: iL r from rfl, List.any_cons]
      rfl
    rw [e, ih]
    by_cases h : z = a
    · subst h
      simp
    · have h2 : (a == z) = false := beq_eq_false_iff_ne.mpr fun q => h q.symm
      rw [h2]
      simp [h]
theorem flat_iL (l : List Int) : (iL l).all flatV = true := by
  rw [List.all_map]
  exact List.all_eq_true.mpr fun _ _ => rfl
theorem least_val {a b c d e : V} (k : Nat) : valV (kK [(200, a), (201, b), (202, c), (203, d), (204, e)]) (Sum.inl (k : Int)) = if k = 200 then some a else if k = 201 then some b else if k = 202 then some c else if k = 203 then some d else if k = 204 then some e else none := by
  have hd : ∀ n : Nat, decide ((Sum.inl ((n : Nat) : Int) : Key) = Sum.inl (k : Int)) = decide (k = n) := fun n => decide_eq_decide.mpr ⟨fun z => by have := Sum.inl.inj z; omega, fun z => by rw [z]⟩
  have h0 := hd 200
  have h1 := hd 201
  have h2 := hd 202
  have h3 := hd 203
  have h4 := hd 204
  unfold valV kK
  simp only [List.map_cons, List.map_nil, List.find?_cons, List.find?_nil]
  rw [show (Sum.inl (200 : Int) : Key) = Sum.inl (((200 : Nat) : Int)) from rfl, show (Sum.inl (201 : Int) : Key) = Sum.inl (((201 : Nat) : Int)) from rfl, show (Sum.inl (202 : Int) : Key) = Sum.inl (((202 : Nat) : Int)) from rfl, show (Sum.inl (203 : Int) : Key) = Sum.inl (((203 : Nat) : Int)) from rfl, show (Sum.inl (204 : Int) : Key) = Sum.inl (((204 : Nat) : Int)) from rfl, h0, h1, h2, h3, h4]
  by_cases e0 : k = 200
  · simp [e0]
  by_cases e1 : k = 201
  · simp [e1]
  by_cases e2 : k = 202
  · simp [e2]
  by_cases e3 : k = 203
  · simp [e3]
  by_cases e4 : k = 204
  · simp [e4]
  simp [e0, e1, e2, e3, e4]
theorem least_none (k : Nat) : LP.least k = none ↔ ¬ (k = 200 ∨ k = 201 ∨ k = 202 ∨ k = 203 ∨ k = 204) := by
  by_cases h : k = 200 ∨ k = 201 ∨ k = 202 ∨ k = 203 ∨ k = 204
  · rcases h with h | h | h | h | h <;> subst h <;> simp [LP.least]
  · simp only [h, not_false_eq_true, iff_true]
    unfold LP.least
    split <;> first | rfl | omega
section
variable {P : Program} {w : World} {K : PySem.W.Frag} {mg : Str → Option Value} {base : Heap} {t : Adr}
theorem ok_Part_init (T : Txt K mg t) : FnOk P w K mg base CX0 1 t.f_Part_init t.fd_Part_init ["self", "octets"] (sp_Part_init t) := by
  refine T.fn_Part_init.ok sc_Part_init (fun vs H Q E h => ?_) (fun cdv A outer s H vs Q E hr h => ?_)
  · obtain ⟨p, dx, l, o, rfl, _⟩ := h
    rfl
  · obtain ⟨p, dx, l, o, rfl, hp, hl, h2, hb, k⟩ := h
    have hx0 : atI (bV o) 0 = some (V.int ((LP.hd o : Nat) : Int)) := at_bV (i := 0) (by omega)
    have hx1 : atI (bV o) 1 = some (V.int ((LP.pk o : Nat) : Int)) := at_bV (i := 1) (by omega)
    have nlp : l ≠ p := ne_of hl hp (by intro z; cases z)
    have sq : ∀ u, SqL K (upd H p u) l (bV o) := fun u => SqL.of (by rw [upd_ne nlp]; exact hl)
    refine ⟨_, (pss_cons (ps_fld (pv 0) (pv 1) rfl)
      (pss_cons (ps_fld (pv 0) (pe_ix ix_list (pv 1) pe_int (fun _ _ => rfl)) rfl)
      (pss_one (ps_fld (pv 0) (pe_op op_and (pe_ix ix_list (pv 1) pe_int (fun _ _ => rfl)) (pe_gl T.g_ENTRIES rfl)) rfl)))), ?_⟩
    refine ⟨_, rfl, _, rfl, p, _, dx, _, rfl, hp, T.cl_Part, T.na_Part_octets, pl0, ?_⟩
    refine ⟨_, rfl, l, _, _, _, rfl, rfl, sq _, hx1, _, rfl, p, _, dx, _, rfl, upd_same, T.cl_Part, T.na_Part_kind, pl pl0, ?_⟩
    rw [upd_upd]
    refine ⟨_, rfl, l, _, _, _, rfl, rfl, sq _, hx0, _, _, rfl, rfl, _, rfl, p, _, dx, _, rfl, upd_same, T.cl_Part, T.na_Part_entries, pl (pl pl0), ?_⟩
    rw [upd_upd, made_Part]
    show Q .non (upd H p (.ins t.c_Part dx (fs_Part (.ref l) (.int (LP.pk o : Nat)) (.int (Builtin.bitAnd ((LP.hd o : Nat) : Int) 31)))))
    rw [bit31 (LP.hd o) (Nat.lt_succ_of_le (LP.getD_le hb 0))]
    exact k
theorem ok_Part_is_sender_report_of (T : Txt K mg t) : FnOk P w K mg base CX0 2 t.f_Part_is_sender_report_of t.fd_Part_is_sender_report_of ["self", "source"] (sp_Part_is_sender_report_of t) := by
  refine T.fn_Part_is_sender_report_of.ok sc_Part_is_sender_report_of (fun vs H Q E h => ?_) (fun cdv A outer s H vs Q E hr h => ?_)
  · obtain ⟨a, o, src, rfl, _⟩ := h
    rfl
  · obtain ⟨a, o, src, rfl, ⟨dx, l, ha, hl⟩, k⟩ := h
    refine ⟨_, (pss_one (ps_ret (pe_and (pe_cmpR op_eq (pe_fld (pv 0) rfl) (pe_gl T.g_SENDER_REPORT rfl) (nomark _)) (pe_one (pe_cmpR op_eq (pe_call (ok_read_number T) (hr.mono (by decide)) rfl T.mg_read_number T.fn_read_number.kp T.b_read_number .nil pass0 (pa_cons (pe_fld (pv 0) rfl) (pa_cons pe_int (pa_cons pe_int pa_nil)))) (pv 1) (nomark _)))))), ?_⟩
    refine ⟨_, rfl, a, _, dx, _, _, rfl, ha, T.cl_Part, T.na_Part_kind, get_Part_kind, rfl, _, rfl, ?_⟩
    refine ite2 (fun h1 => ?_) (fun h1 => ?_)
    · have h2 : LP.pk o = 200 := by have := V.int.inj (of_decide_eq_true h1); omega
      refine ⟨_, rfl, a, _, dx, _, _, rfl, ha, T.cl_Part, T.na_Part_octets, get_Part_octets, l, o, 4, 4, rfl, SqL.of hl, fun H2 s2 => ?_⟩
      refine ⟨_, rfl, rfl, ?_⟩
      have e : decide (V.int ((Ql48.field o 4 4 : Nat) : Int) = V.int src) = decide (LP.pk o = 200 ∧ ((Ql48.field o 4 4 : Nat) : Int) = src) := decide_eq_decide.mpr ⟨fun z => ⟨h2, V.int.inj z⟩, fun z => congrArg V.int z.2⟩
      have k2 := k H2 s2
      rw [← e] at k2
      exact k2
    · have e : decide (LP.pk o = 200 ∧ ((Ql48.field o 4 4 : Nat) : Int) = src) = false := decide_eq_false fun z => h1 (decide_eq_true (congrArg V.int (by omega)))
      have k2 := k H (Same.refl H)
      rw [e] at k2
      exact k2
theorem ok_Part_middle_of_time (T : Txt K mg t) : FnOk P w K mg base CX0 2 t.f_Part_middle_of_time t.fd_Part_middle_of_time ["self"] (sp_Part_middle_of_time t) := by
  refine T.fn_Part_middle_of_time.ok sc_Part_middle_of_time (fun vs H Q E h => ?_) (fun cdv A outer s H vs Q E hr h => ?_)
  · obtain ⟨a, o, rfl, _⟩ := h
    rfl
  · obtain ⟨a, o, rfl, ⟨dx, l, ha, hl⟩, k⟩ := h
    refine ⟨_, (pss_one (ps_ret (pe_call (ok_read_number T) (hr.mono (by decide)) rfl T.mg_read_number T.fn_read_number.kp T.b_read_number .nil pass0 (pa_cons (pe_fld (pv 0) rfl) (pa_cons pe_int (pa_cons pe_int pa_nil)))))), ?_⟩
    exact ⟨_, rfl, a, _, dx, _, _, rfl, ha, T.cl_Part, T.na_Part_octets, get_Part_octets, l, o, 10, 4, rfl, SqL.of hl, fun H2 s2 => k H2 s2⟩
theorem ok_Part_leaving (T : Txt K mg t) : FnOk P w K mg base CX0 2 t.f_Part_leaving t.fd_Part_leaving ["self"] (sp_Part_leaving t) := by
  refine T.fn_Part_leaving.ok sc_Part_leaving (fun vs H Q E h => ?_) (fun cdv A outer s H vs Q E hr h => ?_)
  · obtain ⟨a, o, rfl, _⟩ := h
    rfl
  · obtain ⟨a, o, rfl, ⟨dx, l, ha, hl⟩, k⟩ := h
    have sz : 4000 ≤ sizeLine := by decide
    have hpc : LP.pc o < 32 := Nat.mod_lt _ (by decide)
    refine ⟨_, (pss_one (ps_ret (pe_lc (own := [("place", 1)]) rfl sc_Part_leaving.nd (pi_range1 rfl T.n_range (pa_cons (pe_fld (pv 0) rfl) pa_nil)) (blkOk_by rfl) (fun _ _ _ _ _ => pg_name (i := 1) sc_Part_leaving.nd rfl (Or.inl rfl)) (fun _ _ _ _ _ => pts_nil) (fun _ _ _ _ _ => (pe_call (ok_read_number T) (hr.mono (by decide)) rfl T.mg_read_number T.fn_read_number.kp T.b_read_number .nil pass0 (pa_cons (pe_fldK (K := K) rfl (pv 0) rfl) (pa_cons (pe_op op_add pe_int (pe_op op_mul pe_int (pv 1))) (pa_cons pe_int pa_nil)))))))), ?_⟩
    refine ⟨_, rfl, a, _, dx, _, _, rfl, ha, T.cl_Part, T.na_Part_entries, get_Part_entries, ((LP.pc o : Nat) : Int), rfl, by omega, by omega, fun D hD => ?_⟩
    refine lc_range (lo := 0) (n := ((LP.pc o : Nat) : Int).toNat) (fun j H2 => Same H H2 ∧ H2 D = some (.lst (iL ((List.range j).map fun i => ((Ql48.field o (4 + 4 * i) 4 : Nat) : Int))))) ⟨same_new hD, upd_same⟩ ?_ ?_
    · rintro j H2 hj ⟨s2, hD2⟩
      refine ⟨rfl, ?_⟩
      refine iteT (B := True) ?_
      refine iteT ?_
      refine ⟨_, rfl, a, _, dx, _, _, rfl, s2 _ _ ha, T.cl_Part, T.na_Part_octets, get_Part_octets, _, rfl, _, _, rfl, rfl, .inl ⟨by decide, by decide⟩, _, _, rfl, rfl, l, o, 4 + 4 * j, 4, ?_, SqL.of (s2 _ _ hl), fun H3 s3 => ?_⟩
      · show [V.ref l, V.int (4 + 4 * (0 + (j : Int))), V.int 4] = [V.ref l, V.int ((4 + 4 * j : Nat) : Int), V.int ((4 : Nat) : Int)]
        congr 3
        omega
      · refine ⟨_, s3 _ _ hD2, by simp; omega, ?_, ?_⟩
        · intro b u e
          rw [upd_ne (ne_of_none e hD)]
          exact s3 _ _ (s2 _ _ e)
        · rw [upd_same, List.range_succ, List.map_append]
          simp
    · rintro H2 ⟨s2, hD2⟩
      exact k D H2 s2 hD (by rw [hD2]; unfold LP.leaving; rw [Int.toNat_natCast])
theorem ok_Part_is_goodbye_of (T : Txt K mg t) : FnOk P w K mg base CX0 3 t.f_Part_is_goodbye_of t.fd_Part_is_goodbye_of ["self", "source"] (sp_Part_is_goodbye_of t) := by
  refine T.fn_Part_is_goodbye_of.ok sc_Part_is_goodbye_of (fun vs H Q E h => ?_) (fun cdv A outer s H vs Q E hr h => ?_)
  · obtain ⟨a, o, src, rfl, _⟩ := h
    rfl
  · obtain ⟨a, o, src, rfl, hA, k⟩ := h
    obtain ⟨dx, l, ha, hl⟩ := id hA
    refine ⟨_, (pss_one (ps_ret (pe_and (pe_cmpR op_eq (pe_fld (pv 0) rfl) (pe_gl T.g_GOODBYE rfl) (nomark _)) (pe_one (pe_cmpR op_in_seq (pv 1) (pe_meth0 (pv 0) T.cl_Part T.me_Part_leaving (ok_Part_leaving T) (hr.mono (by decide)) T.b_Part_leaving .nil pass0) (by with_unfolding_all rfl)))))), ?_⟩
    refine ⟨_, rfl, a, _, dx, _, _, rfl, ha, T.cl_Part, T.na_Part_kind, get_Part_kind, rfl, _, rfl, ?_⟩
    refine ite2 (fun h1 => ?_) (fun h1 => ?_)
    · have h2 : LP.pk o = 203 := by have := V.int.inj (of_decide_eq_true h1); omega
      refine ⟨_, rfl, _, rfl, a, dx, _, rfl, ha, no_Part_leaving, a, o, rfl, hA, fun r H2 s2 _ hr2 => ?_⟩
      refine ⟨r, _, rfl, .inl (SqL.of hr2), rfl, flat_iL _, ?_⟩
      have e : inV (.int src) (iL (LP.leaving o)) = decide (LP.pk o = 203 ∧ src ∈ LP.leaving o) := by
        rw [inV_iL]
        exact decide_eq_decide.mpr ⟨fun z => ⟨h2, z⟩, fun z => z.2⟩
      have k2 := k H2 s2
      rw [← e] at k2
      exact k2
    · have e : decide (LP.pk o = 203 ∧ src ∈ LP.leaving o) = false := decide_eq_false fun z => h1 (decide_eq_true (congrArg V.int (by omega)))
      have k2 := k H (Same.refl H)
      rw [e] at k2
      exact k2
theorem ok_padding_fits (T : Txt K mg t) : FnOk P w K mg base CX0 3 t.f_padding_fits t.fd_padding_fits ["octets"] (sp_padding_fits K) := by
  refine T.fn_padding_fits.ok sc_padding_fits (fun vs H Q E h => ?_) (fun cdv A outer s H vs Q E hr h => ?_)
  · obtain ⟨l, o, rfl, _⟩ := h
    rfl
  · obtain ⟨l, o, rfl, hS, h0, hb, k⟩ := h
    have hlen : (bV o).length = o.length := List.length_map _
    refine ⟨_, (pss_cons (ps_if (pt_not (pt_val (pe_call (ok_has_padding T) (hr.mono (by decide)) rfl T.mg_has_padding T.fn_has_padding.kp T.b_has_padding .nil pass0 (pa_cons (pv 0) pa_nil)))) (pss_one (ps_ret pe_bl)) pss_nil)
      (pss_cons (ps_set (i := 1) sc_padding_fits.nd rfl (Or.inl rfl) (pe_call (ok_padding_length T) (hr.mono (by decide)) rfl T.mg_padding_length T.fn_padding_length.kp T.b_padding_length .nil pass0 (pa_cons (pv 0) pa_nil)))
      (pss_one (ps_ret (pe_and (pe_cmpR op_ne (pv 1) pe_int (nomark _)) (pe_and (pe_cmpR op_eq (pe_op op_mod (pv 1) pe_int) pe_int (nomark _)) (pe_one (pe_cmpR op_le (pv 1) (pe_op op_sub (pe_callB call_len_seq rfl T.n_len PySem.boot_len (pa_cons (pv 0) pa_nil)) (pe_gl T.g_LEAST_LENGTH rfl)) (nomark _))))))))), ?_⟩
    -- if not has_padding(octets): return True
    refine ⟨_, rfl, l, o, rfl, hS, h0, hb, _, rfl, ?_⟩
    have ep : LP.pd o = true ↔ ¬ LP.hd o / 32 % 2 = 0 := by
      unfold LP.pd
      simp
    unfold LP.padFits at k
    cases e : LP.pd o with
    | false =>
      rw [if_pos (Classical.byContradiction fun z => by rw [ep.mpr z] at e; cases e)] at k
      exact iteT k
    | true =>
      rw [if_neg (ep.mp e)] at k
      refine iteF ?_
      -- padding = padding_length(octets)
      refine ⟨_, rfl, l, o, rfl, hS, h0, hb, ?_⟩
      -- return padding != 0 and padding % 4 == 0 and (padding <= len(octets) - LEAST_LENGTH)
      refine ⟨_, rfl, rfl, _, rfl, ?_⟩
      by_cases z0 : LP.padLen o = 0
      · rw [decide_eq_true (show V.int ((LP.padLen o : Nat) : Int) = V.int 0 from congrArg V.int (by omega))]
        refine iteF ?_
        rw [decide_eq_false (fun z => z.1 z0)] at k
        exact k
      rw [decide_eq_false (show ¬ V.int ((LP.padLen o : Nat) : Int) = V.int 0 from fun z => z0 (by have := V.int.inj z; omega))]
      refine iteT ?_
      refine ⟨_, rfl, _, _, rfl, rfl, (by show (0 : Int) < 4; decide), rfl, _, rfl, ?_⟩
      by_cases z4 : LP.padLen o % 4 = 0
      · rw [decide_eq_true (show V.int (((LP.padLen o : Nat) : Int) % 4) = V.int 0 from congrArg V.int (by omega))]
        refine iteT ?_
        refine ⟨_, rfl, _, rfl, l, _, rfl, .inl hS, _, _, rfl, rfl, _, _, rfl, rfl, ?_⟩
        have e : decide (((LP.padLen o : Nat) : Int) ≤ ((bV o).length : Int) - 8) = decide (LP.padLen o ≠ 0 ∧ LP.padLen o % 4 = 0 ∧ LP.padLen o + 8 ≤ o.length) := by
          rw [hlen]
          refine decide_eq_decide.mpr ⟨fun z => ⟨z0, z4, by omega⟩, fun z => by omega⟩
        rw [← e] at k
        exact k
      · rw [decide_eq_false (show ¬ V.int (((LP.padLen o : Nat) : Int) % 4) = V.int 0 from fun z => z4 (by have := V.int.inj z; omega))]
        refine iteF ?_
        rw [decide_eq_false (fun z => z4 z.2.1)] at k
        exact k
theorem ok_Part_is_long_enough (T : Txt K mg t) : FnOk P w K mg base CX0 3 t.f_Part_is_long_enough t.fd_Part_is_long_enough ["self"] (sp_Part_is_long_enough t) := by
  refine T.fn_Part_is_long_enough.ok sc_Part_is_long_enough (fun vs H Q E h => ?_) (fun cdv A outer s H vs Q E hr h => ?_)
  · obtain ⟨a, o, rfl, _⟩ := h
    rfl
  · obtain ⟨a, o, rfl, ⟨dx, l, ha, hl⟩, h0, hb, hle, k⟩ := h
    have hlen : (bV o).length = o.length := List.length_map _
    obtain ⟨tA, x, hv, hx, ht⟩ : ∃ (tA : Addr) (x : Nat × Nat), valV (kK [(200, .ref t.d_LEAST_LENGTHS_0), (201, .ref t.d_LEAST_LENGTHS_1), (202, .ref t.d_LEAST_LENGTHS_2), (203, .ref t.d_LEAST_LENGTHS_3), (204, .ref t.d_LEAST_LENGTHS_4)]) (Sum.inl ((LP.pk o : Nat) : Int)) = some (.ref tA) ∧ LP.least (LP.pk o) = some x ∧ KT K tA [.int (x.1 : Int), .int (x.2 : Int)] := by
      rw [least_val]
      have hn : LP.pk o = 200 ∨ LP.pk o = 201 ∨ LP.pk o = 202 ∨ LP.pk o = 203 ∨ LP.pk o = 204 := Classical.byContradiction fun z => hle ((least_none _).mpr z)
      rcases hn with h | h | h | h | h
      · exact ⟨_, (28, 24), by rw [if_pos h], by rw [h]; rfl, T.kt_LEAST_LENGTHS_0⟩
      · exact ⟨_, (8, 24), by rw [if_neg (by omega), if_pos h], by rw [h]; rfl, T.kt_LEAST_LENGTHS_1⟩
      · exact ⟨_, (8, 0), by rw [if_neg (by omega), if_neg (by omega), if_pos h], by rw [h]; rfl, T.kt_LEAST_LENGTHS_2⟩
      · exact ⟨_, (4, 4), by rw [if_neg (by omega), if_neg (by omega), if_neg (by omega), if_pos h], by rw [h]; rfl, T.kt_LEAST_LENGTHS_3⟩
      · exact ⟨_, (8, 0), by rw [if_neg (by omega), if_neg (by omega), if_neg (by omega), if_neg (by omega), if_pos h], by rw [h]; rfl, T.kt_LEAST_LENGTHS_4⟩
    have hx24 : (x.2 : Int) ≤ 24 := by
      have hx' := hx
      unfold LP.least at hx'
      split at hx' <;> first | (cases hx'; decide) | cases hx'
    unfold LP.longEnough at k
    rw [hx] at k
    refine ⟨_, (pss_cons (ps_set (i := 1) sc_Part_is_long_enough.nd rfl (Or.inl rfl) (pe_kget (pe_gl T.gd_LEAST_LENGTHS rfl) (pe_fld (pv 0) rfl) (fun _ _ => rfl)))
      (pss_one (ps_ret (pe_cmpR op_ge (pe_op op_sub (pe_callB call_len_seq rfl T.n_len PySem.boot_len (pa_cons (pe_fld (pv 0) rfl) pa_nil)) (pe_call (ok_padding_length T) (hr.mono (by decide)) rfl T.mg_padding_length T.fn_padding_length.kp T.b_padding_length .nil pass0 (pa_cons (pe_fld (pv 0) rfl) pa_nil))) (pe_op op_add (pe_ix ix_tup (pv 1) pe_int (fun _ _ => rfl)) (pe_op op_mul (pe_ix ix_tup (pv 1) pe_int (fun _ _ => rfl)) (pe_fld (pv 0) rfl))) (nomark _))))), ?_⟩
    -- least = LEAST_LENGTHS[self.kind]
    refine ⟨_, rfl, a, _, dx, _, _, rfl, ha, T.cl_Part, T.na_Part_kind, get_Part_kind, _, _, _, _, rfl, rfl, T.kd_LEAST_LENGTHS, hv, ?_⟩
    -- return len(self.octets) - padding_length(self.octets) >= least[0] + least[1] * self.entries
    refine ⟨_, rfl, a, _, dx, _, _, rfl, ha, T.cl_Part, T.na_Part_octets, get_Part_octets, l, _, rfl, .inl (SqL.of hl), _, rfl, a, _, dx, _, _, rfl, ha, T.cl_Part, T.na_Part_octets, get_Part_octets, l, o, rfl, SqL.of hl, h0, hb, _, _, rfl, rfl, ?_⟩
    refine ⟨_, rfl, tA, _, _, _, rfl, rfl, ht.sq, atI_nat (j := 0) rfl, _, rfl, tA, _, _, _, rfl, rfl, ht.sq, atI_nat (j := 1) rfl, _, rfl, a, _, dx, _, _, rfl, ha, T.cl_Part, T.na_Part_entries, get_Part_entries, _, _, rfl, rfl, .inl ⟨by omega, by omega⟩, _, _, rfl, rfl, _, _, rfl, rfl, ?_⟩
    have e : decide ((x.1 : Int) + (x.2 : Int) * ((LP.pc o : Nat) : Int) ≤ ((bV o).length : Int) - ((LP.padLen o : Nat) : Int)) = decide (x.1 + x.2 * LP.pc o + LP.padLen o ≤ o.length) := by
      rw [hlen]
      have em : (x.2 : Int) * ((LP.pc o : Nat) : Int) = ((x.2 * LP.pc o : Nat) : Int) := by rw [Int.natCast_mul]
      rw [em]
      exact decide_eq_decide.mpr ⟨fun z => by omega, fun z => by omega⟩
    dsimp only at k
    rw [← e] at k
    exact k
theorem ok_Part_is_right (T : Txt K mg t) : FnOk P w K mg base CX0 4 t.f_Part_is_right t.fd_Part_is_right ["self"] (sp_Part_is_right t) := by
  refine T.fn_Part_is_right.ok sc_Part_is_right (fun vs H Q E h => ?_) (fun cdv A outer s H vs Q E hr h => ?_)
  · obtain ⟨a, o, rfl, _⟩ := h
    rfl
  · obtain ⟨a, o, rfl, hA, h0, hb, k⟩ := h
    obtain ⟨dx, l, ha, hl⟩ := id hA
    unfold LP.rightM at k
    refine ⟨_, (pss_cons (ps_if (PW.pt (pw_or (pt_not (pt_val (pe_call (ok_has_version T) (hr.mono (by decide)) rfl T.mg_has_version T.fn_has_version.kp T.b_has_version .nil pass0 (pa_cons (pe_fld (pv 0) rfl) pa_nil)))) (pw_or1 (pt_cmp (pc_knotin (pe_fld (pv 0) rfl) (pe_gl T.gd_LEAST_LENGTHS rfl)))))) (pss_one (ps_ret pe_bl)) pss_nil)
      (pss_one (ps_ret (pe_and (pe_call (ok_padding_fits T) (hr.mono (by decide)) rfl T.mg_padding_fits T.fn_padding_fits.kp T.b_padding_fits .nil pass0 (pa_cons (pe_fld (pv 0) rfl) pa_nil)) (pe_one (pe_meth0 (pv 0) T.cl_Part T.me_Part_is_long_enough (ok_Part_is_long_enough T) (hr.mono (by decide)) T.b_Part_is_long_enough .nil pass0)))))), ?_⟩
    -- if not has_version(self.octets) or self.kind not in LEAST_LENGTHS: return False
    refine ⟨_, rfl, a, _, dx, _, _, rfl, ha, T.cl_Part, T.na_Part_octets, get_Part_octets, l, o, rfl, SqL.of hl, h0, _, rfl, ?_⟩
    by_cases h1 : LP.hd o / 64 = 2
    case neg =>
      rw [decide_eq_false h1]
      rw [if_pos (.inl h1)] at k
      exact iteT (iteT k)
    rw [decide_eq_true h1]
    refine iteF ?_
    refine ⟨_, rfl, a, _, dx, _, _, rfl, ha, T.cl_Part, T.na_Part_kind, get_Part_kind, _, _, _, rfl, rfl, T.kd_LEAST_LENGTHS, _, rfl, ?_⟩
    have ev : (valV (kK [(200, .ref t.d_LEAST_LENGTHS_0), (201, .ref t.d_LEAST_LENGTHS_1), (202, .ref t.d_LEAST_LENGTHS_2), (203, .ref t.d_LEAST_LENGTHS_3), (204, .ref t.d_LEAST_LENGTHS_4)]) (Sum.inl ((LP.pk o : Nat) : Int))).isSome = (LP.least (LP.pk o)).isSome := by
      rw [least_val]
      by_cases hn : LP.pk o = 200 ∨ LP.pk o = 201 ∨ LP.pk o = 202 ∨ LP.pk o = 203 ∨ LP.pk o = 204
      · rcases hn with h | h | h | h | h <;> rw [h] <;> rfl
      · rw [(least_none _).mpr hn, if_neg (by omega), if_neg (by omega), if_neg (by omega), if_neg (by omega), if_neg (by omega)]
        rfl
    rw [ev]
    cases hle : LP.least (LP.pk o) with
    | none =>
      rw [hle, if_pos (.inr rfl)] at k
      exact iteT k
    | some x =>
      rw [if_neg (fun z => z.elim (fun q => q h1) (fun q => by rw [hle] at q; cases q))] at k
      refine iteF ?_
      -- return padding_fits(self.octets) and self.is_long_enough()
      refine ⟨_, rfl, a, _, dx, _, _, rfl, ha, T.cl_Part, T.na_Part_octets, get_Part_octets, l, o, rfl, SqL.of hl, h0, hb, _, rfl, ?_⟩
      cases ef : LP.padFits o with
      | false =>
        rw [ef] at k
        exact iteF k
      | true =>
        rw [ef] at k
        refine iteT ?_
        exact ⟨_, rfl, a, dx, _, rfl, ha, no_Part_is_long_enough, a, o, rfl, hA, h0, hb, by rw [hle]; simp, k⟩
end
end My
namespace My
open PySem L2
/-! ### all parts -/
theorem field_drop (b : List Nat) (i j n : Nat) : Ql48.field (b.drop i) j n = Ql48.field b (i + j) n := by
  unfold Ql48.field
  rw [List.drop_drop]
theorem cut_to (xs : List V) : cutV xs none (some 1) = xs.take 1 := by
  unfold cutV
  rw [HT.sIx_none, show (1 : Int) = ((1 : Nat) : Int) from rfl, HT.sIx_nat]
  show (xs.drop 0).take (min 1 xs.length - 0) = xs.take 1
  rw [List.drop_zero, Nat.sub_zero]
  cases xs with
  | nil => rfl
  | cons a r => simp
theorem cut_last (xs : List V) : cutV xs none (some (-1)) = xs.dropLast := by
  unfold cutV
  rw [HT.sIx_none]
  have e : HT.sIx xs.length xs.length (some (-1)) = xs.length - 1 := by
    have := HT.clip_eq (-1) xs.length xs.length
    rw [if_pos (by decide)] at this
    omega
  rw [e, List.drop_zero, Nat.sub_zero, List.dropLast_eq_take]
theorem PtsAt.dropLast {t : Adr} {H : Hp} {vs : List V} {ps : List (List Nat)} (h : PtsAt t H vs ps) : PtsAt t H vs.dropLast ps.dropLast := by
  rw [List.dropLast_eq_take, List.dropLast_eq_take, h.length]
  exact h.take _
theorem By.drop {b : List Nat} (h : By b) (i : Nat) : By (b.drop i) := fun x hx => h x (List.mem_of_mem_drop hx)
theorem By.take {b : List Nat} (h : By b) (i : Nat) : By (b.take i) := fun x hx => h x (List.mem_of_mem_take hx)
theorem cutM_some {r o : List Nat} (h : LP.cutM r = some o) : o = r.take (4 + 4 * Ql48.field r 2 2) ∧ 8 ≤ o.length ∧ o.length ≤ r.length := by
  have h2 := LP.cut_len h
  unfold LP.cutM at h
  split at h
  · cases h
  · split at h
    · cases h
    · cases h
      exact ⟨rfl, h2.2, h2.1⟩
/-- where the loop has come to -/
def startOf (σ : List (Option V)) : Nat := match σ[2]? with
  | some (some (V.int z)) => z.toNat
  | _ => 0
section
variable {P : Program} {w : World} {K : PySem.W.Frag} {mg : Str → Option Value} {base : Heap} {t : Adr}
theorem ok_cut_part (T : Txt K mg t) : FnOk P w K mg base CX0 3 t.f_cut_part t.fd_cut_part ["octets", "start"] (sp_cut_part t K) := by
  refine T.fn_cut_part.ok sc_cut_part (fun vs H Q E h => ?_) (fun cdv A outer s H vs Q E hr h => ?_)
  · obtain ⟨o, b, i, rfl, _⟩ := h
    rfl
  · obtain ⟨o, b, i, rfl, hS, hi, hb, k⟩ := h
    have hl : (bV b).length = b.length := List.length_map _
    have hlr : (b.drop i).length = b.length - i := List.length_drop
    unfold LP.cutM at k
    rw [field_drop, hlr] at k
    refine ⟨_, (pss_cons (ps_if (pt_cmpR op_lt (pe_op op_sub (pe_callB call_len_seq rfl T.n_len PySem.boot_len (pa_cons (pv 0) pa_nil)) (pv 1)) (pe_gl T.g_LEAST_LENGTH rfl) (nomark _)) (pss_one (ps_ret pe_non)) pss_nil)
      (pss_cons (ps_set (i := 2) sc_cut_part.nd rfl (Or.inl rfl) (pe_op op_add pe_int (pe_op op_mul pe_int (pe_call (ok_read_number T) (hr.mono (by decide)) rfl T.mg_read_number T.fn_read_number.kp T.b_read_number .nil pass0 (pa_cons (pv 0) (pa_cons (pe_op op_add (pv 1) pe_int) (pa_cons pe_int pa_nil)))))))
      (pss_cons (ps_set (i := 3) sc_cut_part.nd rfl (Or.inl rfl) (pe_op op_add (pv 1) (pv 2)))
      (pss_cons (ps_if (PW.pt (pw_or (pt_cmpR op_lt (pv 2) (pe_gl T.g_LEAST_LENGTH rfl) (nomark _)) (pw_or1 (pt_cmpR op_gt (pv 3) (pe_callB call_len_seq rfl T.n_len PySem.boot_len (pa_cons (pv 0) pa_nil)) (nomark _))))) (pss_one (ps_ret pe_non)) pss_nil)
      (pss_one (ps_ret (pe_make T.mk_Part (ok_Part_init T) (hr.mono (by decide)) rfl T.mgc_Part T.b_Part_init .nil pass0 (pa_cons (pe_slice sl_list (pv 0) (po_some (pv 1)) (po_some (pv 3))) pa_nil)))))))), ?_⟩
    -- if len(octets) - start < LEAST_LENGTH: return None
    refine ⟨_, rfl, o, _, rfl, .inl hS, _, rfl, _, _, rfl, rfl, _, _, rfl, rfl, _, rfl, ?_⟩
    refine ite2 (fun h1 => ?_) (fun h1 => ?_)
    · have h1' := of_decide_eq_true h1
      rw [hl] at h1'
      rw [if_pos (by omega)] at k
      exact k _ H (Same.refl H) rfl
    have h1' : ¬ ((bV b).length : Int) - (i : Int) < 8 := fun z => h1 (decide_eq_true z)
    rw [hl] at h1'
    rw [if_neg (by omega)] at k
    -- length = 4 + 4 * read_number(octets, start + 2, 2)
    refine ⟨_, rfl, _, rfl, _, _, rfl, rfl, o, b, i + 2, 2, ?_, hS, fun H2 s2 => ?_⟩
    · rfl
    refine ⟨_, _, rfl, rfl, .inl ⟨by decide, by decide⟩, _, _, rfl, rfl, ?_⟩
    -- end = start + length
    refine ⟨_, rfl, _, rfl, _, _, rfl, rfl, ?_⟩
    -- if length < LEAST_LENGTH or end > len(octets): return None
    refine ⟨_, rfl, _, _, rfl, rfl, _, rfl, ?_⟩
    refine ite2 (fun h2 => ?_) (fun h2 => ?_)
    · have h2' := of_decide_eq_true h2
      rw [if_pos (.inl (by omega))] at k
      exact iteT (k _ H2 s2 rfl)
    have h2' : ¬ (4 : Int) + 4 * ((Ql48.field b (i + 2) 2 : Nat) : Int) < 8 := fun z => h2 (decide_eq_true z)
    refine ⟨_, rfl, _, rfl, o, _, rfl, .inl (s2.seq hS), _, _, rfl, rfl, _, rfl, ?_⟩
    refine ite2 (fun h3 => ?_) (fun h3 => ?_)
    · have h3' := of_decide_eq_true h3
      rw [hl] at h3'
      rw [if_pos (.inr (by omega))] at k
      exact k _ H2 s2 rfl
    have h3' : ¬ ((bV b).length : Int) < (i : Int) + (4 + 4 * ((Ql48.field b (i + 2) 2 : Nat) : Int)) := fun z => h3 (decide_eq_true z)
    rw [hl] at h3'
    rw [if_neg (by omega)] at k
    -- return Part(octets[start:end])
    refine ⟨_, rfl, _, rfl, _, rfl, _, rfl, _, rfl, o, _, rfl, s2.seq hS, fun l hl2 => ?_⟩
    intro x dx nx ndx nex
    generalize hn : 4 + 4 * Ql48.field b (i + 2) 2 = n at *
    have eL : cutV (bV b) (some (i : Int)) (some ((i : Int) + (4 + 4 * ((Ql48.field b (i + 2) 2 : Nat) : Int)))) = bV ((b.drop i).take n) := by
      have e : (i : Int) + (4 + 4 * ((Ql48.field b (i + 2) 2 : Nat) : Int)) = (i : Int) + (n : Int) := by omega
      rw [e, cut_bV]
    rw [eL] at nx ndx ⊢
    have hxl : upd H2 l (.lst (bV ((b.drop i).take n))) l = some (.lst (bV ((b.drop i).take n))) := upd_same
    have nlx : l ≠ x := ne_of_none hxl nx
    have nld : l ≠ dx := ne_of_none hxl ndx
    have hlen : ((b.drop i).take n).length = n := by
      rw [List.length_take, hlr]
      omega
    refine ⟨x, dx, l, (b.drop i).take n, rfl, upd_same, by rw [upd_ne nlx, upd_ne nld]; exact hxl, by omega, (hb.drop i).take n, rfl, ?_⟩
    rw [upd_upd]
    have s3 : Same H2 (upd (upd (upd H2 l (.lst (bV ((b.drop i).take n)))) dx (.own x)) x (.ins t.c_Part dx (fs_Part (.ref l) (.int (LP.pk ((b.drop i).take n) : Nat)) (.int (LP.pc ((b.drop i).take n) : Nat))))) := fun c u e => by
      have e1 := same_new (o := .lst (bV ((b.drop i).take n))) hl2 c u e
      rw [upd_ne (ne_of_none e1 nx), upd_ne (ne_of_none e1 ndx), upd_ne (ne_of_none e hl2)]
      exact e
    exact k _ _ (s2.trans s3) ⟨x, rfl, dx, l, upd_same, by rw [upd_ne nlx, upd_ne nld]; exact hxl⟩
theorem ok_begins_rightly (T : Txt K mg t) : FnOk P w K mg base CX0 1 t.f_begins_rightly t.fd_begins_rightly ["parts"] (sp_begins_rightly t K) := by
  refine T.fn_begins_rightly.ok sc_begins_rightly (fun vs H Q E h => ?_) (fun cdv A outer s H vs Q E hr h => ?_)
  · obtain ⟨l, rs, ps, rfl, _⟩ := h
    rfl
  · obtain ⟨l, rs, ps, rfl, hl, hP, k⟩ := h
    refine ⟨_, (pss_cons (ps_if (pt_cmpR op_eq (pe_callB call_len_seq rfl T.n_len PySem.boot_len (pa_cons (pv 0) pa_nil)) pe_int (nomark _)) (pss_one (ps_ret pe_bl)) pss_nil)
      (pss_one (ps_ret (pe_or (pe_cmpR op_eq (pe_fld (pe_ix ix_list (pv 0) pe_int (fun _ _ => rfl)) rfl) (pe_gl T.g_SENDER_REPORT rfl) (nomark _)) (pe_one (pe_cmpR op_eq (pe_fld (pe_ix ix_list (pv 0) pe_int (fun _ _ => rfl)) rfl) (pe_gl T.g_RECEIVER_REPORT rfl) (nomark _))))))), ?_⟩
    -- if len(parts) == 0: return False
    refine ⟨_, rfl, l, _, rfl, .inl (SqL.of hl), rfl, _, rfl, ?_⟩
    match rs, ps, hP with
    | [], [], _ => exact iteT k
    | v :: r, o :: q, ⟨⟨a, e, dx, l2, ha, hl2⟩, _⟩ =>
      subst e
      refine ite2 (fun h1 => ?_) (fun h1 => ?_)
      · have := V.int.inj (of_decide_eq_true h1)
        rw [List.length_cons] at this
        omega
      -- return parts[0].kind == SENDER_REPORT or parts[0].kind == RECEIVER_REPORT
      refine ⟨_, rfl, l, _, _, _, rfl, rfl, SqL.of hl, atI_nat (j := 0) rfl, a, _, dx, _, _, rfl, ha, T.cl_Part, T.na_Part_kind, get_Part_kind, rfl, _, rfl, ?_⟩
      unfold LP.beginsM at k
      dsimp only at k
      refine ite2 (fun h2 => ?_) (fun h2 => ?_)
      · have := V.int.inj (of_decide_eq_true h2)
        rw [decide_eq_true (.inl (by omega))] at k
        exact k
      have h2' : ¬ LP.pk o = 200 := fun z => h2 (decide_eq_true (congrArg V.int (by omega)))
      refine ⟨_, rfl, l, _, _, _, rfl, rfl, SqL.of hl, atI_nat (j := 0) rfl, a, _, dx, _, _, rfl, ha, T.cl_Part, T.na_Part_kind, get_Part_kind, rfl, ?_⟩
      have e : decide (V.int ((LP.pk o : Nat) : Int) = V.int 201) = decide (LP.pk o = 200 ∨ LP.pk o = 201) := decide_eq_decide.mpr ⟨fun z => .inr (by have := V.int.inj z; omega), fun z => congrArg V.int (by omega)⟩
      rw [← e] at k
      exact k
theorem ok_is_padded_rightly (T : Txt K mg t) : FnOk P w K mg base CX0 2 t.f_is_padded_rightly t.fd_is_padded_rightly ["parts"] (sp_is_padded_rightly t K) := by
  refine T.fn_is_padded_rightly.ok sc_is_padded_rightly (fun vs H Q E h => ?_) (fun cdv A outer s H vs Q E hr h => ?_)
  · obtain ⟨l, rs, ps, rfl, _⟩ := h
    rfl
  · obtain ⟨l, rs, ps, rfl, hl, hP, hlen, hok, k⟩ := h
    have sz : 4000000 ≤ sizeLine := by decide
    have hrl : rs.length = ps.length := hP.length
    refine ⟨_, (pss_cons (ps_set (i := 1) sc_is_padded_rightly.nd rfl (Or.inl rfl) (pe_op op_cat (pe_slice sl_list (pv 0) po_none (po_some pe_int)) (pe_slice sl_list (pv 0) po_none (po_some (pe_un un_neg pe_int)))))
      (pss_one (ps_ret (pe_not (pe_callB (cr_any rfl) rfl T.n_any PyProof.Rows.boot_any (pa_cons (pe_lc (own := [("part", 2)]) rfl sc_is_padded_rightly.nd (pi_list (pv 1)) (blkOk_by rfl) (fun _ _ _ _ _ => pg_name (i := 2) sc_is_padded_rightly.nd rfl (Or.inl rfl)) (fun _ _ _ _ _ => pts_nil) (fun _ _ _ _ _ => (pe_call (ok_has_padding T) (hr.mono (by decide)) rfl T.mg_has_padding T.fn_has_padding.kp T.b_has_padding .nil pass0 (pa_cons (pe_fldK (K := K) rfl (pv 2) rfl) pa_nil)))) pa_nil)))))), ?_⟩
    -- unpadded = parts[:1] + parts[:-1]
    refine ⟨_, rfl, _, rfl, l, _, rfl, SqL.of hl, fun l1 h1 => ?_⟩
    rw [cut_to]
    have s1 := fun (u : HO) => same_new (o := u) h1
    refine ⟨_, rfl, _, rfl, _, rfl, l, _, rfl, SqL.of (s1 _ _ _ hl), fun l2 h2 => ?_⟩
    rw [cut_last]
    have s2 := fun (u : HO) => same_new (o := u) h2
    refine ⟨l1, l2, _, _, rfl, rfl, s2 _ _ _ upd_same, upd_same, by simp; omega, fun l3 h3 => ?_⟩
    have s3 := fun (u : HO) => same_new (o := u) h3
    -- return not any([has_padding(part.octets) for part in unpadded])
    generalize hH3 : upd (upd (upd H l1 (.lst (rs.take 1))) l2 (.lst rs.dropLast)) l3 (.lst (rs.take 1 ++ rs.dropLast)) = H3
    have s03 : Same H H3 := by
      rw [← hH3]
      exact (s1 _).trans ((s2 _).trans (s3 _))
    have hl3 : H3 l3 = some (.lst (rs.take 1 ++ rs.dropLast)) := by
      rw [← hH3]
      exact upd_same
    have hQ : PtsAt t H3 (rs.take 1 ++ rs.dropLast) (ps.take 1 ++ ps.dropLast) := PtsAt.same s03 ((hP.take 1).append hP.dropLast)
    have hok2 : ∀ o ∈ ps.take 1 ++ ps.dropLast, 0 < o.length ∧ By o := fun o ho => by
      rcases List.mem_append.mp ho with h | h
      · exact hok o (List.mem_of_mem_take h)
      · exact hok o (List.dropLast_subset _ h)
    have hk3 : ∀ H', Same H3 H' → Q (.bl (!((ps.take 1 ++ ps.dropLast).any LP.pd))) H' := fun H' s => k H' (s03.trans s)
    have hlq : (ps.take 1 ++ ps.dropLast).length ≤ 70000 := by simp; omega
    clear k hP hok hH3
    generalize rs.take 1 ++ rs.dropLast = rq at *
    generalize ps.take 1 ++ ps.dropLast = q at *
    refine ⟨_, rfl, l3, rfl, ⟨_, SqL.of hl3⟩, fun D hD => ?_⟩
    refine lc_list (K := K) (a := l3) (xs := rq) (fun j H4 => Same H3 H4 ∧ H4 D = some (.lst (((q.take j).map LP.pd).map V.bl))) ⟨same_new hD, upd_same⟩ (fun j H4 _ ⟨s4, _⟩ => SqL.of (s4 _ _ hl3)) ?_ ?_
    · rintro j x H4 hj ⟨s4, hD4⟩
      obtain ⟨a, o, e, ho, hA⟩ := hQ.get hj
      subst e
      obtain ⟨dx, lo, ha, hlo⟩ := hA.same s4
      have hmem : o ∈ q := List.mem_of_getElem? ho
      have hjl : j < q.length := (List.getElem?_eq_some_iff.mp ho).1
      refine ⟨rfl, ?_⟩
      refine iteT (B := True) ?_
      refine iteT ?_
      refine ⟨_, rfl, a, _, dx, _, _, rfl, ha, T.cl_Part, T.na_Part_octets, get_Part_octets, lo, o, rfl, SqL.of hlo, (hok2 o hmem).1, (hok2 o hmem).2, _, hD4, by simp; omega, ?_, ?_⟩
      · intro b u e
        rw [upd_ne (ne_of_none e hD)]
        exact s4 _ _ e
      · rw [upd_same, List.take_succ, ho]
        simp
    · rintro H4 ⟨s4, hD4⟩
      rw [show rq.length = q.length from hQ.length, List.take_length] at hD4
      refine ⟨D, q.map LP.pd, rfl, SqL.of hD4, _, rfl, ?_⟩
      have := hk3 H4 s4
      rw [show (q.map LP.pd).any id = q.any LP.pd by rw [List.any_map]; rfl]
      exact this
theorem ok_read_parts (T : Txt K mg t) : FnOk P w K mg base CX0 5 t.f_read_parts t.fd_read_parts ["octets"] (sp_read_parts t K) := by
  refine T.fn_read_parts.ok sc_read_parts (fun vs H Q E h => ?_) (fun cdv A outer s H vs Q E hr h => ?_)
  · obtain ⟨o, b, rfl, _⟩ := h
    rfl
  · obtain ⟨o, b, rfl, hS, hb, k⟩ := h
    have sz : 4000000 ≤ sizeLine := by decide
    have hl : (bV b).length = b.length := List.length_map _
    refine ⟨_, (pss_cons (ps_if (pt_cmpR op_gt (pe_callB call_len_seq rfl T.n_len PySem.boot_len (pa_cons (pv 0) pa_nil)) (pe_gl T.g_MOST_BYTES rfl) (nomark _)) (pss_one (ps_ret pe_non)) pss_nil)
      (pss_cons (ps_set (i := 1) sc_read_parts.nd rfl (Or.inl rfl) (pe_lst pa_nil))
      (pss_cons (ps_set (i := 2) sc_read_parts.nd rfl (Or.inl rfl) pe_int)
      (pss_cons (ps_while PassesOwn.never (pt_cmpR op_lt (pv 2) (pe_callB call_len_seq rfl T.n_len PySem.boot_len (pa_cons (pv 0) pa_nil)) (nomark _)) (pss_cons (ps_set (i := 3) sc_read_parts.nd rfl (Or.inl rfl) (pe_call (ok_cut_part T) (hr.mono (by decide)) rfl T.mg_cut_part T.fn_cut_part.kp T.b_cut_part .nil pass0 (pa_cons (pv 0) (pa_cons (pv 2) pa_nil))))
      (pss_cons (ps_if (PW.pt (pw_or (pt_cmp (pc_isN (pv 3))) (pw_or1 (pt_not (pt_val (pe_meth0 (pv 3) T.cl_Part T.me_Part_is_right (ok_Part_is_right T) (hr.mono (by decide)) T.b_Part_is_right .nil pass0)))))) (pss_one (ps_ret pe_non)) pss_nil)
      (pss_cons (ps_expr (pe_bm PySem.F.plainAttrs_list PySem.F.slot_list_append PySem.F.type_list_append mt_append (pv 1) (pa_cons (pv 3) pa_nil)))
      (pss_one (ps_aug (i := 2) sc_read_parts.nd rfl (Or.inl rfl) (pe_callB call_len_seq rfl T.n_len PySem.boot_len (pa_cons (pe_fld (pv 3) rfl) pa_nil)) ip_add))))))
      (pss_cons (ps_if (PW.pt (pw_and (pt_val (pe_call (ok_begins_rightly T) (hr.mono (by decide)) rfl T.mg_begins_rightly T.fn_begins_rightly.kp T.b_begins_rightly .nil pass0 (pa_cons (pv 1) pa_nil))) (pw_and1 (pt_val (pe_call (ok_is_padded_rightly T) (hr.mono (by decide)) rfl T.mg_is_padded_rightly T.fn_is_padded_rightly.kp T.b_is_padded_rightly .nil pass0 (pa_cons (pv 1) pa_nil)))))) (pss_one (ps_ret (pv 1))) pss_nil)
      (pss_one (ps_ret pe_non))))))), ?_⟩
    -- if len(octets) > MOST_BYTES: return None
    refine ⟨_, rfl, o, _, rfl, .inl hS, _, _, rfl, rfl, _, rfl, ?_⟩
    unfold LP.partsM at k
    refine ite2 (fun h1 => ?_) (fun h1 => ?_)
    · have h1' := of_decide_eq_true h1
      rw [hl] at h1'
      rw [if_pos (by omega)] at k
      exact k _ H (Same.refl H) rfl
    have h1' : ¬ (65535 : Int) < ((bV b).length : Int) := fun z => h1 (decide_eq_true z)
    rw [hl] at h1'
    rw [if_neg (by omega)] at k
    -- parts = []
    refine ⟨Nat.zero_le _, fun L hL => ?_⟩
    -- start = 0; while start < len(octets)
    refine while_by (fun σ H2 => ∃ (done : List (List Nat)) (rs : List V) (i f : Nat) (v3 : Option V), σ = [some (.ref o), some (.ref L), some (.int (i : Int)), v3] ∧ Same H H2 ∧ H2 L = some (.lst rs) ∧ PtsAt t H2 rs done ∧ i ≤ b.length ∧ done.length * 8 ≤ i ∧ f + done.length = b.length + 1 ∧ (∀ o ∈ done, 0 < o.length ∧ By o) ∧ LP.loopM (b.length + 1) b = (LP.loopM f (b.drop i)).map (done ++ ·))
      (fun σ _ => b.length - startOf σ) ?_ ?_ ?_
    · exact ⟨[], [], 0, b.length + 1, none, rfl, same_new hL, upd_same, trivial, Nat.zero_le _, Nat.zero_le _, rfl, by simp, by rw [List.drop_zero]; cases LP.loopM (b.length + 1) b <;> rfl⟩
    · rintro σ H2 ⟨done, rs, i, f, v3, rfl, s2, hL2, hP, hi, h8, hf, hok, hloop⟩
      refine ⟨_, rfl, _, rfl, o, _, rfl, .inl (s2.seq hS), _, _, rfl, rfl, _, rfl, ?_⟩
      have hdl : (b.drop i).length = b.length - i := List.length_drop
      refine ite2 (fun h2 => ?_) (fun h2 => ?_)
      · have h2' := of_decide_eq_true h2
        rw [hl] at h2'
        obtain ⟨g, rfl⟩ : ∃ g, f = g + 1 := ⟨f - 1, by omega⟩
        have hne : b.drop i ≠ [] := fun z => by
          rw [z] at hdl
          simp at hdl
          omega
        have hstep : LP.loopM (g + 1) (b.drop i) = match LP.cutM (b.drop i) with
            | none => none
            | some o => if LP.rightM o = true then (LP.loopM g ((b.drop i).drop o.length)).map (o :: ·) else none := by
          conv => lhs; rw [LP.loopM, if_neg hne]
          try rfl
        rw [hstep] at hloop
        clear hstep
        -- part = cut_part(octets, start)
        refine ⟨_, rfl, _, rfl, o, b, i, rfl, s2.seq hS, hi, hb, fun r H3 s3 hr3 => ?_⟩
        -- if part is None or not part.is_right(): return None
        refine ⟨_, rfl, _, rfl, ?_⟩
        cases hc : LP.cutM (b.drop i) with
        | none =>
          rw [hc] at hr3 hloop
          cases (show r = .non from hr3)
          rw [show LP.loopM (b.length + 1) b = none from hloop] at k
          exact iteT (iteT (k _ H3 (s2.trans s3) rfl))
        | some p =>
          rw [hc] at hr3 hloop
          obtain ⟨a, rfl, hA⟩ := hr3
          obtain ⟨ep, hp8, hpl⟩ := cutM_some hc
          have hbp : By p := by
            rw [ep]
            exact (hb.drop i).take _
          obtain ⟨dx, lo, ha, hlo⟩ := id hA
          refine iteF ?_
          refine ⟨_, rfl, a, dx, _, rfl, ha, no_Part_is_right, a, p, rfl, hA, by omega, hbp, _, rfl, ?_⟩
          dsimp only at hloop
          cases hrt : LP.rightM p with
          | false =>
            rw [hrt, if_neg Bool.false_ne_true] at hloop
            rw [show LP.loopM (b.length + 1) b = none from hloop] at k
            exact iteT (k _ H3 (s2.trans s3) rfl)
          | true =>
            rw [hrt, if_pos rfl, List.drop_drop] at hloop
            refine iteF ?_
            -- parts.append(part)
            have hL3 := s3 _ _ hL2
            have hrl : rs.length = done.length := hP.length
            refine ⟨_, rfl, .inl ⟨rfl, _, SqL.of hL3⟩, _, rfl, L, _, _, rfl, rfl, hL3, by omega, ?_⟩
            have naL : a ≠ L := ne_of ha hL3 (by intro z; cases z)
            have nloL : lo ≠ L := fun z => by
              rw [z, hL3] at hlo
              have := hlo
              exact absurd (Option.some.inj this) (by
                intro q
                have q2 := HO.lst.inj q
                have hfl : ∀ x ∈ rs, ∃ a, x = .ref a := by
                  intro x hx
                  obtain ⟨j, hj⟩ := List.getElem?_of_mem hx
                  obtain ⟨a', o', e', _⟩ := hP.get hj
                  exact ⟨a', e'⟩
                have hmem : (bV p).length = p.length := List.length_map _
                cases hp0 : p with
                | nil => rw [hp0] at hp8; simp at hp8
                | cons y ys =>
                  rw [hp0] at q2
                  obtain ⟨a', e'⟩ := hfl (V.int (y : Int)) (by rw [q2]; simp)
                  cases e')
            have keep : ∀ (u : HO), Same H (upd H3 L u) := fun u c v e => by
              rw [upd_ne (ne_of_none e hL)]
              exact s3 _ _ (s2 _ _ e)
            have kp : ∀ (u : HO) (a' : Addr) (o' : List Nat), 0 < o'.length → PtAt t H3 a' o' → PtAt t (upd H3 L u) a' o' := fun u a' o' h0 h => by
              obtain ⟨d', l', h1, h2⟩ := h
              refine ⟨d', l', by rw [upd_ne (ne_of h1 hL3 (by intro z; cases z))]; exact h1, ?_⟩
              rw [upd_ne]
              · exact h2
              · intro z
                rw [z, hL3] at h2
                have q2 := HO.lst.inj (Option.some.inj h2)
                cases hp0 : o' with
                | nil => rw [hp0] at h0; simp at h0
                | cons y ys =>
                  rw [hp0] at q2
                  have hx : V.int (y : Int) ∈ rs := by rw [q2]; simp
                  obtain ⟨j, hj⟩ := List.getElem?_of_mem hx
                  obtain ⟨a', o', e', _⟩ := hP.get hj
                  cases e'
            have kps : ∀ (u : HO) {vs : List V} {ps : List (List Nat)}, (∀ o ∈ ps, 0 < o.length) → PtsAt t H3 vs ps → PtsAt t (upd H3 L u) vs ps := by
              intro u vs
              induction vs with
              | nil =>
                intro ps h0 h
                cases ps with
                | nil => trivial
                | cons _ _ => exact h.elim
              | cons v r ih =>
                intro ps h0 h
                cases ps with
                | nil => exact h.elim
                | cons o' q =>
                  obtain ⟨⟨a', e', h1⟩, h2⟩ := h
                  exact ⟨⟨a', e', kp u a' o' (h0 o' (by simp)) h1⟩, ih (fun o hm => h0 o (by simp [hm])) h2⟩
            -- start += len(part.octets)
            refine ⟨_, rfl, _, rfl, a, _, dx, _, _, rfl, by rw [upd_ne naL]; exact ha, T.cl_Part, T.na_Part_octets, get_Part_octets, lo, _, rfl, .inl (SqL.of (by rw [upd_ne nloL]; exact hlo)), _, _, rfl, rfl, ?_⟩
            have hpL : (bV p).length = p.length := List.length_map _
            refine ⟨⟨done ++ [p], rs ++ [.ref a], i + p.length, g, some (.ref a), ?_, keep _, upd_same, ?_, by omega, by simp; omega, by simp; omega, ?_, ?_⟩, ?_⟩
            · show ([some (V.ref o), some (.ref L), some (.int ((i : Int) + ((bV p).length : Int))), some (.ref a)] : List (Option V)) = _
              rw [hpL]
              rfl
            · exact (kps _ (fun o hm => (hok o hm).1) (hP.same s3)).append ⟨⟨a, rfl, kp _ a p (by omega) hA⟩, trivial⟩
            · intro o' ho'
              rcases List.mem_append.mp ho' with h | h
              · exact hok o' h
              · simp at h
                subst h
                exact ⟨by omega, hbp⟩
            · rw [hloop]
              cases LP.loopM g (b.drop (i + p.length)) with
              | none => rfl
              | some ps => simp
            · show b.length - ((i : Int) + ((bV p).length : Int)).toNat < b.length - ((i : Int)).toNat
              rw [hpL]
              omega
      · have h2' : ¬ (i : Int) < ((bV b).length : Int) := fun z => h2 (decide_eq_true z)
        rw [hl] at h2'
        have hnil : b.drop i = [] := List.drop_of_length_le (by omega)
        obtain ⟨g, rfl⟩ : ∃ g, f = g + 1 := ⟨f - 1, by omega⟩
        have hall : LP.loopM (b.length + 1) b = some done := by
          rw [hloop, hnil]
          show some (done ++ []) = some done
          rw [List.append_nil]
        rw [hall] at k
        dsimp only at k
        -- if begins_rightly(parts) and is_padded_rightly(parts): return parts
        refine ⟨_, rfl, L, rs, done, rfl, hL2, hP, _, rfl, ?_⟩
        cases hbg : LP.beginsM done with
        | false =>
          rw [if_neg (fun z => by rw [hbg] at z; cases z.1)] at k
          exact iteF (iteF (k _ H2 s2 rfl))
        | true =>
          refine iteT ?_
          refine ⟨_, rfl, L, rs, done, rfl, hL2, hP, by omega, hok, fun H3 s3 => ⟨_, rfl, ?_⟩⟩
          cases hpd : LP.paddedM done with
          | false =>
            rw [if_neg (fun z => by rw [hpd] at z; cases z.2)] at k
            exact iteF (k _ H3 (s2.trans s3) rfl)
          | true =>
            rw [if_pos ⟨hbg, hpd⟩] at k
            exact iteT ⟨_, rfl, k _ H3 (s2.trans s3) ⟨L, rs, rfl, s3 _ _ hL2, hP.same s3⟩⟩
    · rintro σ H2 Q1 Q2 hq ⟨a1, a2, a3, a4, a5, a6, a7, a8, a9, a10, a11, a12, a13, a14, a15⟩
      exact ⟨a1, a2, a3, a4, a5, a6, a7, a8, a9, a10, a11, a12, a13, a14, hq _ _ a15⟩
end
end My
namespace My
open PySem L2
/-! ### hearing, our report -/
def oHr (t : Adr) (dx : Addr) (h : LP.Hr) : HO := .ins t.c_Hearing dx (fs_Hearing (.int h.middle) (vO h.at_) (.int h.bye))
def sp_Hearing_init (t : Adr) : Sp := fun vs H Q _ => ∃ (p dx : Addr), vs = [.ref p] ∧ H p = some (.ins t.c_Hearing dx []) ∧ Q .non (upd H p (oHr t dx ⟨0, none, 0⟩))
def sp_Hearing_note_part (t : Adr) : Sp := fun vs H Q _ => ∃ (p dx a : Addr) (o : List Nat) (src now : Int) (h : LP.Hr), vs = [.ref p, .ref a, .int src, .int now] ∧ H p = some (oHr t dx h) ∧ PtAt t H a o ∧
  ∀ H', H' p = some (oHr t dx (h.note o src now)) → But p H H' → Q .non H'
def sp_Hearing_time_since_report (t : Adr) : Sp := fun vs H Q _ => ∃ (p dx : Addr) (now : Int) (h : LP.Hr), vs = [.ref p, .int now] ∧ H p = some (oHr t dx h) ∧ Q (.int (h.since now)) H
def sp_write_heard (t : Adr) : Sp := fun vs H Q _ => ∃ (p dx : Addr) (now : Int) (h : LP.Hr), vs = [.ref p, .int now] ∧ H p = some (oHr t dx h) ∧ NewL H Q (LP.heardB h now)
def sp_write_counts (t : Adr) : Sp := fun vs H Q _ => ∃ (p dx : Addr) (c : LP.Cnt), vs = [.ref p] ∧ H p = some (oCnt t dx c) ∧ CntOk c ∧ NewL H Q (LP.countsM c)
def sp_write_block (t : Adr) : Sp := fun vs H Q _ => ∃ (p dx q dy : Addr) (src now : Int) (c : LP.Cnt) (h : LP.Hr), vs = [.int src, .ref p, .ref q, .int now] ∧ H p = some (oCnt t dx c) ∧ H q = some (oHr t dy h) ∧ CntOk c ∧ NewL H Q (LP.blockM src c h now)
def sp_write_report : Sp := fun vs H Q _ => ∃ (l : Addr) (own : Int) (bl : List Int), vs = [.int own, .ref l] ∧ H l = some (.lst (iL bl)) ∧ bl.length ≤ 1000 ∧ NewL H Q (LP.reportM own bl)
theorem iL_append (a b : List Int) : iL (a ++ b) = iL a ++ iL b := List.map_append
theorem same_upd {H : Hp} {l : Addr} {u : HO} (h : H l = none) : Same H (upd H l u) := same_new h
theorem hr_ne_pt {a b c : V} : (fs_Hearing a b c).map (·.1) ≠ (["octets", "kind", "entries"] : List Str) := by
  show (["middle", "heard_at", "goodbye"] : List Str) ≠ _
  decide +kernel
theorem PtAt.but {t : Adr} {H H' : Hp} {p a : Addr} {o : List Nat} {C dx : Addr} {fs : List (Str × V)} (b : But p H H') (hp : H p = some (.ins C dx fs)) (hn : fs.map (·.1) ≠ (["octets", "kind", "entries"] : List Str)) (h : PtAt t H a o) : PtAt t H' a o := by
  obtain ⟨d, l, h1, h2⟩ := h
  refine ⟨d, l, b _ _ h1 (ne_of h1 hp ?_), b _ _ h2 (ne_of h2 hp (by intro z; cases z))⟩
  intro z
  cases z
  exact hn rfl
section
variable {P : Program} {w : World} {K : PySem.W.Frag} {mg : Str → Option Value} {base : Heap} {t : Adr}
theorem ok_Hearing_init (T : Txt K mg t) : FnOk P w K mg base CX0 1 t.f_Hearing_init t.fd_Hearing_init ["self"] (sp_Hearing_init t) := by
  refine T.fn_Hearing_init.ok sc_Hearing_init (fun vs H Q E h => ?_) (fun cdv A outer s H vs Q E hr h => ?_)
  · obtain ⟨p, dx, rfl, _⟩ := h
    rfl
  · obtain ⟨p, dx, rfl, hp, k⟩ := h
    refine ⟨_, (pss_cons (ps_fld (pv 0) pe_int rfl)
      (pss_cons (ps_fld (pv 0) pe_non rfl)
      (pss_one (ps_fld (pv 0) pe_int rfl)))), ?_⟩
    refine ⟨_, rfl, p, _, dx, _, rfl, hp, T.cl_Hearing, T.na_Hearing_middle, pl0, ?_⟩
    refine ⟨_, rfl, p, _, dx, _, rfl, upd_same, T.cl_Hearing, T.na_Hearing_heard_at, pl pl0, ?_⟩
    refine ⟨_, rfl, p, _, dx, _, rfl, upd_same, T.cl_Hearing, T.na_Hearing_goodbye, pl (pl pl0), ?_⟩
    rw [upd_upd, upd_upd, made_Hearing]
    exact k
theorem ok_Hearing_time_since_report (T : Txt K mg t) : FnOk P w K mg base CX0 1 t.f_Hearing_time_since_report t.fd_Hearing_time_since_report ["self", "now"] (sp_Hearing_time_since_report t) := by
  refine T.fn_Hearing_time_since_report.ok sc_Hearing_time_since_report (fun vs H Q E h => ?_) (fun cdv A outer s H vs Q E hr h => ?_)
  · obtain ⟨p, dx, now, h, rfl, _⟩ := h
    rfl
  · obtain ⟨p, dx, now, h, rfl, hp, k⟩ := h
    unfold LP.Hr.since at k
    refine ⟨_, (pss_cons (ps_if (pt_cmp (pc_isN (pe_fld (pv 0) rfl))) (pss_one (ps_ret pe_int)) pss_nil)
      (pss_one (ps_ret (pe_op op_mod (pe_op op_sub (pv 1) (pe_fld (pv 0) rfl)) (pe_gl T.g_FOUR_BYTES rfl))))), ?_⟩
    refine ⟨_, rfl, p, _, dx, _, _, rfl, hp, T.cl_Hearing, T.na_Hearing_heard_at, get_Hearing_heard_at, _, rfl, ?_⟩
    cases e : h.at_ with
    | none =>
      rw [e] at k
      exact iteT k
    | some a =>
      rw [e] at k
      have hp2 : H p = some (.ins t.c_Hearing dx (fs_Hearing (.int h.middle) (.int a) (.int h.bye))) := by rw [hp, oHr, e]; rfl
      exact iteF ⟨_, rfl, _, rfl, p, _, dx, _, _, rfl, hp2, T.cl_Hearing, T.na_Hearing_heard_at, get_Hearing_heard_at, _, _, rfl, rfl, _, _, rfl, rfl, (by show (0 : Int) < 4294967296; decide), k⟩
theorem ok_Hearing_note_part (T : Txt K mg t) : FnOk P w K mg base CX0 4 t.f_Hearing_note_part t.fd_Hearing_note_part ["self", "part", "source", "now"] (sp_Hearing_note_part t) := by
  refine T.fn_Hearing_note_part.ok sc_Hearing_note_part (fun vs H Q E h => ?_) (fun cdv A outer s H vs Q E hr h => ?_)
  · obtain ⟨p, dx, a, o, src, now, h, rfl, _⟩ := h
    rfl
  · obtain ⟨p, dx, a, o, src, now, h, rfl, hp, hA, k⟩ := h
    obtain ⟨dy, l, ha, hl⟩ := id hA
    refine ⟨_, (pss_cons (ps_if (pt_val (pe_meth (pv 1) T.cl_Part T.me_Part_is_sender_report_of (ok_Part_is_sender_report_of T) (hr.mono (by decide)) T.b_Part_is_sender_report_of .nil pass0 (pa_cons (pv 2) pa_nil))) (pss_cons (ps_fld (pv 0) (pe_meth0 (pv 1) T.cl_Part T.me_Part_middle_of_time (ok_Part_middle_of_time T) (hr.mono (by decide)) T.b_Part_middle_of_time .nil pass0) rfl)
      (pss_one (ps_fld (pv 0) (pv 3) rfl))) pss_nil)
      (pss_one (ps_if (pt_val (pe_meth (pv 1) T.cl_Part T.me_Part_is_goodbye_of (ok_Part_is_goodbye_of T) (hr.mono (by decide)) T.b_Part_is_goodbye_of .nil pass0 (pa_cons (pv 2) pa_nil))) (pss_one (ps_fld (pv 0) pe_int rfl)) pss_nil))), ?_⟩
    -- if part.is_sender_report_of(source)
    refine ⟨_, rfl, a, dy, _, rfl, ha, no_Part_is_sender_report_of, _, rfl, a, o, src, rfl, hA, fun H1 s1 => ⟨_, rfl, ?_⟩⟩
    have B1 : But p H H1 := (But.refl p H).same s1
    -- behind it
    have rest : ∀ (h1 : LP.Hr) (H2 : Hp), h1 = (if LP.pk o = 200 ∧ ((Ql48.field o 4 4 : Nat) : Int) = src then { h with middle := ((Ql48.field o 10 4 : Nat) : Int), at_ := some now } else h) → H2 p = some (oHr t dx h1) → But p H H2 →
        ∀ H3, Same H2 H3 → (if decide (LP.pk o = 203 ∧ src ∈ LP.leaving o) = true then ((∃ h2, h2 = { h1 with bye := 1 } ∧ Q .non (upd H3 p (oHr t dx h2)))) else Q .non H3) := by
      intro h1 H2 e1 hp2 B2 H3 s3
      refine ite2 (fun z => ⟨_, rfl, ?_⟩) (fun z => ?_)
      · refine k _ ?_ (B2.same s3).upd
        rw [upd_same]
        congr 2
        unfold LP.Hr.note
        dsimp only
        rw [if_pos (of_decide_eq_true z), ← e1]
      · refine k _ ?_ (B2.same s3)
        rw [s3 _ _ hp2]
        congr 2
        unfold LP.Hr.note
        dsimp only
        rw [if_neg (fun q => z (decide_eq_true q)), ← e1]
    refine ite2 (fun z1 => ?_) (fun z1 => ?_)
    · -- self.middle = part.middle_of_time()
      refine ⟨_, rfl, a, dy, _, rfl, s1 _ _ ha, no_Part_middle_of_time, a, o, rfl, hA.same s1, fun H2 s2 => ?_⟩
      refine ⟨_, rfl, p, _, dx, _, rfl, s2 _ _ (s1 _ _ hp), T.cl_Hearing, T.na_Hearing_middle, len_Hearing, ?_⟩
      rw [put_Hearing_middle]
      -- self.heard_at = now
      refine ⟨_, rfl, _, rfl, p, _, dx, _, rfl, upd_same, T.cl_Hearing, T.na_Hearing_heard_at, len_Hearing, ?_⟩
      rw [put_Hearing_heard_at, upd_upd]
      have hp2 : (upd H2 p (.ins t.c_Hearing dx (fs_Hearing (.int ((Ql48.field o 10 4 : Nat) : Int)) (.int now) (.int h.bye)))) p = some (oHr t dx { h with middle := ((Ql48.field o 10 4 : Nat) : Int), at_ := some now }) := upd_same
      have B2 : But p H (upd H2 p (.ins t.c_Hearing dx (fs_Hearing (.int ((Ql48.field o 10 4 : Nat) : Int)) (.int now) (.int h.bye)))) := (B1.same s2).upd
      have hA2 := hA.but B2 hp hr_ne_pt
      obtain ⟨dy2, l2, ha2, hl2⟩ := id hA2
      -- if part.is_goodbye_of(source)
      refine ⟨_, rfl, a, dy2, _, rfl, ha2, no_Part_is_goodbye_of, _, rfl, a, o, src, rfl, hA2, fun H3 s3 => ⟨_, rfl, ?_⟩⟩
      have r := rest _ _ (by rw [if_pos (of_decide_eq_true z1)]) hp2 B2 H3 s3
      refine ite2 (fun z => ?_) (fun z => ?_)
      · rw [if_pos z] at r
        obtain ⟨h2, e2, r⟩ := r
        refine ⟨_, rfl, p, _, dx, _, rfl, s3 _ _ hp2, T.cl_Hearing, T.na_Hearing_goodbye, len_Hearing, ?_⟩
        rw [put_Hearing_goodbye]
        subst e2
        exact r
      · rw [if_neg z] at r
        exact r
    · refine ⟨_, rfl, a, dy, _, rfl, s1 _ _ ha, no_Part_is_goodbye_of, _, rfl, a, o, src, rfl, hA.same s1, fun H3 s3 => ⟨_, rfl, ?_⟩⟩
      have r := rest h H1 (by rw [if_neg (fun q => z1 (decide_eq_true q))]) (s1 _ _ hp) B1 H3 s3
      refine ite2 (fun z => ?_) (fun z => ?_)
      · rw [if_pos z] at r
        obtain ⟨h2, e2, r⟩ := r
        refine ⟨_, rfl, p, _, dx, _, rfl, s3 _ _ (s1 _ _ hp), T.cl_Hearing, T.na_Hearing_goodbye, len_Hearing, ?_⟩
        rw [put_Hearing_goodbye]
        subst e2
        exact r
      · rw [if_neg z] at r
        exact r
theorem ok_write_heard (T : Txt K mg t) : FnOk P w K mg base CX0 2 t.f_write_heard t.fd_write_heard ["hearing", "now"] (sp_write_heard t) := by
  refine T.fn_write_heard.ok sc_write_heard (fun vs H Q E h => ?_) (fun cdv A outer s H vs Q E hr h => ?_)
  · obtain ⟨p, dx, now, h, rfl, _⟩ := h
    rfl
  · obtain ⟨p, dx, now, h, rfl, hp, k⟩ := h
    have sz : 4000 ≤ sizeLine := by decide
    refine ⟨_, (pss_one (ps_ret (pe_op op_cat (pe_call (ok_write_number T) (hr.mono (by decide)) rfl T.mg_write_number T.fn_write_number.kp T.b_write_number .nil pass0 (pa_cons (pe_fld (pv 0) rfl) (pa_cons pe_int pa_nil))) (pe_call (ok_write_number T) (hr.mono (by decide)) rfl T.mg_write_number T.fn_write_number.kp T.b_write_number .nil pass0 (pa_cons (pe_meth (pv 0) T.cl_Hearing T.me_Hearing_time_since_report (ok_Hearing_time_since_report T) (hr.mono (by decide)) T.b_Hearing_time_since_report .nil pass0 (pa_cons (pv 1) pa_nil)) (pa_cons pe_int pa_nil)))))), ?_⟩
    refine ⟨_, rfl, p, _, dx, _, _, rfl, hp, T.cl_Hearing, T.na_Hearing_middle, get_Hearing_middle, h.middle, 4, rfl, by decide, fun r1 H1 s1 n1 h1 => ?_⟩
    refine ⟨_, rfl, p, dx, _, rfl, s1 _ _ hp, no_Hearing_time_since_report, _, rfl, p, dx, now, h, rfl, s1 _ _ hp, h.since now, 4, rfl, by decide, fun r2 H2 s2 n2 h2 => ?_⟩
    refine ⟨r1, r2, _, _, rfl, rfl, s2 _ _ h1, h2, by simp [LP.writeM_length]; omega, fun r3 n3 => ?_⟩
    refine k r3 _ (s1.trans (s2.trans (same_upd n3))) (s1.free (s2.free n3)) ?_
    rw [upd_same]
    unfold LP.heardB
    rw [iL_append]
theorem ok_write_counts (T : Txt K mg t) : FnOk P w K mg base CX0 3 t.f_write_counts t.fd_write_counts ["counting"] (sp_write_counts t) := by
  refine T.fn_write_counts.ok sc_write_counts (fun vs H Q E h => ?_) (fun cdv A outer s H vs Q E hr h => ?_)
  · obtain ⟨p, dx, c, rfl, _⟩ := h
    rfl
  · obtain ⟨p, dx, c, rfl, hp, hc, k⟩ := h
    have sz : 4000 ≤ sizeLine := by decide
    refine ⟨_, (pss_cons (ps_set (i := 1) sc_write_counts.nd rfl (Or.inl rfl) (pe_op op_cat (pe_call (ok_write_number T) (hr.mono (by decide)) rfl T.mg_write_number T.fn_write_number.kp T.b_write_number .nil pass0 (pa_cons (pe_meth0 (pv 0) T.cl_Counting T.me_Counting_share_lost_since_told (ok_Counting_share_lost_since_told T) (hr.mono (by decide)) T.b_Counting_share_lost_since_told .nil pass0) (pa_cons pe_int pa_nil))) (pe_call (ok_write_number T) (hr.mono (by decide)) rfl T.mg_write_number T.fn_write_number.kp T.b_write_number .nil pass0 (pa_cons (pe_meth0 (pv 0) T.cl_Counting T.me_Counting_how_many_missing (ok_Counting_how_many_missing T) (hr.mono (by decide)) T.b_Counting_how_many_missing .nil pass0) (pa_cons pe_int pa_nil)))))
      (pss_one (ps_ret (pe_op op_cat (pe_op op_cat (pv 1) (pe_call (ok_write_number T) (hr.mono (by decide)) rfl T.mg_write_number T.fn_write_number.kp T.b_write_number .nil pass0 (pa_cons (pe_fld (pv 0) rfl) (pa_cons pe_int pa_nil)))) (pe_call (ok_write_number T) (hr.mono (by decide)) rfl T.mg_write_number T.fn_write_number.kp T.b_write_number .nil pass0 (pa_cons (pe_meth0 (pv 0) T.cl_Counting T.me_Counting_told_jitter (ok_Counting_told_jitter T) (hr.mono (by decide)) T.b_Counting_told_jitter .nil pass0) (pa_cons pe_int pa_nil))))))), ?_⟩
    -- lost = write_number(counting.share_lost_since_told(), 1) + write_number(counting.how_many_missing(), 3)
    refine ⟨_, rfl, p, dx, _, rfl, hp, no_Counting_share_lost_since_told, p, dx, c, rfl, hp, hc, c.share, 1, rfl, by decide, fun r1 H1 s1 n1 h1 => ?_⟩
    refine ⟨_, rfl, p, dx, _, rfl, s1 _ _ hp, no_Counting_how_many_missing, p, dx, c, rfl, s1 _ _ hp, c.missing, 3, rfl, by decide, fun r2 H2 s2 n2 h2 => ?_⟩
    refine ⟨r1, r2, _, _, rfl, rfl, s2 _ _ h1, h2, by simp [LP.writeM_length]; omega, fun r3 n3 => ?_⟩
    rw [← iL_append]
    have s03 := s1.trans (s2.trans (same_upd (u := .lst (iL (LP.writeM c.share 1 ++ LP.writeM c.missing 3))) n3))
    have n03 := s1.free (s2.free n3)
    -- return lost + write_number(counting.greatest, 4) + write_number(counting.told_jitter(), 4)
    refine ⟨_, rfl, _, rfl, p, _, dx, _, _, rfl, s03 _ _ hp, T.cl_Counting, T.na_Counting_greatest, get_Counting_greatest, c.greatest, 4, rfl, by decide, fun r4 H4 s4 n4 h4 => ?_⟩
    refine ⟨r3, r4, _, _, rfl, rfl, s4 _ _ upd_same, h4, by simp [LP.writeM_length]; omega, fun r5 n5 => ?_⟩
    rw [← iL_append]
    have s05 := s03.trans (s4.trans (same_upd (u := .lst (iL ((LP.writeM c.share 1 ++ LP.writeM c.missing 3) ++ LP.writeM c.greatest 4))) n5))
    refine ⟨_, rfl, p, dx, _, rfl, s05 _ _ hp, no_Counting_told_jitter, p, dx, c, rfl, s05 _ _ hp, c.jitter / 16, 4, rfl, by decide, fun r6 H6 s6 n6 h6 => ?_⟩
    refine ⟨r5, r6, _, _, rfl, rfl, s6 _ _ upd_same, h6, by simp [LP.writeM_length]; omega, fun r7 n7 => ?_⟩
    refine k r7 _ (s05.trans (s6.trans (same_upd n7))) (s05.free (s6.free n7)) ?_
    rw [upd_same, ← iL_append]
    rfl
theorem ok_write_block (T : Txt K mg t) : FnOk P w K mg base CX0 4 t.f_write_block t.fd_write_block ["source", "counting", "hearing", "now"] (sp_write_block t) := by
  refine T.fn_write_block.ok sc_write_block (fun vs H Q E h => ?_) (fun cdv A outer s H vs Q E hr h => ?_)
  · obtain ⟨p, dx, q, dy, src, now, c, h, rfl, _⟩ := h
    rfl
  · obtain ⟨p, dx, q, dy, src, now, c, h, rfl, hp, hq, hc, k⟩ := h
    have sz : 4000 ≤ sizeLine := by decide
    have l1 : (LP.countsM c).length = 12 := by unfold LP.countsM; simp [LP.writeM_length]
    have l2 : (LP.heardB h now).length = 8 := by unfold LP.heardB; simp [LP.writeM_length]
    refine ⟨_, (pss_one (ps_ret (pe_op op_cat (pe_op op_cat (pe_call (ok_write_number T) (hr.mono (by decide)) rfl T.mg_write_number T.fn_write_number.kp T.b_write_number .nil pass0 (pa_cons (pv 0) (pa_cons pe_int pa_nil))) (pe_call (ok_write_counts T) (hr.mono (by decide)) rfl T.mg_write_counts T.fn_write_counts.kp T.b_write_counts .nil pass0 (pa_cons (pv 1) pa_nil))) (pe_call (ok_write_heard T) (hr.mono (by decide)) rfl T.mg_write_heard T.fn_write_heard.kp T.b_write_heard .nil pass0 (pa_cons (pv 2) (pa_cons (pv 3) pa_nil)))))), ?_⟩
    refine ⟨_, rfl, src, 4, rfl, by decide, fun r1 H1 s1 n1 h1 => ?_⟩
    refine ⟨_, rfl, p, dx, c, rfl, s1 _ _ hp, hc, fun r2 H2 s2 n2 h2 => ?_⟩
    refine ⟨r1, r2, _, _, rfl, rfl, s2 _ _ h1, h2, by simp [LP.writeM_length, l1]; omega, fun r3 n3 => ?_⟩
    rw [← iL_append]
    have s03 := s1.trans (s2.trans (same_upd (u := .lst (iL (LP.writeM src 4 ++ LP.countsM c))) n3))
    refine ⟨_, rfl, _, rfl, q, dy, now, h, rfl, s03 _ _ hq, fun r4 H4 s4 n4 h4 => ?_⟩
    refine ⟨r3, r4, _, _, rfl, rfl, s4 _ _ upd_same, h4, by simp [LP.writeM_length, l1, l2]; omega, fun r5 n5 => ?_⟩
    refine k r5 _ (s03.trans (s4.trans (same_upd n5))) (s03.free (s4.free n5)) ?_
    rw [upd_same, ← iL_append]
    rfl
theorem ok_write_report (T : Txt K mg t) : FnOk P w K mg base CX0 2 t.f_write_report t.fd_write_report ["own", "block"] sp_write_report := by
  refine T.fn_write_report.ok sc_write_report (fun vs H Q E h => ?_) (fun cdv A outer s H vs Q E hr h => ?_)
  · obtain ⟨l, own, bl, rfl, _⟩ := h
    rfl
  · obtain ⟨l, own, bl, rfl, hl, hlen, k⟩ := h
    have sz : 4000 ≤ sizeLine := by decide
    have hll : (iL bl).length = bl.length := List.length_map _
    refine ⟨_, (pss_cons (ps_set (i := 2) sc_write_report.nd rfl (Or.inl rfl) (pe_ifExp (pt_truth (pv 1) (fun _ => rfl)) pe_int pe_int))
      (pss_cons (ps_set (i := 3) sc_write_report.nd rfl (Or.inl rfl) (pe_op op_cat (pe_call (ok_write_number T) (hr.mono (by decide)) rfl T.mg_write_number T.fn_write_number.kp T.b_write_number .nil pass0 (pa_cons (pv 0) (pa_cons pe_int pa_nil))) (pv 1)))
      (pss_cons (ps_set (i := 4) sc_write_report.nd rfl (Or.inl rfl) (pe_lst (pa_cons (pe_op op_add (pe_op op_mul pe_int (pe_gl T.g_VERSION rfl)) (pv 2)) (pa_cons (pe_gl T.g_RECEIVER_REPORT rfl) pa_nil))))
      (pss_one (ps_ret (pe_op op_cat (pe_op op_cat (pv 4) (pe_call (ok_write_number T) (hr.mono (by decide)) rfl T.mg_write_number T.fn_write_number.kp T.b_write_number .nil pass0 (pa_cons (pe_op op_fdiv (pe_callB call_len_seq rfl T.n_len PySem.boot_len (pa_cons (pv 3) pa_nil)) pe_int) (pa_cons pe_int pa_nil)))) (pv 3))))))), ?_⟩
    -- entries = 1 if block else 0
    refine ⟨_, rfl, _, .inl ⟨_, SqL.of hl, rfl⟩, ?_⟩
    by_cases hb : bl = []
    case' pos =>
      rw [show (!(iL bl).isEmpty) = false by rw [hb]; rfl]
      refine iteF ?_
      have hz : (if bl = [] then (0 : Int) else 1) = 0 := if_pos hb
    case' neg =>
      rw [show (!(iL bl).isEmpty) = true by cases bl with | nil => exact absurd rfl hb | cons _ _ => rfl]
      refine iteT ?_
      have hz : (if bl = [] then (0 : Int) else 1) = 1 := if_neg hb
    all_goals
      -- body = write_number(own, 4) + block
      refine ⟨_, rfl, own, 4, rfl, by decide, fun r1 H1 s1 n1 h1 => ?_⟩
      refine ⟨_, rfl, r1, l, _, _, rfl, rfl, h1, s1 _ _ hl, by simp [LP.writeM_length]; omega, fun r2 n2 => ?_⟩
      rw [← iL_append]
      have s02 := s1.trans (same_upd (u := .lst (iL (LP.writeM own 4 ++ bl))) n2)
      -- head = [64 * VERSION + entries, RECEIVER_REPORT]
      refine ⟨_, _, rfl, rfl, .inl ⟨by decide, by decide⟩, _, rfl, _, _, rfl, rfl, (by show 2 ≤ sizeLine; decide), fun r3 n3 => ?_⟩
      have hr2 := fun (u : HO) => same_upd (u := u) n3 r2 _ upd_same
      -- return head + write_number(len(body) // 4, 2) + body
      refine ⟨_, rfl, _, rfl, r2, _, rfl, .inl (SqL.of (hr2 _)), _, _, rfl, rfl, ⟨by decide, by decide⟩, _, 2, rfl, by decide, fun r4 H4 s4 n4 h4 => ?_⟩
      refine ⟨r3, r4, _, _, rfl, rfl, s4 _ _ upd_same, h4, by simp [LP.writeM_length]; omega, fun r5 n5 => ?_⟩
      have s5 := fun (u : HO) => same_upd (u := u) n5
      refine ⟨_, rfl, r5, r2, _, _, rfl, rfl, upd_same, s5 _ _ _ (s4 _ _ (hr2 _)), by simp [LP.writeM_length]; omega, fun r6 n6 => ?_⟩
      have s06 := fun (u v : HO) (h : Same (upd (upd H1 r2 (.lst (iL (LP.writeM own 4 ++ bl)))) r3 u) H4) => s02.trans ((same_upd n3).trans (h.trans (s5 v)))
      refine k r6 _ ((s06 _ _ s4).trans (same_upd n6)) ((s06 _ _ s4).free n6) ?_
      have el : (iL (LP.writeM own 4 ++ bl)).length = (LP.writeM own 4 ++ bl).length := List.length_map _
      rw [upd_same, el]
      unfold LP.reportM
      rw [hz, iL_append _ (LP.writeM own 4 ++ bl), iL_append _ (LP.writeM _ 2)]
      rfl
end
end My
namespace My
open PySem L2
/-! ### the receiver -/
def keys (fs : List (Str × V)) : List Str := fs.map (·.1)
def kRec : List Str := keys (fs_Receiver .non .non .non .non .non .non .non)
def kCnt : List Str := keys (fs_Counting .non .non .non .non .non .non .non)
def kHr : List Str := keys (fs_Hearing .non .non .non)
def kWt : List Str := keys (fs_Waiting .non .non)
/-- what no call on the receiver changes -/
def Quiet : HO → Prop
  | .dK _ => False
  | .ins _ _ fs => keys fs ≠ kRec ∧ keys fs ≠ kCnt ∧ keys fs ≠ kWt ∧ keys fs ≠ kHr
  | _ => True
def Calm (H H' : Hp) : Prop := ∀ b o, H b = some o → Quiet o → H' b = some o
theorem Calm.refl (H : Hp) : Calm H H := fun _ _ h _ => h
theorem Calm.trans {H H1 H2 : Hp} (a : Calm H H1) (b : Calm H1 H2) : Calm H H2 := fun c o h q => b c o (a c o h q) q
theorem Same.calm {H H' : Hp} (s : Same H H') : Calm H H' := fun b o h _ => s b o h
theorem calm_upd {H : Hp} {p : Addr} {o u : HO} (h : H p = some o) (q : ¬ Quiet o) : Calm H (upd H p u) := fun b o' e q' => by
  rw [upd_ne (ne_of e h (by intro z; subst z; exact q q'))]
  exact e
theorem But.calm {H H' : Hp} {p : Addr} {o : HO} (b : But p H H') (h : H p = some o) (q : ¬ Quiet o) : Calm H H' := fun c o' e q' => b c o' e (ne_of e h (by intro z; subst z; exact q q'))
theorem quiet_pk {C dx : Addr} {m k n s c : Int} {l : Addr} : Quiet (.ins C dx (fsP m k n s c l)) := by
  refine ⟨?_, ?_, ?_, ?_⟩
  · show (["mark", "kind", "number", "stamp", "source", "carried"] : List Str) ≠ kRec
    decide +kernel
  · show (["mark", "kind", "number", "stamp", "source", "carried"] : List Str) ≠ kCnt
    decide +kernel
  · show (["mark", "kind", "number", "stamp", "source", "carried"] : List Str) ≠ kWt
    decide +kernel
  · show (["mark", "kind", "number", "stamp", "source", "carried"] : List Str) ≠ kHr
    decide +kernel
theorem loud_rec {C dx : Addr} {a b c d e f g : V} : ¬ Quiet (.ins C dx (fs_Receiver a b c d e f g)) := fun h => h.1 rfl
theorem loud_cnt {C dx : Addr} {a b c d e f g : V} : ¬ Quiet (.ins C dx (fs_Counting a b c d e f g)) := fun h => h.2.1 rfl
theorem loud_wt {C dx : Addr} {a b : V} : ¬ Quiet (.ins C dx (fs_Waiting a b)) := fun h => h.2.2.1 rfl
theorem loud_hr {C dx : Addr} {a b c : V} : ¬ Quiet (.ins C dx (fs_Hearing a b c)) := fun h => h.2.2.2 rfl
theorem PkAt.calm {t : Adr} {Z : Addr → Prop} {H H' : Hp} (c : Calm H H') {a : Addr} {p : Ql48.Packet} (h : PkAt t Z H a p) : PkAt t Z H' a p := by
  obtain ⟨dx, l, h1, h2, hz⟩ := h
  exact ⟨dx, l, c _ _ h1 quiet_pk, c _ _ h2 trivial, hz⟩
theorem SqL.calm {K : PySem.W.Frag} {H H' : Hp} (c : Calm H H') {a : Addr} {xs : List V} (h : SqL K H a xs) : SqL K H' a xs := by
  rcases h with (h | ⟨o, h⟩) | h
  · exact .inl (.inl (c _ _ h trivial))
  · exact .inl (.inr ⟨o, c _ _ h trivial⟩)
  · exact .inr h
theorem ne_keys {H : Hp} {p q C dx C' dx' : Addr} {fs fs' : List (Str × V)} (h : H p = some (.ins C dx fs)) (h' : H q = some (.ins C' dx' fs')) (n : keys fs ≠ keys fs') : p ≠ q := ne_of h h' (by intro z; cases z; exact n rfl)
theorem kRC : kRec ≠ kCnt := by decide +kernel
theorem kRW : kRec ≠ kWt := by decide +kernel
theorem kCW : kCnt ≠ kWt := by decide +kernel
theorem kRH : kRec ≠ kHr := by decide +kernel
theorem kCH : kCnt ≠ kHr := by decide +kernel
theorem kWH : kWt ≠ kHr := by decide +kernel

/-- a Counting stands there -/
def CntO (t : Adr) (H : Hp) (v : V) : Option LP.Cnt → Prop
  | none => v = .non
  | some c => ∃ a dx, v = .ref a ∧ H a = some (oCnt t dx c)
/-- a Waiting stands there -/
def WtO (t : Adr) (Z : Addr → Prop) (H : Hp) (v : V) : Option LP.Wt → Prop
  | none => v = .non
  | some x => ∃ a dx d kvs, v = .ref a ∧ H a = some (.ins t.c_Waiting dx (fsW x.due d)) ∧ H d = some (.dK kvs) ∧ KeptAt t Z H kvs x.kept ∧ kvs.length ≤ 64
/-- a Hearing stands there -/
def HrO (t : Adr) (H : Hp) (v : V) (h : LP.Hr) : Prop := ∃ a dx, v = .ref a ∧ H a = some (oHr t dx h)
theorem HrO.keep {t : Adr} {H H' : Hp} {v : V} {o : LP.Hr} (h : HrO t H v o) (k : ∀ a C dx fs, H a = some (.ins C dx fs) → keys fs = kHr → H' a = some (.ins C dx fs)) : HrO t H' v o := by
  obtain ⟨a, dx, e, h1⟩ := h
  exact ⟨a, dx, e, k _ _ _ _ h1 rfl⟩
abbrev fsR (m : LP.Rc) (vc vw vh : V) : List (Str × V) := fs_Receiver (.int m.own) (.int m.depth) (vO m.source) (vO m.awaited) vc vw vh
def RcAt (t : Adr) (Z : Addr → Prop) (H : Hp) (p : Addr) (m : LP.Rc) : Prop := ∃ dx vc vw vh, H p = some (.ins t.c_Receiver dx (fsR m vc vw vh)) ∧ CntO t H vc m.counting ∧ WtO t Z H vw m.waiting ∧ HrO t H vh m.hearing
def Both (m : LP.Rc) : Prop := (m.counting = none ∧ m.waiting = none) ∨ ∃ c x, m.counting = some c ∧ m.waiting = some x

/-- a change of anything but Counting keeps it, and so on -/
theorem CntO.keep {t : Adr} {H H' : Hp} {v : V} {o : Option LP.Cnt} (h : CntO t H v o) (k : ∀ a C dx fs, H a = some (.ins C dx fs) → keys fs = kCnt → H' a = some (.ins C dx fs)) : CntO t H' v o := by
  cases o with
  | none => exact h
  | some c =>
    obtain ⟨a, dx, e, h1⟩ := h
    exact ⟨a, dx, e, k _ _ _ _ h1 rfl⟩
theorem WtO.keep {t : Adr} {Z : Addr → Prop} {H H' : Hp} {v : V} {o : Option LP.Wt} (h : WtO t Z H v o) (k : ∀ a C dx fs, H a = some (.ins C dx fs) → keys fs = kWt → H' a = some (.ins C dx fs)) (kd : ∀ a kvs, H a = some (.dK kvs) → H' a = some (.dK kvs)) (c : Calm H H') : WtO t Z H' v o := by
  cases o with
  | none => exact h
  | some x =>
    obtain ⟨a, dx, d, kvs, e, h1, h2, h3, h4⟩ := h
    exact ⟨a, dx, d, kvs, e, k _ _ _ _ h1 rfl, kd _ _ h2, h3.mono fun _ _ hp => hp.calm c, h4⟩

theorem RcAt.set {t : Adr} {Z : Addr → Prop} {H : Hp} {p dx : Addr} {vc vw vh : V} {m m' : LP.Rc} (hp : H p = some (.ins t.c_Receiver dx (fsR m vc vw vh))) (hc : CntO t H vc m.counting) (hw : WtO t Z H vw m.waiting) (hh : HrO t H vh m.hearing) (e1 : m'.counting = m.counting) (e2 : m'.waiting = m.waiting) (e3 : m'.hearing = m.hearing) :
    RcAt t Z (upd H p (.ins t.c_Receiver dx (fsR m' vc vw vh))) p m' := by
  refine ⟨dx, vc, vw, vh, upd_same, ?_, ?_, ?_⟩
  · rw [e1]
    exact hc.keep fun b C dz fs hb e => by rw [upd_ne (ne_keys hb hp (by rw [e]; exact kRC.symm))]; exact hb
  · rw [e2]
    exact hw.keep (fun b C dz fs hb e => by rw [upd_ne (ne_keys hb hp (by rw [e]; exact kRW.symm))]; exact hb) (fun b kvs hb => by rw [upd_ne (ne_of hb hp (by intro z; cases z))]; exact hb) (calm_upd hp loud_rec)
  · rw [e3]
    exact hh.keep fun b C dz fs hb e => by rw [upd_ne (ne_keys hb hp (by rw [e]; exact kRH.symm))]; exact hb
theorem RcAt.same {t : Adr} {Z : Addr → Prop} {H H' : Hp} {p : Addr} {m : LP.Rc} (s : Same H H') (h : RcAt t Z H p m) : RcAt t Z H' p m := by
  obtain ⟨dx, vc, vw, vh, hp, hc, hw, hh⟩ := h
  exact ⟨dx, vc, vw, vh, s _ _ hp, hc.keep fun b C dz fs hb _ => s _ _ hb, hw.keep (fun b C dz fs hb _ => s _ _ hb) (fun b kvs hb => s _ _ hb) (Same.calm s), hh.keep fun b C dz fs hb _ => s _ _ hb⟩

def sp_Receiver_init (t : Adr) : Sp := fun vs H Q _ => ∃ (p dx : Addr) (o d : Int), vs = [.ref p, .int o, .int d] ∧ H p = some (.ins t.c_Receiver dx []) ∧ ∀ H', (∀ Z, RcAt t Z H' p (LP.Rc.new o d)) → But p H H' → Q .non H'
/-- keep_counted(whole, packet): a Waiting is there -/
def sp_Receiver_keep_counted (t : Adr) : Sp := fun vs H Q _ => ∃ (p a : Addr) (z : Int) (pk : Ql48.Packet) (m : LP.Rc) (x : LP.Wt) (Z : Addr → Prop), vs = [.ref p, .int z, .ref a] ∧ RcAt t Z H p m ∧ m.waiting = some x ∧ PkAt t Z H a pk ∧
  ∀ H', RcAt t Z H' p (m.keep x z pk).1 → Calm H H' → Q (.int (m.keep x z pk).2) H'
def sp_Receiver_begin_numbers (t : Adr) : Sp := fun vs H Q _ => ∃ (p : Addr) (n w : Int) (m : LP.Rc) (Z : Addr → Prop), vs = [.ref p, .int n, .int w] ∧ RcAt t Z H p m ∧
  ∀ H', RcAt t Z H' p { m with awaited := none, counting := some ⟨n, n, 1, 0, w, 0, 0⟩, waiting := some ⟨n, []⟩ } → Calm H H' → Q .non H'
def sp_Receiver_doubt (t : Adr) : Sp := fun vs H Q _ => ∃ (p a : Addr) (w : Int) (pk : Ql48.Packet) (m : LP.Rc) (Z : Addr → Prop), vs = [.ref p, .ref a, .int w] ∧ RcAt t Z H p m ∧ PkAt t Z H a pk ∧
  ∀ H', RcAt t Z H' p (m.doubt pk w).1 → Calm H H' → Q (.int (m.doubt pk w).2) H'
def sp_Receiver_receive (t : Adr) (K : PySem.W.Frag) : Sp := fun vs H Q _ => ∃ (p o : Addr) (b : List Nat) (arr : Int) (m : LP.Rc) (Z : Addr → Prop), vs = [.ref p, .ref o, .int arr] ∧ (∀ z, Z z → H z ≠ none) ∧ RcAt t Z H p m ∧ Both m ∧ SqL K H o (bV b) ∧ (∀ x ∈ b, x ≤ 255) ∧
  ∀ H', RcAt t Z H' p (m.receive b arr).1 → Calm H H' → Q (.int (m.receive b arr).2) H'
section
variable {P : Program} {w : World} {K : PySem.W.Frag} {mg : Str → Option Value} {base : Heap} {t : Adr}
theorem ok_Receiver_init (T : Txt K mg t) : FnOk P w K mg base CX0 3 t.f_Receiver_init t.fd_Receiver_init ["self", "own", "depth"] (sp_Receiver_init t) := by
  refine T.fn_Receiver_init.ok sc_Receiver_init (fun vs H Q E h => ?_) (fun cdv A outer s H vs Q E hr h => ?_)
  · obtain ⟨p, dx, n, w, rfl, _⟩ := h
    rfl
  · obtain ⟨p, dx, n, w, rfl, hp, k⟩ := h
    refine ⟨_, (pss_cons (ps_fld (pv 0) (pv 1) rfl)
      (pss_cons (ps_fld (pv 0) (pv 2) rfl)
      (pss_cons (ps_fld (pv 0) pe_non rfl)
      (pss_cons (ps_fld (pv 0) pe_non rfl)
      (pss_cons (ps_fld (pv 0) pe_non rfl)
      (pss_cons (ps_fld (pv 0) pe_non rfl)
      (pss_one (ps_fld (pv 0) (pe_make0 T.mk_Hearing (ok_Hearing_init T) (hr.mono (by decide)) rfl T.mgc_Hearing T.b_Hearing_init .nil pass0) rfl)))))))), ?_⟩
    refine ⟨_, rfl, _, rfl, p, _, dx, _, rfl, hp, T.cl_Receiver, T.na_Receiver_own, pl0, ?_⟩
    refine ⟨_, rfl, _, rfl, p, _, dx, _, rfl, upd_same, T.cl_Receiver, T.na_Receiver_depth, pl pl0, ?_⟩
    refine ⟨_, rfl, p, _, dx, _, rfl, upd_same, T.cl_Receiver, T.na_Receiver_source, pl (pl pl0), ?_⟩
    refine ⟨_, rfl, p, _, dx, _, rfl, upd_same, T.cl_Receiver, T.na_Receiver_awaited, pl (pl (pl pl0)), ?_⟩
    refine ⟨_, rfl, p, _, dx, _, rfl, upd_same, T.cl_Receiver, T.na_Receiver_counting, pl (pl (pl (pl pl0))), ?_⟩
    refine ⟨_, rfl, p, _, dx, _, rfl, upd_same, T.cl_Receiver, T.na_Receiver_waiting, pl (pl (pl (pl (pl pl0)))), ?_⟩
    rw [upd_upd, upd_upd, upd_upd, upd_upd, upd_upd]
    -- self.hearing = Hearing()
    intro x dy nx ndy ney
    have npx : p ≠ x := ne_of_none upd_same nx
    have npy : p ≠ dy := ne_of_none upd_same ndy
    refine ⟨x, dy, rfl, upd_same, rfl, ?_⟩
    rw [upd_upd]
    refine ⟨_, rfl, p, _, dx, _, rfl, (by rw [upd_ne npx, upd_ne npy]; exact upd_same), T.cl_Receiver, T.na_Receiver_hearing, pl (pl (pl (pl (pl (pl pl0))))), ?_⟩
    rw [made_Receiver]
    refine k _ (fun Z => ⟨dx, .non, .non, .ref x, upd_same, rfl, rfl, x, dy, rfl, by rw [upd_ne npx.symm]; exact upd_same⟩) (But.upd fun c u e nc => ?_)
    have hc1 : (upd H p (.ins t.c_Receiver dx (putF "waiting" .non (putF "counting" .non (putF "awaited" .non (putF "source" .non (putF "depth" (.int w) (putF "own" (.int n) [])))))))) c = some u := by rw [upd_ne nc]; exact e
    rw [upd_ne (ne_of_none hc1 nx), upd_ne (ne_of_none hc1 ndy)]
    exact hc1
theorem ok_Receiver_keep_counted (T : Txt K mg t) : FnOk P w K mg base CX0 2 t.f_Receiver_keep_counted t.fd_Receiver_keep_counted ["self", "whole", "packet"] (sp_Receiver_keep_counted t) := by
  refine T.fn_Receiver_keep_counted.ok sc_Receiver_keep_counted (fun vs H Q E h => ?_) (fun cdv A outer s H vs Q E hr h => ?_)
  · obtain ⟨p, a, z, pk, m, x, Z, rfl, _⟩ := h
    rfl
  · obtain ⟨p, a, z, pk, m, x, Z, rfl, ⟨dx, vc, vw, vh, hp, hc, hw, hh⟩, hx, ha, k⟩ := h
    rw [hx] at hw
    obtain ⟨q, dq, d, kvs, rfl, hq, hd, hk, h64⟩ := hw
    have npd : p ≠ d := ne_of hp hd (by intro z; cases z)
    have nqd : q ≠ d := ne_of hq hd (by intro z; cases z)
    refine ⟨_, (pss_cons (ps_if (pt_val (pe_meth (pe_fld (pv 0) rfl) T.cl_Waiting T.me_Waiting_try_keep (ok_Waiting_try_keep T) (hr.mono (by decide)) T.b_Waiting_try_keep .nil pass0 (pa_cons (pv 1) (pa_cons (pv 2) pa_nil)))) (pss_one (ps_ret (pe_gl T.g_KEPT rfl))) pss_nil)
      (pss_one (ps_ret (pe_gl T.g_COUNTED rfl)))), ?_⟩
    -- if self.waiting.try_keep(whole, packet)
    refine ⟨_, rfl, p, _, dx, _, _, rfl, hp, T.cl_Receiver, T.na_Receiver_waiting, get_Receiver_waiting, q, dq, _, rfl, hq, no_Waiting_try_keep, _, rfl, _, rfl, q, dq, d, a, x.due, z, kvs, pk, rfl, hq, hd, ha.any, h64, fun hf => ?_, fun hf => ?_⟩
    · -- False
      have e : x.try_ z pk = (x, false) := by
        unfold LP.Wt.try_
        rcases (hk.full_iff z pk.load.length).mp hf with h1 | h1
        · rw [if_pos h1]
        · by_cases h2 : z < x.due ∨ x.has z = true
          · rw [if_pos h2]
          · rw [if_neg h2, if_pos h1]
      have e1 : m.keep x z pk = (m, 0) := by
        unfold LP.Rc.keep
        rw [e]
        show ({ m with waiting := some x }, (0 : Int)) = (m, 0)
        rw [← hx]
      rw [e1] at k
      refine ⟨_, rfl, ?_⟩
      refine iteF ?_
      exact k H ⟨dx, vc, _, vh, hp, hc, by rw [hx]; exact ⟨q, dq, d, kvs, rfl, hq, hd, hk, h64⟩, hh⟩ (Calm.refl H)
    · -- True
      have hf2 := fun h => hf ((hk.full_iff z pk.load.length).mpr h)
      have e : x.try_ z pk = (⟨x.due, x.kept ++ [(z, pk)]⟩, true) := by
        unfold LP.Wt.try_
        rw [if_neg (fun h => hf2 (.inl h)), if_neg (fun h => hf2 (.inr h))]
      have e1 : m.keep x z pk = ({ m with waiting := some ⟨x.due, x.kept ++ [(z, pk)]⟩ }, 1) := by
        unfold LP.Rc.keep
        rw [e]
        rfl
      rw [e1] at k
      have hv : valV kvs (kI z) = none := by
        cases e2 : valV kvs (kI z) with
        | none => rfl
        | some v => exact absurd (.inl (.inr (by rw [e2]; rfl))) hf
      have hlen : kvs.length < 64 := Nat.lt_of_not_le fun h => hf (.inr (.inl h))
      rw [putK_new _ hv]
      have c : Calm H (upd H d (.dK (kvs ++ [(kI z, .ref a)]))) := calm_upd hd (fun h => h)
      refine ⟨_, rfl, ?_⟩
      refine iteT ?_
      refine k _ ⟨dx, vc, _, vh, by rw [upd_ne npd]; exact hp, hc.keep fun b C dy fs hb _ => by rw [upd_ne (ne_of hb hd (by intro z; cases z))]; exact hb, ⟨q, dq, d, _, rfl, by rw [upd_ne nqd]; exact hq, upd_same, (hk.mono fun _ _ hp => hp.calm c).snoc (ha.calm c), by simp; omega⟩, hh.keep fun b C dy fs hb _ => by rw [upd_ne (ne_of hb hd (by intro z; cases z))]; exact hb⟩ c
theorem ok_Receiver_begin_numbers (T : Txt K mg t) : FnOk P w K mg base CX0 3 t.f_Receiver_begin_numbers t.fd_Receiver_begin_numbers ["self", "number", "way"] (sp_Receiver_begin_numbers t) := by
  refine T.fn_Receiver_begin_numbers.ok sc_Receiver_begin_numbers (fun vs H Q E h => ?_) (fun cdv A outer s H vs Q E hr h => ?_)
  · obtain ⟨p, n, w, m, Z, rfl, _⟩ := h
    rfl
  · obtain ⟨p, n, w, m, Z, rfl, ⟨dx, vc, vw, vh, hp, hc, hw, hh⟩, k⟩ := h
    refine ⟨_, (pss_cons (ps_fld (pv 0) pe_non rfl)
      (pss_cons (ps_fld (pv 0) (pe_make T.mk_Counting (ok_Counting_init T) (hr.mono (by decide)) rfl T.mgc_Counting T.b_Counting_init .nil pass0 (pa_cons (pv 1) (pa_cons (pv 2) pa_nil))) rfl)
      (pss_one (ps_fld (pv 0) (pe_make T.mk_Waiting (ok_Waiting_init T) (hr.mono (by decide)) rfl T.mgc_Waiting T.b_Waiting_init .nil pass0 (pa_cons (pv 1) pa_nil)) rfl)))), ?_⟩
    -- self.awaited = None
    refine ⟨_, rfl, p, _, dx, _, rfl, hp, T.cl_Receiver, T.na_Receiver_awaited, len_Receiver, ?_⟩
    rw [put_Receiver_awaited]
    -- self.counting = Counting(number, way)
    refine ⟨_, rfl, _, rfl, ?_⟩
    intro x dy nx ndy ney
    have hxp : p ≠ x := ne_of_none upd_same nx
    have hyp : p ≠ dy := ne_of_none upd_same ndy
    refine ⟨x, dy, n, w, rfl, upd_same, rfl, ?_⟩
    refine ⟨_, rfl, p, _, dx, _, rfl, (by rw [upd_ne hxp, upd_ne hxp, upd_ne hyp]; exact upd_same), T.cl_Receiver, T.na_Receiver_counting, len_Receiver, ?_⟩
    rw [put_Receiver_counting]
    -- self.waiting = Waiting(number)
    refine ⟨_, rfl, ?_⟩
    intro y dz ny ndz nez
    have hyp2 : p ≠ y := ne_of_none upd_same ny
    have hzp2 : p ≠ dz := ne_of_none upd_same ndz
    refine ⟨y, dz, n, rfl, upd_same, fun d H5 hd5 h5y h5d but => ⟨rfl, ?_⟩⟩
    refine ⟨_, rfl, p, _, dx, _, rfl, (but p _ (by rw [upd_ne hyp2, upd_ne hzp2]; exact upd_same) hyp2), T.cl_Receiver, T.na_Receiver_waiting, len_Receiver, ?_⟩
    rw [put_Receiver_waiting]
    have xy : x ≠ y := ne_of_none (o := oCnt t dy ⟨n, n, 1, 0, w, 0, 0⟩) (by rw [upd_ne hxp.symm]; exact upd_same) ny
    have xz : x ≠ dz := ne_of_none (o := oCnt t dy ⟨n, n, 1, 0, w, 0, 0⟩) (by rw [upd_ne hxp.symm]; exact upd_same) ndz
    have h5x : H5 x = some (oCnt t dy ⟨n, n, 1, 0, w, 0, 0⟩) := but x _ (by rw [upd_ne xy, upd_ne xz, upd_ne hxp.symm]; exact upd_same) xy
    have npd : p ≠ d := ne_of_none (by rw [upd_ne hyp2, upd_ne hzp2]; exact upd_same) hd5
    have stay : ∀ b o, H b = some o → b ≠ p → (upd H5 p (.ins t.c_Receiver dx (fs_Receiver (.int m.own) (.int m.depth) (vO m.source) .non (.ref x) (.ref y) vh))) b = some o := by
      intro b o hb nbp
      have hb1 : (upd H p (.ins t.c_Receiver dx (fs_Receiver (.int m.own) (.int m.depth) (vO m.source) .non vc vw vh))) b = some o := by rw [upd_ne nbp]; exact hb
      have nbx : b ≠ x := ne_of_none hb1 nx
      have nby : b ≠ dy := ne_of_none hb1 ndy
      have hb2 : (upd (upd (upd (upd (upd H p (.ins t.c_Receiver dx (fs_Receiver (.int m.own) (.int m.depth) (vO m.source) .non vc vw vh))) dy (.own x)) x (.ins t.c_Counting dy [])) x (oCnt t dy ⟨n, n, 1, 0, w, 0, 0⟩)) p (.ins t.c_Receiver dx (fs_Receiver (.int m.own) (.int m.depth) (vO m.source) .non (.ref x) vw vh))) b = some o := by
        rw [upd_ne nbp, upd_ne nbx, upd_ne nbx, upd_ne nby]
        exact hb1
      have nb2 : b ≠ y := ne_of_none hb2 ny
      have nb3 : b ≠ dz := ne_of_none hb2 ndz
      rw [upd_ne nbp]
      exact but b o (by rw [upd_ne nb2, upd_ne nb3]; exact hb2) nb2
    refine k _ ⟨dx, .ref x, .ref y, vh, upd_same, ⟨x, dy, rfl, by rw [upd_ne hxp.symm]; exact h5x⟩, ⟨y, dz, d, [], rfl, by rw [upd_ne hyp2.symm]; exact h5y, by rw [upd_ne npd.symm]; exact h5d, trivial, by simp⟩, hh.keep fun b C dz fs hb e => stay b _ hb (ne_keys hb hp (by rw [e]; exact kRH.symm))⟩ fun b o hb qo => stay b o hb (ne_of hb hp (by intro z; subst z; exact loud_rec qo))
theorem scal_vO (n : Int) (o : Option Int) : scal (.int n) (vO o) = true := by cases o <;> rfl
theorem vO_eq {n : Int} {o : Option Int} : V.int n = vO o ↔ o = some n := by
  cases o with
  | none => simp [vO]
  | some z =>
    constructor
    · intro h
      rw [V.int.inj h]
    · intro h
      rw [Option.some.inj h]
      rfl
theorem ok_Receiver_doubt (T : Txt K mg t) : FnOk P w K mg base CX0 4 t.f_Receiver_doubt t.fd_Receiver_doubt ["self", "packet", "way"] (sp_Receiver_doubt t) := by
  refine T.fn_Receiver_doubt.ok sc_Receiver_doubt (fun vs H Q E h => ?_) (fun cdv A outer s H vs Q E hr h => ?_)
  · obtain ⟨p, a, w, pk, m, Z, rfl, _⟩ := h
    rfl
  · obtain ⟨p, a, w, pk, m, Z, rfl, hR, hA, k⟩ := h
    obtain ⟨dx, vc, vw, vh, hp, hc, hw, hh⟩ := id hR
    obtain ⟨dy, l, ha, hl, hz⟩ := id hA
    refine ⟨_, (pss_cons (ps_if (pt_cmpR op_ne (pe_fld (pv 1) rfl) (pe_fld (pv 0) rfl) (nomark _)) (pss_cons (ps_fld (pv 0) (pe_call (ok_number_behind T) (hr.mono (by decide)) rfl T.mg_number_behind T.fn_number_behind.kp T.b_number_behind .nil pass0 (pa_cons (pe_fld (pv 1) rfl) pa_nil)) rfl)
      (pss_one (ps_ret (pe_gl T.g_NOT_BELIEVED rfl)))) pss_nil)
      (pss_cons (ps_expr (pe_meth (pv 0) T.cl_Receiver T.me_Receiver_begin_numbers (ok_Receiver_begin_numbers T) (hr.mono (by decide)) T.b_Receiver_begin_numbers .nil pass0 (pa_cons (pe_fld (pv 1) rfl) (pa_cons (pv 2) pa_nil))))
      (pss_one (ps_ret (pe_meth (pv 0) T.cl_Receiver T.me_Receiver_keep_counted (ok_Receiver_keep_counted T) (hr.mono (by decide)) T.b_Receiver_keep_counted .nil pass0 (pa_cons (pe_fld (pv 1) rfl) (pa_cons (pv 1) pa_nil))))))), ?_⟩
    -- if packet.number != self.awaited
    refine ⟨_, rfl, a, _, dy, _, _, rfl, ha, T.cl_Packet, T.na_Packet_number, get_Packet_number, _, rfl, p, _, dx, _, _, rfl, hp, T.cl_Receiver, T.na_Receiver_awaited, get_Receiver_awaited, scal_vO _ _, _, rfl, ?_⟩
    unfold LP.Rc.doubt at k
    by_cases hw2 : m.awaited = some (pk.seq : Int)
    · rw [if_pos hw2] at k
      rw [decide_eq_true (vO_eq.mpr hw2)]
      refine iteF ?_
      -- self.begin_numbers(packet.number, way)
      refine ⟨_, rfl, p, dx, _, rfl, hp, no_Receiver_begin_numbers, _, rfl, a, _, dy, _, _, rfl, ha, T.cl_Packet, T.na_Packet_number, get_Packet_number, _, rfl, p, (pk.seq : Int), w, m, Z, rfl, hR, fun H2 r2 c2 => ?_⟩
      obtain ⟨dx2, vc2, vw2, vh2, hp2, hc2, hw3, hh3⟩ := id r2
      obtain ⟨dy2, l2, ha2, hl2, hz2⟩ := id (hA.calm c2)
      -- return self.keep_counted(packet.number, packet)
      refine ⟨_, rfl, p, dx2, _, rfl, hp2, no_Receiver_keep_counted, _, rfl, a, _, dy2, _, _, rfl, ha2, T.cl_Packet, T.na_Packet_number, get_Packet_number, _, rfl, p, a, (pk.seq : Int), pk, _, _, Z, rfl, r2, rfl, hA.calm c2, fun H3 r3 c3 => ?_⟩
      exact k H3 r3 (c2.trans c3)
    · rw [if_neg hw2] at k
      rw [decide_eq_false (fun z => hw2 (vO_eq.mp z))]
      refine iteT ?_
      -- self.awaited = number_behind(packet.number)
      refine ⟨_, rfl, a, _, dy, _, _, rfl, ha, T.cl_Packet, T.na_Packet_number, get_Packet_number, _, rfl, _, rfl, p, _, dx, _, rfl, hp, T.cl_Receiver, T.na_Receiver_awaited, len_Receiver, ?_⟩
      rw [put_Receiver_awaited]
      exact k _ (RcAt.set (m' := { m with awaited := some (((pk.seq : Int) + 1) % 65536) }) hp hc hw hh rfl rfl rfl) (calm_upd hp loud_rec)
theorem ok_Receiver_receive (T : Txt K mg t) : FnOk P w K mg base CX0 5 t.f_Receiver_receive t.fd_Receiver_receive ["self", "octets", "arrival"] (sp_Receiver_receive t K) := by
  refine T.fn_Receiver_receive.ok sc_Receiver_receive (fun vs H Q E h => ?_) (fun cdv A outer s H vs Q E hr h => ?_)
  · obtain ⟨p, o, b, arr, m, Z, rfl, _⟩ := h
    rfl
  · obtain ⟨p, o, b, arr, m, Z, rfl, hZ, hR, hB, hS, hb, k⟩ := h
    refine ⟨_, (pss_cons (ps_set (i := 3) sc_Receiver_receive.nd rfl (Or.inl rfl) (pe_call (ok_read_packet T) (hr.mono (by decide)) rfl T.mg_read_packet T.fn_read_packet.kp T.b_read_packet .nil pass0 (pa_cons (pv 1) pa_nil)))
      (pss_cons (ps_if (pt_cmp (pc_isN (pv 3))) (pss_one (ps_ret (pe_gl T.g_NO_PACKET rfl))) pss_nil)
      (pss_cons (ps_if (pt_cmp (pc_isN (pe_fld (pv 0) rfl))) (pss_one (ps_fld (pv 0) (pe_fld (pv 3) rfl) rfl)) pss_nil)
      (pss_cons (ps_if (pt_cmpR op_ne (pe_fld (pv 3) rfl) (pe_fld (pv 0) rfl) (nomark _)) (pss_one (ps_ret (pe_gl T.g_OTHER_SOURCE rfl))) pss_nil)
      (pss_cons (ps_set (i := 4) sc_Receiver_receive.nd rfl (Or.inl rfl) (pe_call (ok_way_of T) (hr.mono (by decide)) rfl T.mg_way_of T.fn_way_of.kp T.b_way_of .nil pass0 (pa_cons (pv 2) (pa_cons (pe_fld (pv 3) rfl) pa_nil))))
      (pss_cons (ps_if (pt_cmp (pc_isN (pe_fld (pv 0) rfl))) (pss_one (ps_ret (pe_meth (pv 0) T.cl_Receiver T.me_Receiver_doubt (ok_Receiver_doubt T) (hr.mono (by decide)) T.b_Receiver_doubt .nil pass0 (pa_cons (pv 3) (pa_cons (pv 4) pa_nil))))) pss_nil)
      (pss_cons (ps_set (i := 5) sc_Receiver_receive.nd rfl (Or.inl rfl) (pe_meth (pe_fld (pv 0) rfl) T.cl_Counting T.me_Counting_whole_number (ok_Counting_whole_number T) (hr.mono (by decide)) T.b_Counting_whole_number .nil pass0 (pa_cons (pe_fld (pv 3) rfl) pa_nil)))
      (pss_cons (ps_if (pt_cmp (pc_isN (pv 5))) (pss_one (ps_ret (pe_meth (pv 0) T.cl_Receiver T.me_Receiver_doubt (ok_Receiver_doubt T) (hr.mono (by decide)) T.b_Receiver_doubt .nil pass0 (pa_cons (pv 3) (pa_cons (pv 4) pa_nil))))) pss_nil)
      (pss_cons (ps_expr (pe_meth (pe_fld (pv 0) rfl) T.cl_Counting T.me_Counting_add_packet (ok_Counting_add_packet T) (hr.mono (by decide)) T.b_Counting_add_packet .nil pass0 (pa_cons (pv 5) (pa_cons (pv 4) pa_nil))))
      (pss_one (ps_ret (pe_meth (pv 0) T.cl_Receiver T.me_Receiver_keep_counted (ok_Receiver_keep_counted T) (hr.mono (by decide)) T.b_Receiver_keep_counted .nil pass0 (pa_cons (pv 5) (pa_cons (pv 3) pa_nil)))))))))))))), ?_⟩
    -- packet = read_packet(octets)
    refine ⟨_, rfl, o, b, rfl, hS, hb, fun r H1 s1 hr1 => ?_⟩
    unfold LP.Rc.receive at k
    have hR1 := hR.same s1
    -- if packet is None: return NO_PACKET
    refine ⟨_, rfl, _, rfl, ?_⟩
    cases hrd : LP.readM b with
    | none =>
      rw [hrd] at k hr1
      cases (show r = .non from hr1)
      exact iteT (k H1 hR1 (Same.calm s1))
    | some pk =>
      rw [hrd] at k hr1
      obtain ⟨a, dy0, l0, rfl, hA1, hA2, hA3⟩ := hr1
      have hA : PkAt t Z H1 a pk := ⟨dy0, l0, hA1, hA2, fun z => hZ l0 z hA3⟩
      refine iteF ?_
      dsimp only at k
      -- if self.source is None: self.source = packet.source
      obtain ⟨dx, vc, vw, vh, hp, hc, hw, hh⟩ := id hR1
      obtain ⟨dy, l, ha, hl, hz⟩ := id hA
      refine ⟨_, rfl, p, _, dx, _, _, rfl, hp, T.cl_Receiver, T.na_Receiver_source, get_Receiver_source, _, rfl, ?_⟩
      rcases hsrc : m.source with _ | z0
      case' none =>
        have en : m.named pk = { m with source := some (pk.source : Int) } := by
          unfold LP.Rc.named
          rw [if_pos hsrc]
        rw [en] at k
        refine iteT ?_
        refine ⟨_, rfl, a, _, dy, _, _, rfl, ha, T.cl_Packet, T.na_Packet_source, get_Packet_source, _, rfl, p, _, dx, _, rfl, hp, T.cl_Receiver, T.na_Receiver_source, len_Receiver, ?_⟩
        rw [put_Receiver_source]
        have c1 : ∀ u, Calm H1 (upd H1 p u) := fun u => calm_upd hp loud_rec
        obtain ⟨m2, em2⟩ : ∃ m2 : LP.Rc, m2 = { m with source := some (pk.source : Int) } := ⟨_, rfl⟩
        have hR2 := RcAt.set (m' := m2) hp hc hw hh (by rw [em2]) (by rw [em2]) (by rw [em2])
        have hB2 : Both m2 := by rw [em2]; exact hB
        have hAx := hA.calm (c1 (.ins t.c_Receiver dx (fsR m2 vc vw vh)))
        have k2 := fun H' r (c : Calm (upd H1 p (.ins t.c_Receiver dx (fsR m2 vc vw vh))) H') => k H' r ((Same.calm s1).trans ((c1 _).trans c))
        rw [← em2] at k2
        have eH : (HO.ins t.c_Receiver dx (fs_Receiver (.int m.own) (.int m.depth) (.int (pk.source : Int)) (vO m.awaited) vc vw vh)) = .ins t.c_Receiver dx (fsR m2 vc vw vh) := by rw [em2]; rfl
        rw [eH]
      case' some =>
        have en : m.named pk = m := by
          unfold LP.Rc.named
          rw [if_neg (by rw [hsrc]; simp)]
        rw [en] at k
        refine iteF ?_
        obtain ⟨m2, em2⟩ : ∃ m2 : LP.Rc, m2 = m := ⟨_, rfl⟩
        have hR2 := hR1
        have hB2 := hB
        have hAx := hA
        have k2 := fun H' r (c : Calm H1 H') => k H' r ((Same.calm s1).trans c)
        rw [← em2] at k2 hR2 hB2
      all_goals
        clear k hR1 hB hA hA1 hA2 hp hc hw hh ha hl hrd en hsrc em2
        obtain ⟨dx2, vc2, vw2, vh2, hp2, hc2, hw2, hh2⟩ := id hR2
        obtain ⟨dy2, l2, ha2, hl2, hz2⟩ := id hAx
        -- if packet.source != self.source: return OTHER_SOURCE
        refine ⟨_, rfl, a, _, dy2, _, _, rfl, ha2, T.cl_Packet, T.na_Packet_source, get_Packet_source, _, rfl, p, _, dx2, _, _, rfl, hp2, T.cl_Receiver, T.na_Receiver_source, get_Receiver_source, scal_vO _ _, _, rfl, ?_⟩
        by_cases hs : m2.source = some (pk.source : Int)
        · rw [if_pos hs] at k2
          rw [decide_eq_true (vO_eq.mpr hs)]
          refine iteF ?_
          -- way = way_of(arrival, packet.stamp)
          refine ⟨_, rfl, _, rfl, a, _, dy2, _, _, rfl, ha2, T.cl_Packet, T.na_Packet_stamp, get_Packet_stamp, _, _, rfl, ?_⟩
          -- if self.counting is None: return self.doubt(packet, way)
          refine ⟨_, rfl, p, _, dx2, _, _, rfl, hp2, T.cl_Receiver, T.na_Receiver_counting, get_Receiver_counting, _, rfl, ?_⟩
          unfold LP.Rc.hear at k2
          rcases hB2 with ⟨hc0, hw0⟩ | ⟨c, x, hc0, hw0⟩
          · rw [hc0] at hc2
            cases (show vc2 = .non from hc2)
            simp only [hc0] at k2
            refine iteT ?_
            exact ⟨_, rfl, p, dx2, _, rfl, hp2, no_Receiver_doubt, _, rfl, _, rfl, p, a, _, pk, m2, Z, rfl, hR2, hAx, fun H3 r3 c3 => k2 H3 r3 c3⟩
          · rw [hc0] at hc2
            obtain ⟨q, dq, rfl, hq⟩ := hc2
            simp only [hc0, hw0] at k2
            refine iteF ?_
            -- whole = self.counting.whole_number(packet.number)
            refine ⟨_, rfl, p, _, dx2, _, _, rfl, hp2, T.cl_Receiver, T.na_Receiver_counting, get_Receiver_counting, q, dq, _, rfl, hq, no_Counting_whole_number, _, rfl, a, _, dy2, _, _, rfl, ha2, T.cl_Packet, T.na_Packet_number, get_Packet_number, q, dq, c, _, rfl, hq, ?_⟩
            -- if whole is None: return self.doubt(packet, way)
            refine ⟨_, rfl, _, rfl, ?_⟩
            cases hz : LP.wholeM c.greatest (pk.seq : Int) with
            | none =>
              simp only [hz] at k2
              refine iteT ?_
              exact ⟨_, rfl, p, dx2, _, rfl, hp2, no_Receiver_doubt, _, rfl, _, rfl, p, a, _, pk, m2, Z, rfl, hR2, hAx, fun H3 r3 c3 => k2 H3 r3 c3⟩
            | some z =>
              simp only [hz] at k2
              refine iteF ?_
              have npq : p ≠ q := ne_keys hp2 hq (by exact kRC)
              -- self.counting.add_packet(whole, way)
              refine ⟨_, rfl, p, _, dx2, _, _, rfl, hp2, T.cl_Receiver, T.na_Receiver_counting, get_Receiver_counting, q, dq, _, rfl, hq, no_Counting_add_packet, _, rfl, _, rfl, q, dq, c, z, _, rfl, hq, ?_⟩
              -- return self.keep_counted(whole, packet)
              have c3 := fun (u : HO) => calm_upd (u := u) hq loud_cnt
              have hp3 := fun (u : HO) => (show (upd _ q u) p = some _ by rw [upd_ne npq]; exact hp2)
              refine ⟨_, rfl, p, dx2, _, rfl, hp3 _, no_Receiver_keep_counted, _, rfl, _, rfl, p, a, z, pk, { m2 with counting := some (c.add z (LP.wayM arr pk.time)) }, x, Z, rfl, ?_, hw0, hAx.calm (c3 _), fun H4 r4 c4 => k2 H4 r4 ((c3 _).trans c4)⟩
              refine ⟨dx2, .ref q, vw2, vh2, hp3 _, ⟨q, dq, rfl, upd_same⟩, hw2.keep (fun b C dz fs hb e => ?_) (fun b kvs hb => ?_) (c3 _), hh2.keep fun b C dz fs hb e => by rw [upd_ne (ne_keys hb hq (by rw [e]; exact kCH.symm))]; exact hb⟩
              · rw [upd_ne (ne_keys hb hq (by rw [e]; exact kCW.symm))]
                exact hb
              · rw [upd_ne (ne_of hb hq (by intro z; cases z))]
                exact hb
        · rw [if_neg hs] at k2
          rw [decide_eq_false (fun z => hs (vO_eq.mp z))]
          refine iteT ?_
          exact k2 _ hR2 (Calm.refl _)
end
end My
namespace My
open PySem L2
/-! ### taking -/
/-- no thing that stays stands there -/
def Fresh (H : Hp) (r : Addr) : Prop := ∀ o, H r = some o → ¬ Quiet o
theorem fresh_of {H : Hp} {r : Addr} (h : H r = none) : Fresh H r := fun o e => by rw [h] at e; cases e
theorem Fresh.back {H H' : Hp} {r : Addr} (c : Calm H H') (h : Fresh H' r) : Fresh H r := fun o e q => h o (c r o e q) q
theorem Fresh.ne {H : Hp} {r b : Addr} {o : HO} (h : Fresh H r) (e : H b = some o) (q : Quiet o) : b ≠ r := fun z => h o (by rw [← z]; exact e) q
def sp_taken (t : Adr) : Sp := fun vs H Q _ => ∃ (a : Addr) (z : Int) (pk : Ql48.Packet), vs = [.int z, .ref a] ∧ PkAt t No H a pk ∧ pk.load.length ≤ 1472 ∧ ∀ r H', Same H H' → H r = none → H' r = some (.lst (iL (LP.tell z pk))) → Q (.ref r) H'
def Loads (m : LP.Rc) : Prop := ∀ x, m.waiting = some x → ∀ k ∈ x.kept, k.2.load.length ≤ 1472
def sp_Receiver_take (t : Adr) : Sp := fun vs H Q _ => ∃ (p : Addr) (most : Int) (m : LP.Rc) (Z : Addr → Prop), vs = [.ref p, .int most] ∧ RcAt t Z H p m ∧ Loads m ∧
  ∀ r H', RcAt t Z H' p (m.take most).1 → Fresh H r → H' r = some (.lst (iL (m.take most).2)) → Calm H H' → Q (.ref r) H'
section
variable {P : Program} {w : World} {K : PySem.W.Frag} {mg : Str → Option Value} {base : Heap} {t : Adr}
theorem ok_taken (T : Txt K mg t) : FnOk P w K mg base CX0 1 t.f_taken t.fd_taken ["whole", "packet"] (sp_taken t) := by
  refine T.fn_taken.ok sc_taken (fun vs H Q E h => ?_) (fun cdv A outer s H vs Q E hr h => ?_)
  · obtain ⟨a, z, pk, rfl, _⟩ := h
    rfl
  · obtain ⟨a, z, pk, rfl, ⟨dy, l, ha, hl, _⟩, hlen, k⟩ := h
    have hL : (bV pk.load).length = pk.load.length := List.length_map _
    have sz : 4000 ≤ sizeLine := by decide
    refine ⟨_, (pss_cons (ps_set (i := 2) sc_taken.nd rfl (Or.inl rfl) (pe_lst (pa_cons (pe_op op_mod (pv 0) (pe_gl T.g_FOUR_BYTES rfl)) (pa_cons (pe_fld (pv 1) rfl) (pa_cons (pe_fld (pv 1) rfl) (pa_cons (pe_fld (pv 1) rfl) pa_nil))))))
      (pss_one (ps_ret (pe_op op_cat (pe_op op_cat (pe_lst (pa_cons (pe_callB call_len_seq rfl T.n_len PySem.boot_len (pa_cons (pe_fld (pv 1) rfl) pa_nil)) pa_nil)) (pe_fld (pv 1) rfl)) (pv 2))))), ?_⟩
    -- told = [whole % TOLD_NUMBERS, packet.stamp, packet.kind, packet.mark]
    refine ⟨_, rfl, _, _, rfl, rfl, (by show (0 : Int) < 4294967296; decide), _, rfl, a, _, dy, _, _, rfl, ha, T.cl_Packet, T.na_Packet_stamp, get_Packet_stamp, _, rfl, a, _, dy, _, _, rfl, ha, T.cl_Packet, T.na_Packet_kind, get_Packet_kind, _, rfl, a, _, dy, _, _, rfl, ha, T.cl_Packet, T.na_Packet_mark, get_Packet_mark,
      (by show 4 ≤ sizeLine; decide), fun l1 h1 => ?_⟩
    have s1 := fun (u : HO) => same_new (o := u) h1
    -- return [len(packet.carried)] + packet.carried + told
    refine ⟨_, rfl, a, _, dy, _, _, rfl, s1 _ _ _ ha, T.cl_Packet, T.na_Packet_carried, get_Packet_carried, l, _, rfl, .inl (SqL.of (s1 _ _ _ hl)), (by show 1 ≤ sizeLine; decide), fun l2 h2 => ?_⟩
    have s2 := fun (u : HO) => same_new (o := u) h2
    refine ⟨_, rfl, a, _, dy, _, _, rfl, s2 _ _ _ (s1 _ _ _ ha), T.cl_Packet, T.na_Packet_carried, get_Packet_carried, l2, l, _, _, rfl, rfl, upd_same, s2 _ _ _ (s1 _ _ _ hl), (by simp; omega), fun l3 h3 => ?_⟩
    have s3 := fun (u : HO) => same_new (o := u) h3
    refine ⟨_, rfl, l3, l1, _, _, rfl, rfl, upd_same, s3 _ _ _ (s2 _ _ _ upd_same), (by simp; omega), fun l4 h4 => ?_⟩
    have s4 := fun (u : HO) => same_new (o := u) h4
    refine k l4 _ ((s1 _).trans ((s2 _).trans ((s3 _).trans (s4 _)))) (((s1 _).trans ((s2 _).trans (s3 _))).free h4) ?_
    rw [upd_same]
    congr 2
    unfold LP.tell
    rw [bV_iL]
    simp
theorem ok_Receiver_take (T : Txt K mg t) : FnOk P w K mg base CX0 2 t.f_Receiver_take t.fd_Receiver_take ["self", "most"] (sp_Receiver_take t) := by
  refine T.fn_Receiver_take.ok sc_Receiver_take (fun vs H Q E h => ?_) (fun cdv A outer s H vs Q E hr h => ?_)
  · obtain ⟨p, most, m, Z, rfl, _⟩ := h
    rfl
  · obtain ⟨p, most, m, Z, rfl, hR, hLd, k⟩ := h
    obtain ⟨dx, vc, vw, vh, hp, hc, hw, hh⟩ := id hR
    unfold LP.Rc.take at k
    refine ⟨_, (pss_cons (ps_if (pt_cmpR op_lt (pv 1) (pe_gl T.g_MOST_CARRIED rfl) (nomark _)) (pss_one (ps_ret (pe_lst (pa_cons (pe_gl T.g_MOST_TOO_SMALL rfl) pa_nil)))) pss_nil)
      (pss_cons (ps_if (pt_cmp (pc_isN (pe_fld (pv 0) rfl))) (pss_one (ps_ret (pe_lst (pa_cons (pe_gl T.g_NOT_THERE_YET rfl) pa_nil)))) pss_nil)
      (pss_cons (ps_if (pt_val (pe_meth0 (pe_fld (pv 0) rfl) T.cl_Waiting T.me_Waiting_due_waits (ok_Waiting_due_waits T) (hr.mono (by decide)) T.b_Waiting_due_waits .nil pass0)) (pss_cons (ps_set (i := 2) sc_Receiver_take.nd rfl (Or.inl rfl) (pe_fld (pe_fld (pv 0) rfl) rfl))
      (pss_one (ps_ret (pe_call (ok_taken T) (hr.mono (by decide)) rfl T.mg_taken T.fn_taken.kp T.b_taken .nil pass0 (pa_cons (pv 2) (pa_cons (pe_meth0 (pe_fld (pv 0) rfl) T.cl_Waiting T.me_Waiting_take_due (ok_Waiting_take_due T) (hr.mono (by decide)) T.b_Waiting_take_due .nil pass0) pa_nil)))))) pss_nil)
      (pss_cons (ps_if (pt_cmpR op_ge (pe_meth0 (pe_fld (pv 0) rfl) T.cl_Waiting T.me_Waiting_how_many (ok_Waiting_how_many T) (hr.mono (by decide)) T.b_Waiting_how_many .nil pass0) (pe_fld (pv 0) rfl) (nomark _)) (pss_cons (ps_expr (pe_meth0 (pe_fld (pv 0) rfl) T.cl_Waiting T.me_Waiting_give_up_due (ok_Waiting_give_up_due T) (hr.mono (by decide)) T.b_Waiting_give_up_due .nil pass0))
      (pss_one (ps_ret (pe_lst (pa_cons (pe_gl T.g_LOST rfl) pa_nil))))) pss_nil)
      (pss_one (ps_ret (pe_lst (pa_cons (pe_gl T.g_NOT_THERE_YET rfl) pa_nil)))))))), ?_⟩
    -- if most < MOST_CARRIED: return [MOST_TOO_SMALL]
    refine ⟨_, rfl, _, _, rfl, rfl, _, rfl, ?_⟩
    refine ite2 (fun h1 => ?_) (fun h1 => ?_)
    · rw [if_pos (of_decide_eq_true h1)] at k
      exact ⟨(by show 1 ≤ sizeLine; decide), fun r hr0 => k r _ (hR.same (same_new hr0)) (fresh_of hr0) upd_same (Same.calm (same_new hr0))⟩
    rw [if_neg (fun z => h1 (decide_eq_true z))] at k
    -- if self.waiting is None: return [NOT_THERE_YET]
    refine ⟨_, rfl, p, _, dx, _, _, rfl, hp, T.cl_Receiver, T.na_Receiver_waiting, get_Receiver_waiting, _, rfl, ?_⟩
    cases hx : m.waiting with
    | none =>
      rw [hx] at hw
      cases (show vw = .non from hw)
      simp only [hx] at k
      exact iteT ⟨(by show 1 ≤ sizeLine; decide), fun r hr0 => k r _ (hR.same (same_new hr0)) (fresh_of hr0) upd_same (Same.calm (same_new hr0))⟩
    | some x =>
      rw [hx] at hw
      obtain ⟨q, dq, d, kvs, rfl, hq, hd, hk, h64⟩ := hw
      simp only [hx] at k
      have npq : p ≠ q := ne_keys hp hq (by exact kRW)
      have npd : p ≠ d := ne_of hp hd (by intro z; cases z)
      have nqd : q ≠ d := ne_of hq hd (by intro z; cases z)
      refine iteF ?_
      -- if self.waiting.due_waits()
      refine ⟨_, rfl, p, _, dx, _, _, rfl, hp, T.cl_Receiver, T.na_Receiver_waiting, get_Receiver_waiting, q, dq, _, rfl, hq, no_Waiting_due_waits, q, dq, d, x.due, kvs, rfl, hq, hd, _, rfl, ?_⟩
      rcases hk.val x.due with ⟨e1, e2⟩ | ⟨pk, a, e1, e2, hA⟩
      · rw [e2]
        refine iteF ?_
        rw [show x.at_ x.due = none from e1] at k
        dsimp only at k
        -- if self.waiting.how_many() >= self.depth
        refine ⟨_, rfl, p, _, dx, _, _, rfl, hp, T.cl_Receiver, T.na_Receiver_waiting, get_Receiver_waiting, q, dq, _, rfl, hq, no_Waiting_how_many, q, dq, d, x.due, kvs, rfl, hq, hd, _, rfl, p, _, dx, _, _, rfl, hp, T.cl_Receiver, T.na_Receiver_depth, get_Receiver_depth, _, _, rfl, rfl, _, rfl, ?_⟩
        rw [← hk.length] at k
        refine ite2 (fun h2 => ?_) (fun h2 => ?_)
        · rw [if_pos (of_decide_eq_true h2)] at k
          -- self.waiting.give_up_due(); return [LOST]
          refine ⟨_, rfl, p, _, dx, _, _, rfl, hp, T.cl_Receiver, T.na_Receiver_waiting, get_Receiver_waiting, q, dq, _, rfl, hq, no_Waiting_give_up_due, q, dq, d, x.due, rfl, hq, ?_⟩
          refine ⟨(by show 1 ≤ sizeLine; decide), fun r hr0 => ?_⟩
          have c1 : Calm H (upd H q (.ins t.c_Waiting dq (fsW (x.due + 1) d))) := calm_upd hq loud_wt
          have s2 := same_new (o := .lst [.int (-2)]) hr0
          have hR2 : RcAt t Z (upd H q (.ins t.c_Waiting dq (fsW (x.due + 1) d))) p { m with waiting := some ⟨x.due + 1, x.kept⟩ } :=
            ⟨dx, vc, .ref q, vh, by rw [upd_ne npq]; exact hp, hc.keep (fun b C dz fs hb e => by rw [upd_ne (ne_keys hb hq (by rw [e]; exact kCW))]; exact hb), ⟨q, dq, d, kvs, rfl, upd_same, by rw [upd_ne nqd.symm]; exact hd, hk.mono fun _ _ h => h.calm c1, h64⟩, hh.keep (fun b C dz fs hb e => by rw [upd_ne (ne_keys hb hq (by rw [e]; exact kWH.symm))]; exact hb)⟩
          exact k r _ (hR2.same s2) ((fresh_of hr0).back c1) upd_same (c1.trans (Same.calm s2))
        · rw [if_neg (fun z => h2 (decide_eq_true z))] at k
          exact ⟨(by show 1 ≤ sizeLine; decide), fun r hr0 => k r _ (hR.same (same_new hr0)) (fresh_of hr0) upd_same (Same.calm (same_new hr0))⟩
      · rw [e2]
        refine iteT ?_
        rw [show x.at_ x.due = some pk from e1] at k
        dsimp only at k
        have hload : pk.load.length ≤ 1472 := by
          cases hf : x.kept.find? (fun k => decide (k.1 = x.due)) with
          | none => rw [hf] at e1; cases e1
          | some y =>
            rw [hf] at e1
            have := hLd x hx y (List.mem_of_find?_eq_some hf)
            rw [show y.2 = pk from Option.some.inj e1] at this
            exact this
        -- whole = self.waiting.due
        refine ⟨_, rfl, p, _, dx, _, _, rfl, hp, T.cl_Receiver, T.na_Receiver_waiting, get_Receiver_waiting, q, _, dq, _, _, rfl, hq, T.cl_Waiting, T.na_Waiting_due, get_Waiting_due, ?_⟩
        -- return taken(whole, self.waiting.take_due())
        have c1 : Calm H (upd (upd H d (.dK (dropK kvs (kI x.due)))) q (.ins t.c_Waiting dq (fsW (x.due + 1) d))) := (calm_upd hd (fun h => h)).trans (calm_upd (o := .ins t.c_Waiting dq (fsW x.due d)) (by rw [upd_ne nqd]; exact hq) loud_wt)
        refine ⟨_, rfl, _, rfl, p, _, dx, _, _, rfl, hp, T.cl_Receiver, T.na_Receiver_waiting, get_Receiver_waiting, q, dq, _, rfl, hq, no_Waiting_take_due, q, dq, d, x.due, kvs, .ref a, rfl, hq, hd, e2, a, x.due, pk, rfl, (hA.calm c1).any, hload, fun r H2 s2 hr0 hr2 => ?_⟩
        have hR2 : RcAt t Z (upd (upd H d (.dK (dropK kvs (kI x.due)))) q (.ins t.c_Waiting dq (fsW (x.due + 1) d))) p { m with waiting := some ⟨x.due + 1, x.without x.due⟩ } :=
          ⟨dx, vc, .ref q, vh, by rw [upd_ne npq, upd_ne npd]; exact hp, hc.keep (fun b C dz fs hb e => by rw [upd_ne (ne_keys hb hq (by rw [e]; exact kCW)), upd_ne (ne_of hb hd (by intro z; cases z))]; exact hb), ⟨q, dq, d, _, rfl, upd_same, by rw [upd_ne nqd.symm]; exact upd_same, (hk.drop x.due).mono fun _ _ h => h.calm c1,
            Nat.le_trans (List.length_filter_le _ _) h64⟩, hh.keep (fun b C dz fs hb e => by rw [upd_ne (ne_keys hb hq (by rw [e]; exact kWH.symm)), upd_ne (ne_of hb hd (by intro z; cases z))]; exact hb)⟩
        exact k r _ (hR2.same s2) ((fresh_of hr0).back c1) hr2 (c1.trans (Same.calm s2))
end
end My
namespace My
open PySem L2
/-! ### the receiver's report, what it hears, what it tells -/
def sp_Receiver_report_block (t : Adr) : Sp := fun vs H Q _ => ∃ (p : Addr) (now : Int) (m : LP.Rc) (Z : Addr → Prop), vs = [.ref p, .int now] ∧ RcAt t Z H p m ∧ LP.RcOk m ∧
  ∀ r H', RcAt t Z H' p m.rep → Fresh H r → H' r = some (.lst (iL (m.blk now))) → Calm H H' → Q (.ref r) H'
def sp_Receiver_report (t : Adr) : Sp := fun vs H Q _ => ∃ (p : Addr) (now : Int) (m : LP.Rc) (Z : Addr → Prop), vs = [.ref p, .int now] ∧ RcAt t Z H p m ∧ LP.RcOk m ∧
  ∀ r H', RcAt t Z H' p (m.report now).1 → Fresh H r → H' r = some (.lst (iL (m.report now).2)) → Calm H H' → Q (.ref r) H'
def sp_Receiver_hear (t : Adr) (K : PySem.W.Frag) : Sp := fun vs H Q _ => ∃ (p o : Addr) (b : List Nat) (now : Int) (m : LP.Rc) (Z : Addr → Prop), vs = [.ref p, .ref o, .int now] ∧ RcAt t Z H p m ∧ SqL K H o (bV b) ∧ By b ∧
  ∀ H', RcAt t Z H' p (m.heard b now).1 → Calm H H' → Q (.int (m.heard b now).2) H'
def sp_Receiver_told_counts (t : Adr) : Sp := fun vs H Q _ => ∃ (p : Addr) (m : LP.Rc) (Z : Addr → Prop), vs = [.ref p] ∧ RcAt t Z H p m ∧ Both m ∧ NewL H Q m.counts
def sp_Receiver_tell (t : Adr) : Sp := fun vs H Q _ => ∃ (p : Addr) (m : LP.Rc) (Z : Addr → Prop), vs = [.ref p] ∧ RcAt t Z H p m ∧ Both m ∧ NewL H Q m.tell
section
variable {P : Program} {w : World} {K : PySem.W.Frag} {mg : Str → Option Value} {base : Heap} {t : Adr}
theorem ok_Receiver_report_block (T : Txt K mg t) : FnOk P w K mg base CX0 5 t.f_Receiver_report_block t.fd_Receiver_report_block ["self", "now"] (sp_Receiver_report_block t) := by
  refine T.fn_Receiver_report_block.ok sc_Receiver_report_block (fun vs H Q E h => ?_) (fun cdv A outer s H vs Q E hr h => ?_)
  · obtain ⟨p, now, m, Z, rfl, _⟩ := h
    rfl
  · obtain ⟨p, now, m, Z, rfl, hR, hOk, k⟩ := h
    obtain ⟨dx, vc, vw, vh, hp, hc, hw, hh⟩ := id hR
    unfold LP.Rc.rep LP.Rc.blk at k
    refine ⟨_, (pss_cons (ps_if (pt_cmp (pc_isN (pe_fld (pv 0) rfl))) (pss_one (ps_ret (pe_lst pa_nil))) pss_nil)
      (pss_cons (ps_set (i := 2) sc_Receiver_report_block.nd rfl (Or.inl rfl) (pe_call (ok_write_block T) (hr.mono (by decide)) rfl T.mg_write_block T.fn_write_block.kp T.b_write_block .nil pass0 (pa_cons (pe_fld (pv 0) rfl) (pa_cons (pe_fld (pv 0) rfl) (pa_cons (pe_fld (pv 0) rfl) (pa_cons (pv 1) pa_nil))))))
      (pss_cons (ps_expr (pe_meth0 (pe_fld (pv 0) rfl) T.cl_Counting T.me_Counting_note_told (ok_Counting_note_told T) (hr.mono (by decide)) T.b_Counting_note_told .nil pass0))
      (pss_one (ps_ret (pv 2)))))), ?_⟩
    -- if self.counting is None: return []
    refine ⟨_, rfl, p, _, dx, _, _, rfl, hp, T.cl_Receiver, T.na_Receiver_counting, get_Receiver_counting, _, rfl, ?_⟩
    cases hx : m.counting with
    | none =>
      rw [hx] at hc
      cases (show vc = .non from hc)
      simp only [hx] at k
      exact iteT ⟨Nat.zero_le _, fun r n => k r _ (hR.same (same_new n)) (fresh_of n) upd_same (Same.calm (same_new n))⟩
    | some c =>
      rw [hx] at hc
      obtain ⟨q, dq, rfl, hq⟩ := hc
      obtain ⟨a, da, rfl, ha⟩ := hh
      obtain ⟨src, hsrc⟩ := hOk.src c hx
      simp only [hx] at k
      rw [show m.source.getD 0 = src by rw [hsrc]; rfl] at k
      refine iteF ?_
      -- block = write_block(self.source, self.counting, self.hearing, now)
      refine ⟨_, rfl, p, _, dx, _, _, rfl, hp, T.cl_Receiver, T.na_Receiver_source, get_Receiver_source, _, rfl, p, _, dx, _, _, rfl, hp, T.cl_Receiver, T.na_Receiver_counting, get_Receiver_counting, _, rfl, p, _, dx, _, _, rfl, hp, T.cl_Receiver, T.na_Receiver_hearing, get_Receiver_hearing, _, rfl, q, dq, a, da, src, now, c, m.hearing, by rw [hsrc]; rfl, hq, ha, hOk.cnt c hx, fun r1 H1 s1 n1 h1 => ?_⟩
      -- self.counting.note_told()
      refine ⟨_, rfl, p, _, dx, _, _, rfl, s1 _ _ hp, T.cl_Receiver, T.na_Receiver_counting, get_Receiver_counting, q, dq, _, rfl, s1 _ _ hq, no_Counting_note_told, q, dq, c, rfl, s1 _ _ hq, ?_⟩
      -- return block
      refine ⟨_, rfl, ?_⟩
      have hq1 := s1 _ _ hq
      have c1 : Calm H1 (upd H1 q (oCnt t dq c.noted)) := calm_upd hq1 loud_cnt
      refine k r1 _ ⟨dx, .ref q, vw, .ref a, ?_, ⟨q, dq, rfl, upd_same⟩, ?_, ?_⟩ (fresh_of n1) ?_ ((Same.calm s1).trans c1)
      · rw [upd_ne (ne_keys (s1 _ _ hp) hq1 (by exact kRC))]
        exact s1 _ _ hp
      · exact (hw.keep (fun b C dz fs hb _ => s1 _ _ hb) (fun b kvs hb => s1 _ _ hb) (Same.calm s1)).keep (fun b C dz fs hb e => by rw [upd_ne (ne_keys hb hq1 (by rw [e]; exact kCW.symm))]; exact hb) (fun b kvs hb => by rw [upd_ne (ne_of hb hq1 (by intro z; cases z))]; exact hb) c1
      · exact ⟨a, da, rfl, by rw [upd_ne (ne_keys (s1 _ _ ha) hq1 (by exact kCH.symm))]; exact s1 _ _ ha⟩
      · rw [upd_ne (ne_of h1 hq1 (by intro z; cases z))]
        exact h1
theorem ok_Receiver_report (T : Txt K mg t) : FnOk P w K mg base CX0 6 t.f_Receiver_report t.fd_Receiver_report ["self", "now"] (sp_Receiver_report t) := by
  refine T.fn_Receiver_report.ok sc_Receiver_report (fun vs H Q E h => ?_) (fun cdv A outer s H vs Q E hr h => ?_)
  · obtain ⟨p, now, m, Z, rfl, _⟩ := h
    rfl
  · obtain ⟨p, now, m, Z, rfl, hR, hOk, k⟩ := h
    obtain ⟨dx, vc, vw, vh, hp, hc, hw, hh⟩ := id hR
    have sz : 4000 ≤ sizeLine := by decide
    have hbl := LP.blk_length m now
    have hrl : (LP.reportM m.own (m.blk now)).length ≤ 100 := by
      unfold LP.reportM
      simp only [List.length_append, LP.writeM_length, List.length_cons, List.length_nil]
      omega
    refine ⟨_, (pss_cons (ps_set (i := 2) sc_Receiver_report.nd rfl (Or.inl rfl) (pe_call (ok_write_report T) (hr.mono (by decide)) rfl T.mg_write_report T.fn_write_report.kp T.b_write_report .nil pass0 (pa_cons (pe_fld (pv 0) rfl) (pa_cons (pe_meth (pv 0) T.cl_Receiver T.me_Receiver_report_block (ok_Receiver_report_block T) (hr.mono (by decide)) T.b_Receiver_report_block .nil pass0 (pa_cons (pv 1) pa_nil)) pa_nil))))
      (pss_one (ps_ret (pe_op op_cat (pe_lst (pa_cons (pe_callB call_len_seq rfl T.n_len PySem.boot_len (pa_cons (pv 2) pa_nil)) pa_nil)) (pv 2))))), ?_⟩
    -- octets = write_report(self.own, self.report_block(now))
    refine ⟨_, rfl, p, _, dx, _, _, rfl, hp, T.cl_Receiver, T.na_Receiver_own, get_Receiver_own, _, rfl, p, dx, _, rfl, hp, no_Receiver_report_block, _, rfl, p, now, m, Z, rfl, hR, hOk, fun r1 H1 R1 f1 h1 c1 => ?_⟩
    refine ⟨r1, m.own, m.blk now, rfl, h1, by omega, fun r2 H2 s2 n2 h2 => ?_⟩
    -- return [len(octets)] + octets
    refine ⟨_, rfl, r2, _, rfl, .inl (SqL.of h2), (by show 1 ≤ sizeLine; decide), fun r3 n3 => ?_⟩
    refine ⟨_, rfl, r3, r2, _, _, rfl, rfl, upd_same, same_new n3 _ _ h2, by simp; omega, fun r4 n4 => ?_⟩
    have s4 := fun (u : HO) => s2.trans ((same_new n3).trans (same_new (o := u) n4))
    have n14 : H1 r4 = none := s2.free ((same_new n3).free n4)
    refine k r4 _ (R1.same (s4 _)) ((fresh_of n14).back c1) ?_ (c1.trans (Same.calm (s4 _)))
    rw [upd_same]
    unfold LP.Rc.report
    simp
theorem ok_Receiver_hear (T : Txt K mg t) : FnOk P w K mg base CX0 6 t.f_Receiver_hear t.fd_Receiver_hear ["self", "octets", "now"] (sp_Receiver_hear t K) := by
  refine T.fn_Receiver_hear.ok sc_Receiver_hear (fun vs H Q E h => ?_) (fun cdv A outer s H vs Q E hr h => ?_)
  · obtain ⟨p, o, b, now, m, Z, rfl, _⟩ := h
    rfl
  · obtain ⟨p, o, b, now, m, Z, rfl, hR, hS, hb, k⟩ := h
    refine ⟨_, (pss_cons (ps_set (i := 3) sc_Receiver_hear.nd rfl (Or.inl rfl) (pe_call (ok_read_parts T) (hr.mono (by decide)) rfl T.mg_read_parts T.fn_read_parts.kp T.b_read_parts .nil pass0 (pa_cons (pv 1) pa_nil)))
      (pss_cons (ps_if (pt_cmp (pc_isN (pv 3))) (pss_one (ps_ret (pe_gl T.g_PARTS_NOT_RIGHT rfl))) pss_nil)
      (pss_cons (ps_if (pt_cmp (pc_notN (pe_fld (pv 0) rfl))) (pss_one (ps_for PassesOwn.never rfl (pi_list (pv 3)) (pg_name (i := 4) sc_Receiver_hear.nd rfl (Or.inl rfl)) (pss_one (ps_expr (pe_meth (pe_fld (pv 0) rfl) T.cl_Hearing T.me_Hearing_note_part (ok_Hearing_note_part T) (hr.mono (by decide)) T.b_Hearing_note_part .nil pass0 (pa_cons (pv 4) (pa_cons (pe_fld (pv 0) rfl) (pa_cons (pv 2) pa_nil)))))))) pss_nil)
      (pss_one (ps_ret (pe_callB call_len_seq rfl T.n_len PySem.boot_len (pa_cons (pv 3) pa_nil))))))), ?_⟩
    -- parts = read_parts(octets)
    refine ⟨_, rfl, o, b, rfl, hS, hb, fun r H1 s1 hr1 => ?_⟩
    have hR1 := hR.same s1
    unfold LP.Rc.heard at k
    -- if parts is None: return PARTS_NOT_RIGHT
    refine ⟨_, rfl, _, rfl, ?_⟩
    cases hps : LP.partsM b with
    | none =>
      rw [hps] at hr1 k
      cases (show r = .non from hr1)
      exact iteT (k H1 hR1 (Same.calm s1))
    | some ps =>
      rw [hps] at hr1 k
      obtain ⟨l, rs, rfl, hl, hP⟩ := hr1
      have hrl : rs.length = ps.length := hP.length
      refine iteF ?_
      dsimp only at k
      obtain ⟨dx, vc, vw, vh, hp, hc, hw, hh⟩ := id hR1
      -- if self.source is not None
      refine ⟨_, rfl, p, _, dx, _, _, rfl, hp, T.cl_Receiver, T.na_Receiver_source, get_Receiver_source, _, rfl, ?_⟩
      cases hsrc : m.source with
      | none =>
        rw [hsrc] at k
        refine iteF ?_
        -- return len(parts)
        refine ⟨_, rfl, l, _, rfl, .inl (SqL.of hl), ?_⟩
        rw [hrl]
        exact k H1 hR1 (Same.calm s1)
      | some src =>
        have k2 : ∀ H', RcAt t Z H' p { m with hearing := ps.foldl (fun h o => h.note o src now) m.hearing } → Calm H H' → Q (.int (ps.length : Int)) H' := fun H' r c => k H' (by
          split
          · rename_i h
            rw [hsrc] at h
            cases h
          · rename_i s h
            rw [hsrc] at h
            cases h
            exact r) c
        obtain ⟨a, da, rfl, ha⟩ := hh
        refine iteT ?_
        have hp' : H1 p = some (.ins t.c_Receiver dx (fs_Receiver (.int m.own) (.int m.depth) (.int src) (vO m.awaited) vc vw (.ref a))) := by
          rw [hp]
          show some (HO.ins t.c_Receiver dx (fs_Receiver (.int m.own) (.int m.depth) (vO m.source) (vO m.awaited) vc vw (.ref a))) = _
          rw [hsrc]
          rfl
        -- for part in parts: self.hearing.note_part(part, self.source, now)
        refine ⟨_, rfl, l, rfl, ⟨_, SqL.of hl⟩, for_list (K := K) (a := l) (xs := rs) (fun j σ H2 => ∃ v4 : Option V, σ = [some (.ref p), some (.ref o), some (.int now), some (.ref l), v4] ∧ But a H1 H2 ∧ H2 a = some (oHr t da ((ps.take j).foldl (fun h o => h.note o src now) m.hearing)))
          ⟨none, rfl, But.refl a H1, ha⟩ (fun j σ H2 _ ⟨_, _, B, _⟩ => SqL.of (B _ _ hl (ne_of hl ha (by intro z; cases z)))) ?_ ?_⟩
        · rintro j x σ H2 hj ⟨v4, rfl, B, hA2⟩
          obtain ⟨y, op, e, hop, hy⟩ := hP.get hj
          subst e
          have hp2 := B _ _ hp' (ne_keys hp' ha (by exact kRH))
          refine ⟨_, rfl, p, _, dx, _, _, rfl, hp2, T.cl_Receiver, T.na_Receiver_hearing, get_Receiver_hearing, a, da, _, rfl, hA2, no_Hearing_note_part, _, rfl, _, rfl, p, _, dx, _, _, rfl, hp2, T.cl_Receiver, T.na_Receiver_source, get_Receiver_source, _, rfl, a, da, y, op, src, now, _, rfl, hA2, hy.but B ha hr_ne_pt, fun H3 hA3 B3 => ?_⟩
          refine ⟨some (.ref y), rfl, fun c u e n => B3 c u (B c u e n) n, ?_⟩
          rw [hA3, List.take_succ, hop, List.foldl_append]
          rfl
        · rintro σ H2 ⟨v4, rfl, B, hA2⟩
          rw [hrl, List.take_length] at hA2
          -- return len(parts)
          refine ⟨_, rfl, l, _, rfl, .inl (SqL.of (B _ _ hl (ne_of hl ha (by intro z; cases z)))), ?_⟩
          rw [hrl]
          have c2 : Calm H1 H2 := B.calm ha loud_hr
          refine k2 H2 ⟨dx, vc, vw, .ref a, ?_, ?_, ?_, a, da, rfl, hA2⟩ ((Same.calm s1).trans c2)
          · exact B _ _ hp (ne_keys hp ha (by exact kRH))
          · exact hc.keep fun b C dz fs hb e => B _ _ hb (ne_keys hb ha (by rw [e]; exact kCH))
          · exact hw.keep (fun b C dz fs hb e => B _ _ hb (ne_keys hb ha (by rw [e]; exact kWH))) (fun b kvs hb => B _ _ hb (ne_of hb ha (by intro z; cases z))) c2
theorem ok_Receiver_told_counts (T : Txt K mg t) : FnOk P w K mg base CX0 3 t.f_Receiver_told_counts t.fd_Receiver_told_counts ["self"] (sp_Receiver_told_counts t) := by
  refine T.fn_Receiver_told_counts.ok sc_Receiver_told_counts (fun vs H Q E h => ?_) (fun cdv A outer s H vs Q E hr h => ?_)
  · obtain ⟨p, m, Z, rfl, _⟩ := h
    rfl
  · obtain ⟨p, m, Z, rfl, hR, hB, k⟩ := h
    obtain ⟨dx, vc, vw, vh, hp, hc, hw, hh⟩ := id hR
    have sz : 4000 ≤ sizeLine := by decide
    unfold LP.Rc.counts at k
    refine ⟨_, (pss_cons (ps_if (pt_cmp (pc_isN (pe_fld (pv 0) rfl))) (pss_one (ps_ret (pe_lst (pa_cons pe_int (pa_cons pe_int (pa_cons pe_int (pa_cons pe_int (pa_cons pe_int pa_nil)))))))) pss_nil)
      (pss_cons (ps_set (i := 1) sc_Receiver_told_counts.nd rfl (Or.inl rfl) (pe_fld (pv 0) rfl))
      (pss_cons (ps_set (i := 2) sc_Receiver_told_counts.nd rfl (Or.inl rfl) (pe_lst (pa_cons (pe_op op_mod (pe_fld (pv 1) rfl) (pe_gl T.g_FOUR_BYTES rfl)) (pa_cons (pe_op op_mod (pe_fld (pv 1) rfl) (pe_gl T.g_FOUR_BYTES rfl)) (pa_cons (pe_op op_mod (pe_meth0 (pv 1) T.cl_Counting T.me_Counting_how_many_missing (ok_Counting_how_many_missing T) (hr.mono (by decide)) T.b_Counting_how_many_missing .nil pass0) (pe_gl T.g_THREE_BYTES rfl)) pa_nil)))))
      (pss_one (ps_ret (pe_op op_cat (pv 2) (pe_lst (pa_cons (pe_meth0 (pv 1) T.cl_Counting T.me_Counting_told_jitter (ok_Counting_told_jitter T) (hr.mono (by decide)) T.b_Counting_told_jitter .nil pass0) (pa_cons (pe_meth0 (pe_fld (pv 0) rfl) T.cl_Waiting T.me_Waiting_how_many (ok_Waiting_how_many T) (hr.mono (by decide)) T.b_Waiting_how_many .nil pass0) pa_nil))))))))), ?_⟩
    -- if self.counting is None: return [0, 0, 0, 0, 0]
    refine ⟨_, rfl, p, _, dx, _, _, rfl, hp, T.cl_Receiver, T.na_Receiver_counting, get_Receiver_counting, _, rfl, ?_⟩
    rcases hB with ⟨hc0, hw0⟩ | ⟨c, x, hc0, hw0⟩
    · rw [hc0] at hc
      cases (show vc = .non from hc)
      simp only [hc0, hw0] at k
      exact iteT ⟨(by show 5 ≤ sizeLine; decide), fun r n => k r _ (same_new n) n upd_same⟩
    · rw [hc0] at hc
      rw [hw0] at hw
      obtain ⟨q, dq, rfl, hq⟩ := hc
      obtain ⟨y, dy, d, kvs, rfl, hy, hd, hk, h64⟩ := hw
      simp only [hc0, hw0] at k
      refine iteF ?_
      -- counting = self.counting
      refine ⟨_, rfl, p, _, dx, _, _, rfl, hp, T.cl_Receiver, T.na_Receiver_counting, get_Receiver_counting, ?_⟩
      -- told = [counting.greatest % FOUR_BYTES, counting.came % FOUR_BYTES, counting.how_many_missing() % THREE_BYTES]
      refine ⟨_, rfl, q, _, dq, _, _, rfl, hq, T.cl_Counting, T.na_Counting_greatest, get_Counting_greatest, _, _, rfl, rfl, (by show (0 : Int) < 4294967296; decide), _, rfl, q, _, dq, _, _, rfl, hq, T.cl_Counting, T.na_Counting_came, get_Counting_came, _, _, rfl, rfl, (by show (0 : Int) < 4294967296; decide),
        _, rfl, q, dq, _, rfl, hq, no_Counting_how_many_missing, q, dq, c, rfl, hq, _, _, rfl, rfl, (by show (0 : Int) < 16777216; decide), (by show 3 ≤ sizeLine; decide), fun r1 n1 => ?_⟩
      have s1 := fun (u : HO) => same_new (o := u) n1
      -- return told + [counting.told_jitter(), self.waiting.how_many()]
      refine ⟨_, rfl, _, rfl, q, dq, _, rfl, s1 _ _ _ hq, no_Counting_told_jitter, q, dq, c, rfl, s1 _ _ _ hq, _, rfl, p, _, dx, _, _, rfl, s1 _ _ _ hp, T.cl_Receiver, T.na_Receiver_waiting, get_Receiver_waiting, y, dy, _, rfl, s1 _ _ _ hy, no_Waiting_how_many, y, dy, d, x.due, kvs, rfl, s1 _ _ _ hy, s1 _ _ _ hd, (by show 2 ≤ sizeLine; decide), fun r2 n2 => ?_⟩
      have s2 := fun (u : HO) => same_new (o := u) n2
      refine ⟨r1, r2, _, _, rfl, rfl, s2 _ _ _ upd_same, upd_same, by simp; omega, fun r3 n3 => ?_⟩
      refine k r3 _ ((s1 _).trans ((s2 _).trans (same_new n3))) ((s1 _).free ((s2 _).free n3)) ?_
      rw [upd_same, hk.length]
      rfl
theorem ok_Receiver_tell (T : Txt K mg t) : FnOk P w K mg base CX0 4 t.f_Receiver_tell t.fd_Receiver_tell ["self"] (sp_Receiver_tell t) := by
  refine T.fn_Receiver_tell.ok sc_Receiver_tell (fun vs H Q E h => ?_) (fun cdv A outer s H vs Q E hr h => ?_)
  · obtain ⟨p, m, Z, rfl, _⟩ := h
    rfl
  · obtain ⟨p, m, Z, rfl, hR, hB, k⟩ := h
    obtain ⟨dx, vc, vw, vh, hp, hc, hw, a, da, rfl, ha⟩ := id hR
    have sz : 4000 ≤ sizeLine := by decide
    have hcl : m.counts.length = 5 := by
      unfold LP.Rc.counts
      split <;> rfl
    unfold LP.Rc.tell at k
    refine ⟨_, (pss_cons (ps_if (pt_cmp (pc_isN (pe_fld (pv 0) rfl))) (pss_one (ps_ret (pe_lst (pa_cons (pe_gl T.g_NONE_HEARD_OF rfl) pa_nil)))) pss_nil)
      (pss_one (ps_ret (pe_op op_cat (pe_lst (pa_cons (pe_fld (pe_fld (pv 0) rfl) rfl) (pa_cons (pe_fld (pv 0) rfl) pa_nil))) (pe_meth0 (pv 0) T.cl_Receiver T.me_Receiver_told_counts (ok_Receiver_told_counts T) (hr.mono (by decide)) T.b_Receiver_told_counts .nil pass0))))), ?_⟩
    -- if self.source is None: return [NONE_HEARD_OF]
    refine ⟨_, rfl, p, _, dx, _, _, rfl, hp, T.cl_Receiver, T.na_Receiver_source, get_Receiver_source, _, rfl, ?_⟩
    cases hsrc : m.source with
    | none =>
      rw [hsrc] at k
      exact iteT ⟨(by show 1 ≤ sizeLine; decide), fun r n => k r _ (same_new n) n upd_same⟩
    | some src =>
      rw [hsrc] at k
      refine iteF ?_
      -- return [self.hearing.goodbye, self.source] + self.told_counts()
      refine ⟨_, rfl, p, _, dx, _, _, rfl, hp, T.cl_Receiver, T.na_Receiver_hearing, get_Receiver_hearing, a, _, da, _, _, rfl, ha, T.cl_Hearing, T.na_Hearing_goodbye, get_Hearing_goodbye, _, rfl, p, _, dx, _, _, rfl, hp, T.cl_Receiver, T.na_Receiver_source, get_Receiver_source, (by show 2 ≤ sizeLine; decide), fun r1 n1 => ?_⟩
      have s1 := fun (u : HO) => same_new (o := u) n1
      refine ⟨_, rfl, p, dx, _, rfl, s1 _ _ _ hp, no_Receiver_told_counts, p, m, Z, rfl, hR.same (s1 _), hB, fun r2 H2 s2 n2 h2 => ?_⟩
      refine ⟨r1, r2, _, _, rfl, rfl, s2 _ _ upd_same, h2, by simp; omega, fun r3 n3 => ?_⟩
      refine k r3 _ ((s1 _).trans (s2.trans (same_new n3))) ((s1 _).free (s2.free n3)) ?_
      rw [upd_same, hsrc]
      rfl
end
end My
namespace My
open PySem L2
/-! ### the desk -/
def kDk : List Str := keys (fs_Desk .non .non .non)
theorem kDR : kDk ≠ kRec := by decide +kernel
theorem kDC : kDk ≠ kCnt := by decide +kernel
theorem kDW : kDk ≠ kWt := by decide +kernel
theorem kDH : kDk ≠ kHr := by decide +kernel
theorem quiet_dk {C dx : Addr} {a b c : V} : Quiet (.ins C dx (fs_Desk a b c)) := ⟨kDR, kDC, kDW, kDH⟩
abbrev oDk (t : Adr) (dx o : Addr) (i : Nat) (rv : V) : HO := .ins t.c_Desk dx (fs_Desk (.ref o) (.int (i : Int)) rv)
def RvAt (t : Adr) (Z : Addr → Prop) (H : Hp) (rv : V) : Option LP.Rc → Prop
  | none => rv = .non
  | some m => ∃ a, rv = .ref a ∧ RcAt t Z H a m
/-- what stays but the desk itself -/
def CalmD (p : Addr) (H H' : Hp) : Prop := ∀ b o, H b = some o → Quiet o → b ≠ p → H' b = some o
theorem CalmD.refl (p : Addr) (H : Hp) : CalmD p H H := fun _ _ h _ _ => h
theorem CalmD.trans {p : Addr} {H H1 H2 : Hp} (a : CalmD p H H1) (b : CalmD p H1 H2) : CalmD p H H2 := fun c o h q n => b c o (a c o h q n) q n
theorem Calm.d {p : Addr} {H H' : Hp} (c : Calm H H') : CalmD p H H' := fun b o h q _ => c b o h q
theorem But.d {p : Addr} {H H' : Hp} (c : But p H H') : CalmD p H H' := fun b o h _ n => c b o h n
theorem sq_d {K : PySem.W.Frag} {H H' : Hp} {p C dx a : Addr} {fs : List (Str × V)} {xs : List V} (h : H p = some (.ins C dx fs)) (b : CalmD p H H') (s : SqL K H a xs) : SqL K H' a xs := by
  rcases s with (s | ⟨o, s⟩) | s
  · exact .inl (.inl (b a _ s trivial (ne_of s h (by intro z; cases z))))
  · exact .inl (.inr ⟨o, b a _ s trivial (ne_of s h (by intro z; cases z))⟩)
  · exact .inr s
/-- all but an object of another kind: the receiver stays -/
theorem RcAt.but {t : Adr} {Z : Addr → Prop} {H H' : Hp} {p a C dx : Addr} {fs : List (Str × V)} {m : LP.Rc} (hp : H p = some (.ins C dx fs)) (hk : keys fs = kDk) (b : But p H H') (h : RcAt t Z H a m) : RcAt t Z H' a m := by
  obtain ⟨dy, vc, vw, vh, ha, hc, hw, hh⟩ := h
  have hf : ∀ {c C' d' : Addr} {gs : List (Str × V)}, H c = some (.ins C' d' gs) → keys gs ≠ kDk → H' c = some (.ins C' d' gs) := fun {c C' d' gs} e n => b _ _ e (ne_keys e hp (by rw [hk]; exact n))
  refine ⟨dy, vc, vw, vh, hf ha (by exact kDR.symm), hc.keep fun c C' d' gs hb e => hf hb (by rw [e]; exact kDC.symm), ?_, hh.keep fun c C' d' gs hb e => hf hb (by rw [e]; exact kDH.symm)⟩
  cases hx : m.waiting with
  | none => rw [hx] at hw; exact hw
  | some x =>
    rw [hx] at hw
    obtain ⟨q, dq, d, kvs, e, h1, h2, h3, h4⟩ := hw
    refine ⟨q, dq, d, kvs, e, hf h1 (by exact kDW.symm), b _ _ h2 (ne_of h2 hp (by intro z; cases z)), h3.mono fun y pk hy => ?_, h4⟩
    obtain ⟨dz, l, g1, g2, g3⟩ := hy
    refine ⟨dz, l, hf g1 ?_, b _ _ g2 (ne_of g2 hp (by intro z; cases z)), g3⟩
    show (["mark", "kind", "number", "stamp", "source", "carried"] : List Str) ≠ kDk
    decide +kernel
theorem RvAt.but {t : Adr} {Z : Addr → Prop} {H H' : Hp} {p C dx : Addr} {fs : List (Str × V)} {rv : V} {m : Option LP.Rc} (hp : H p = some (.ins C dx fs)) (hk : keys fs = kDk) (b : But p H H') (h : RvAt t Z H rv m) : RvAt t Z H' rv m := by
  cases m with
  | none => exact h
  | some m =>
    obtain ⟨a, e, hR⟩ := h
    exact ⟨a, e, hR.but hp hk b⟩
theorem RvAt.same {t : Adr} {Z : Addr → Prop} {H H' : Hp} {rv : V} {m : Option LP.Rc} (s : Same H H') (h : RvAt t Z H rv m) : RvAt t Z H' rv m := by
  cases m with
  | none => exact h
  | some m =>
    obtain ⟨a, e, hR⟩ := h
    exact ⟨a, e, hR.same s⟩
def DkAt (t : Adr) (K : PySem.W.Frag) (Z : Addr → Prop) (o : Addr) (H : Hp) (p : Addr) (l : List Int) (i : Nat) (m : Option LP.Rc) : Prop := ∃ dx rv, H p = some (oDk t dx o i rv) ∧ SqL K H o (iL l) ∧ RvAt t Z H rv m
def sp_Desk_init (t : Adr) : Sp := fun vs H Q _ => ∃ (p dx o : Addr), vs = [.ref p, .ref o] ∧ H p = some (.ins t.c_Desk dx []) ∧ Q .non (upd H p (oDk t dx o 0 .non))
def sp_Desk_has_more (t : Adr) (K : PySem.W.Frag) : Sp := fun vs H Q _ => ∃ (p dx o : Addr) (rv : V) (l : List Int) (i : Nat), vs = [.ref p] ∧ H p = some (oDk t dx o i rv) ∧ SqL K H o (iL l) ∧ Q (.bl (decide (i < l.length))) H
def sp_Desk_draw (t : Adr) (K : PySem.W.Frag) : Sp := fun vs H Q _ => ∃ (p dx o : Addr) (rv : V) (l : List Int) (i : Nat) (z : Int), vs = [.ref p] ∧ H p = some (oDk t dx o i rv) ∧ SqL K H o (iL l) ∧ l[i]? = some z ∧ Q (.int z) (upd H p (oDk t dx o (i + 1) rv))
def sp_Desk_draw_row (t : Adr) (K : PySem.W.Frag) : Sp := fun vs H Q _ => ∃ (p dx o : Addr) (rv : V) (l : List Int) (i n : Nat), vs = [.ref p] ∧ H p = some (oDk t dx o i rv) ∧ SqL K H o (iL l) ∧ l[i]? = some (n : Int) ∧
  ∀ r H', H' p = some (oDk t dx o (i + 1 + n) rv) → But p H H' → H r = none → H' r = some (.lst (iL ((l.drop (i + 1)).take n))) → Q (.ref r) H'
/-- what an answer leaves -/
def Ans (t : Adr) (K : PySem.W.Frag) (Z : Addr → Prop) (o : Addr) (H : Hp) (Q : VK) (p : Addr) (l : List Int) (j : Nat) (y : Option LP.Rc × List Int) : Prop :=
  ∀ r H', DkAt t K Z o H' p l j y.1 → H' r = some (.lst (iL y.2)) → Fresh H r → CalmD p H H' → Q (.ref r) H'
def sp_Desk_answer_begin (t : Adr) (K : PySem.W.Frag) : Sp := fun vs H Q _ => ∃ (p o : Addr) (Z : Addr → Prop) (l : List Int) (i : Nat) (m : Option LP.Rc) (ow d : Nat), vs = [.ref p] ∧ DkAt t K Z o H p l i m ∧ l[i]? = some (ow : Int) ∧ l[i + 1]? = some (d : Int) ∧ Ans t K Z o H Q p l (i + 2) (LP.stepM m (.begin_ ow d))
def sp_Desk_answer_receive (t : Adr) (K : PySem.W.Frag) : Sp := fun vs H Q _ => ∃ (p o : Addr) (Z : Addr → Prop) (l : List Int) (i : Nat) (m : LP.Rc) (x : Nat) (b : List Nat), vs = [.ref p] ∧ (∀ z, Z z → H z ≠ none) ∧ DkAt t K Z o H p l i (some m) ∧ LP.RcOk m ∧ l[i]? = some (x : Int) ∧ l[i + 1]? = some (b.length : Int) ∧ (l.drop (i + 2)).take b.length = b.map (fun (n : Nat) => (n : Int)) ∧ By b ∧ Ans t K Z o H Q p l (i + 2 + b.length) (LP.stepM (some m) (.receive b b.length x))
def sp_Desk_answer_heard (t : Adr) (K : PySem.W.Frag) : Sp := fun vs H Q _ => ∃ (p o : Addr) (Z : Addr → Prop) (l : List Int) (i : Nat) (m : LP.Rc) (x : Nat) (b : List Nat), vs = [.ref p] ∧ DkAt t K Z o H p l i (some m) ∧ l[i]? = some (x : Int) ∧ l[i + 1]? = some (b.length : Int) ∧ (l.drop (i + 2)).take b.length = b.map (fun (n : Nat) => (n : Int)) ∧ By b ∧ Ans t K Z o H Q p l (i + 2 + b.length) (LP.stepM (some m) (.heard b b.length x))
def sp_Desk_answer_call (t : Adr) (K : PySem.W.Frag) : Sp := fun vs H Q _ => ∃ (p o : Addr) (Z : Addr → Prop) (l : List Int) (i j : Nat) (m : Option LP.Rc) (q : Ql48.Call), vs = [.ref p] ∧ (∀ z, Z z → H z ≠ none) ∧ DkAt t K Z o H p l i m ∧ LP.CallAt l i q j ∧ ((∃ o d, q = .begin_ o d) ∨ ∃ m0, m = some m0 ∧ LP.RcOk m0) ∧ Ans t K Z o H Q p l j (LP.stepM m q)
theorem at_iL {l : List Int} {i : Nat} {z : Int} (h : l[i]? = some z) : atI (iL l) (i : Int) = some (V.int z) := atI_nat (by rw [List.getElem?_map, h]; rfl)
theorem cut_iL (l : List Int) (i n : Nat) : cutV (iL l) (some (i : Int)) (some ((i : Int) + (n : Int))) = iL ((l.drop i).take n) := by
  have e : (i : Int) + (n : Int) = ((i + n : Nat) : Int) := by omega
  rw [e, cut_nat, Nat.add_sub_cancel_left, ← List.map_drop, ← List.map_take]
theorem but_upd {H : Hp} {p : Addr} {o : HO} : But p H (upd H p o) := (But.refl p H).upd
theorem Fresh.d {p : Addr} {H H' : Hp} {r : Addr} (b : But p H H') (h : Fresh H' r) (hn : r ≠ p) : Fresh H r := fun o e q => h o (b r o e hn) q
section
variable {P : Program} {w : World} {K : PySem.W.Frag} {mg : Str → Option Value} {base : Heap} {t : Adr}
theorem ok_Desk_init (T : Txt K mg t) : FnOk P w K mg base CX0 1 t.f_Desk_init t.fd_Desk_init ["self", "calls"] (sp_Desk_init t) := by
  refine T.fn_Desk_init.ok sc_Desk_init (fun vs H Q E h => ?_) (fun cdv A outer s H vs Q E hr h => ?_)
  · obtain ⟨p, dx, o, rfl, _⟩ := h
    rfl
  · obtain ⟨p, dx, o, rfl, hp, k⟩ := h
    refine ⟨_, (pss_cons (ps_fld (pv 0) (pv 1) rfl)
      (pss_cons (ps_fld (pv 0) pe_int rfl)
      (pss_one (ps_fld (pv 0) pe_non rfl)))), ?_⟩
    refine ⟨_, rfl, _, rfl, p, _, dx, _, rfl, hp, T.cl_Desk, T.na_Desk_calls, pl0, ?_⟩
    refine ⟨_, rfl, p, _, dx, _, rfl, upd_same, T.cl_Desk, T.na_Desk_place, pl pl0, ?_⟩
    refine ⟨_, rfl, p, _, dx, _, rfl, upd_same, T.cl_Desk, T.na_Desk_receiver, pl (pl pl0), ?_⟩
    rw [upd_upd, upd_upd, made_Desk]
    exact k
theorem ok_Desk_has_more (T : Txt K mg t) : FnOk P w K mg base CX0 1 t.f_Desk_has_more t.fd_Desk_has_more ["self"] (sp_Desk_has_more t K) := by
  refine T.fn_Desk_has_more.ok sc_Desk_has_more (fun vs H Q E h => ?_) (fun cdv A outer s H vs Q E hr h => ?_)
  · obtain ⟨p, dx, o, rv, l, i, rfl, _⟩ := h
    rfl
  · obtain ⟨p, dx, o, rv, l, i, rfl, hp, hS, k⟩ := h
    refine ⟨_, (pss_one (ps_ret (pe_cmpR op_lt (pe_fld (pv 0) rfl) (pe_callB call_len_seq rfl T.n_len PySem.boot_len (pa_cons (pe_fld (pv 0) rfl) pa_nil)) (nomark _)))), ?_⟩
    refine ⟨_, rfl, p, _, dx, _, _, rfl, hp, T.cl_Desk, T.na_Desk_place, get_Desk_place, _, rfl, p, _, dx, _, _, rfl, hp, T.cl_Desk, T.na_Desk_calls, get_Desk_calls, o, _, rfl, .inl hS, _, _, rfl, rfl, ?_⟩
    have e : decide ((i : Int) < ((iL l).length : Int)) = decide (i < l.length) := by
      rw [List.length_map]
      exact decide_eq_decide.mpr ⟨fun z => by omega, fun z => by omega⟩
    rw [← e] at k
    exact k
theorem ok_Desk_draw (T : Txt K mg t) : FnOk P w K mg base CX0 1 t.f_Desk_draw t.fd_Desk_draw ["self"] (sp_Desk_draw t K) := by
  refine T.fn_Desk_draw.ok sc_Desk_draw (fun vs H Q E h => ?_) (fun cdv A outer s H vs Q E hr h => ?_)
  · obtain ⟨p, dx, o, rv, l, i, z, rfl, _⟩ := h
    rfl
  · obtain ⟨p, dx, o, rv, l, i, z, rfl, hp, hS, hz, k⟩ := h
    refine ⟨_, (pss_cons (ps_set (i := 1) sc_Desk_draw.nd rfl (Or.inl rfl) (pe_ix ix_list (pe_fld (pv 0) rfl) (pe_fld (pv 0) rfl) (fun _ _ => rfl)))
      (pss_cons (ps_fldaug (pv 0) pe_int in_add)
      (pss_one (ps_ret (pv 1))))), ?_⟩
    -- drawn = self.calls[self.place]
    refine ⟨_, rfl, p, _, dx, _, _, rfl, hp, T.cl_Desk, T.na_Desk_calls, get_Desk_calls, _, rfl, p, _, dx, _, _, rfl, hp, T.cl_Desk, T.na_Desk_place, get_Desk_place, o, _, _, _, rfl, rfl, hS, at_iL hz, ?_⟩
    -- self.place += 1
    refine ⟨_, rfl, p, _, dx, _, _, rfl, hp, T.cl_Desk, T.na_Desk_place, get_Desk_place, _, _, rfl, rfl, _, _, hp, len_Desk, ?_⟩
    rw [put_Desk_place]
    refine ⟨_, rfl, ?_⟩
    exact k
theorem ok_Desk_draw_row (T : Txt K mg t) : FnOk P w K mg base CX0 2 t.f_Desk_draw_row t.fd_Desk_draw_row ["self"] (sp_Desk_draw_row t K) := by
  refine T.fn_Desk_draw_row.ok sc_Desk_draw_row (fun vs H Q E h => ?_) (fun cdv A outer s H vs Q E hr h => ?_)
  · obtain ⟨p, dx, o, rv, l, i, n, rfl, _⟩ := h
    rfl
  · obtain ⟨p, dx, o, rv, l, i, n, rfl, hp, hS, hz, k⟩ := h
    refine ⟨_, (pss_cons (ps_set (i := 1) sc_Desk_draw_row.nd rfl (Or.inl rfl) (pe_meth0 (pv 0) T.cl_Desk T.me_Desk_draw (ok_Desk_draw T) (hr.mono (by decide)) T.b_Desk_draw .nil pass0))
      (pss_cons (ps_set (i := 2) sc_Desk_draw_row.nd rfl (Or.inl rfl) (pe_slice sl_list (pe_fld (pv 0) rfl) (po_some (pe_fld (pv 0) rfl)) (po_some (pe_op op_add (pe_fld (pv 0) rfl) (pv 1)))))
      (pss_cons (ps_fldaug (pv 0) (pv 1) in_add)
      (pss_one (ps_ret (pv 2)))))), ?_⟩
    -- length = self.draw()
    refine ⟨_, rfl, p, dx, _, rfl, hp, no_Desk_draw, p, dx, o, rv, l, i, (n : Int), rfl, hp, hS, hz, ?_⟩
    have hS1 : SqL K (upd H p (oDk t dx o (i + 1) rv)) o (iL l) := sq_but hp but_upd hS
    -- row = self.calls[self.place:self.place + length]
    refine ⟨_, rfl, p, _, dx, _, _, rfl, upd_same, T.cl_Desk, T.na_Desk_calls, get_Desk_calls, _, rfl, p, _, dx, _, _, rfl, upd_same, T.cl_Desk, T.na_Desk_place, get_Desk_place, _, rfl, _, rfl, p, _, dx, _, _, rfl, upd_same, T.cl_Desk, T.na_Desk_place, get_Desk_place, _, rfl, _, _, rfl, rfl, _, rfl, o, _, rfl, hS1, fun r hr0 => ?_⟩
    rw [show cutV (iL l) (some (((i + 1 : Nat) : Int))) (some (((i + 1 : Nat) : Int) + (n : Int))) = iL ((l.drop (i + 1)).take n) from cut_iL l (i + 1) n]
    have npr : p ≠ r := ne_of_none upd_same hr0
    have hr1 : H r = none := by rw [upd_ne npr.symm] at hr0; exact hr0
    -- self.place += length
    have hp2 : (upd (upd H p (oDk t dx o (i + 1) rv)) r (.lst (iL ((l.drop (i + 1)).take n)))) p = some (oDk t dx o (i + 1) rv) := by rw [upd_ne npr]; exact upd_same
    refine ⟨_, rfl, p, _, dx, _, _, rfl, hp2, T.cl_Desk, T.na_Desk_place, get_Desk_place, _, rfl, _, _, rfl, rfl, _, _, hp2, len_Desk, ?_⟩
    rw [put_Desk_place]
    refine ⟨_, rfl, ?_⟩
    refine k r _ ?_ (But.upd fun c u e ne => by rw [upd_ne (ne_of_none e hr1), upd_ne ne]; exact e) hr1 (by rw [upd_ne npr.symm]; exact upd_same)
    rw [upd_same]
    rfl
theorem ok_Desk_answer_begin (T : Txt K mg t) : FnOk P w K mg base CX0 5 t.f_Desk_answer_begin t.fd_Desk_answer_begin ["self"] (sp_Desk_answer_begin t K) := by
  refine T.fn_Desk_answer_begin.ok sc_Desk_answer_begin (fun vs H Q E h => ?_) (fun cdv A outer s H vs Q E hr h => ?_)
  · obtain ⟨p, o, Z, l, i, m, ow, d, rfl, _⟩ := h
    rfl
  · obtain ⟨p, o, Z, l, i, m, ow, d, rfl, ⟨dx, rv, hp, hS, hV⟩, e1, e2, k⟩ := h
    refine ⟨_, (pss_cons (ps_set (i := 1) sc_Desk_answer_begin.nd rfl (Or.inl rfl) (pe_meth0 (pv 0) T.cl_Desk T.me_Desk_draw (ok_Desk_draw T) (hr.mono (by decide)) T.b_Desk_draw .nil pass0))
      (pss_cons (ps_set (i := 2) sc_Desk_answer_begin.nd rfl (Or.inl rfl) (pe_meth0 (pv 0) T.cl_Desk T.me_Desk_draw (ok_Desk_draw T) (hr.mono (by decide)) T.b_Desk_draw .nil pass0))
      (pss_cons (ps_if (PW.pt (pw_or (pt_cmpR op_lt (pv 2) (pe_gl T.g_LEAST_DEPTH rfl) (nomark _)) (pw_or1 (pt_cmpR op_gt (pv 2) (pe_gl T.g_MOST_DEPTH rfl) (nomark _))))) (pss_one (ps_ret (pe_lst (pa_cons (pe_gl T.g_DEPTH_REFUSED rfl) pa_nil)))) pss_nil)
      (pss_cons (ps_fld (pv 0) (pe_make T.mk_Receiver (ok_Receiver_init T) (hr.mono (by decide)) rfl T.mgc_Receiver T.b_Receiver_init .nil pass0 (pa_cons (pv 1) (pa_cons (pv 2) pa_nil))) rfl)
      (pss_one (ps_ret (pe_lst (pa_cons (pe_gl T.g_BEGUN rfl) pa_nil)))))))), ?_⟩
    -- own = self.draw()
    refine ⟨_, rfl, p, dx, _, rfl, hp, no_Desk_draw, p, dx, o, rv, l, i, (ow : Int), rfl, hp, hS, e1, ?_⟩
    have hS1 : SqL K (upd H p (oDk t dx o (i + 1) rv)) o (iL l) := sq_but hp but_upd hS
    -- depth = self.draw()
    refine ⟨_, rfl, p, dx, _, rfl, upd_same, no_Desk_draw, p, dx, o, rv, l, i + 1, (d : Int), rfl, upd_same, hS1, e2, ?_⟩
    rw [upd_upd]
    have hS2 : SqL K (upd H p (oDk t dx o (i + 1 + 1) rv)) o (iL l) := sq_but hp but_upd hS
    have hV2 : RvAt t Z (upd H p (oDk t dx o (i + 1 + 1) rv)) rv m := hV.but hp rfl but_upd
    unfold LP.stepM at k
    dsimp only at k
    -- if depth < LEAST_DEPTH or depth > MOST_DEPTH: return [DEPTH_REFUSED]
    refine ⟨_, rfl, _, _, rfl, rfl, _, rfl, ?_⟩
    have no : d < 1 ∨ 32 < d → ∀ r, (upd H p (oDk t dx o (i + 1 + 1) rv)) r = none → Q (.ref r) (upd (upd H p (oDk t dx o (i + 1 + 1) rv)) r (.lst [.int (-1)])) := by
      intro hd r hr0
      rw [if_pos hd] at k
      have npr : p ≠ r := ne_of_none upd_same hr0
      have hr1 : H r = none := by rw [upd_ne npr.symm] at hr0; exact hr0
      exact k r _ ⟨dx, rv, by rw [upd_ne npr]; exact upd_same, (same_new hr0).seq hS2, hV2.same (same_new hr0)⟩ upd_same (fresh_of hr1) (But.d (fun c u e ne => by rw [upd_ne (ne_of_none e hr1), upd_ne ne]; exact e))
    refine ite2 (fun h1 => ?_) (fun h1 => ?_)
    · have h1' := of_decide_eq_true h1
      exact iteT ⟨(by show 1 ≤ sizeLine; decide), fun r hr0 => no (.inl (by omega)) r hr0⟩
    have h1' : ¬ (d : Int) < 1 := fun z => h1 (decide_eq_true z)
    refine ⟨_, rfl, _, _, rfl, rfl, _, rfl, ?_⟩
    refine ite2 (fun h2 => ?_) (fun h2 => ?_)
    · have h2' := of_decide_eq_true h2
      exact ⟨(by show 1 ≤ sizeLine; decide), fun r hr0 => no (.inr (by omega)) r hr0⟩
    have h2' : ¬ (32 : Int) < (d : Int) := fun z => h2 (decide_eq_true z)
    rw [if_neg (by omega)] at k
    clear no
    generalize hH2 : upd H p (oDk t dx o (i + 1 + 1) rv) = H2 at *
    have hp2 : H2 p = some (oDk t dx o (i + 1 + 1) rv) := by rw [← hH2]; exact upd_same
    have B2 : But p H H2 := by rw [← hH2]; exact but_upd
    have N2 : ∀ b, H2 b = none → H b = none := fun b hb => by
      cases e : H b with
      | none => rfl
      | some u =>
        by_cases hbp : b = p
        · subst hbp
          rw [hp2] at hb
          cases hb
        · rw [B2 b u e hbp] at hb
          cases hb
    -- self.receiver = Receiver(own, depth)
    refine ⟨_, rfl, _, rfl, ?_⟩
    intro x dy nx ndy ney
    have npx : p ≠ x := ne_of_none hp2 nx
    have npy : p ≠ dy := ne_of_none hp2 ndy
    refine ⟨x, dy, (ow : Int), (d : Int), rfl, upd_same, fun H3 R3 B3 => ⟨rfl, ?_⟩⟩
    have keep3 : ∀ c u, H2 c = some u → H3 c = some u := fun c u e => B3 c u (by rw [upd_ne (ne_of_none e nx), upd_ne (ne_of_none e ndy)]; exact e) (ne_of_none e nx)
    have hp3 := keep3 _ _ hp2
    refine ⟨_, rfl, p, _, dx, _, rfl, hp3, T.cl_Desk, T.na_Desk_receiver, len_Desk, ?_⟩
    rw [put_Desk_receiver]
    -- return [BEGUN]
    refine ⟨(by show 1 ≤ sizeLine; decide), fun r hr0 => ?_⟩
    have npr : p ≠ r := ne_of_none upd_same hr0
    have hr3 : H3 r = none := by rw [upd_ne npr.symm] at hr0; exact hr0
    have hr1 : H r = none := N2 r (by
      cases e : H2 r with
      | none => rfl
      | some u => rw [keep3 r u e] at hr3; cases hr3)
    refine k r _ ⟨dx, .ref x, by rw [upd_ne npr]; exact upd_same, (same_new hr0).seq (sq_but hp3 but_upd ?_), x, rfl, ((R3 Z).but hp3 rfl but_upd).same (same_new hr0)⟩ upd_same (fresh_of hr1) ?_
    · exact Same.seq (H := H2) keep3 hS2
    · intro b u e _ nbp
      have e2 := B2 b u e nbp
      rw [upd_ne (ne_of_none (by rw [upd_ne nbp]; exact keep3 b u e2) hr0), upd_ne nbp]
      exact keep3 b u e2
theorem ok_Desk_answer_receive (T : Txt K mg t) : FnOk P w K mg base CX0 6 t.f_Desk_answer_receive t.fd_Desk_answer_receive ["self"] (sp_Desk_answer_receive t K) := by
  refine T.fn_Desk_answer_receive.ok sc_Desk_answer_receive (fun vs H Q E h => ?_) (fun cdv A outer s H vs Q E hr h => ?_)
  · obtain ⟨p, o, Z, l, i, m, x, b, rfl, _⟩ := h
    rfl
  · obtain ⟨p, o, Z, l, i, m, x, b, rfl, hZ, ⟨dx, rv, hp, hS, a, rfl, hR⟩, hOk, e1, e2, e3, hb, k⟩ := h
    refine ⟨_, (pss_cons (ps_set (i := 1) sc_Desk_answer_receive.nd rfl (Or.inl rfl) (pe_meth0 (pv 0) T.cl_Desk T.me_Desk_draw (ok_Desk_draw T) (hr.mono (by decide)) T.b_Desk_draw .nil pass0))
      (pss_cons (ps_set (i := 2) sc_Desk_answer_receive.nd rfl (Or.inl rfl) (pe_meth0 (pv 0) T.cl_Desk T.me_Desk_draw_row (ok_Desk_draw_row T) (hr.mono (by decide)) T.b_Desk_draw_row .nil pass0))
      (pss_one (ps_ret (pe_lst (pa_cons (pe_meth (pe_fld (pv 0) rfl) T.cl_Receiver T.me_Receiver_receive (ok_Receiver_receive T) (hr.mono (by decide)) T.b_Receiver_receive .nil pass0 (pa_cons (pv 2) (pa_cons (pv 1) pa_nil))) pa_nil)))))), ?_⟩
    -- arrival = self.draw()
    refine ⟨_, rfl, p, dx, _, rfl, hp, no_Desk_draw, p, dx, o, _, l, i, (x : Int), rfl, hp, hS, e1, ?_⟩
    have hS1 : SqL K (upd H p (oDk t dx o (i + 1) (.ref a))) o (iL l) := sq_but hp but_upd hS
    -- octets = self.draw_row()
    refine ⟨_, rfl, p, dx, _, rfl, upd_same, no_Desk_draw_row, p, dx, o, _, l, i + 1, b.length, rfl, upd_same, hS1, e2, fun r H2 hp2 B2 nr hr2 => ?_⟩
    have B02 : But p H H2 := fun c u e n => B2 c u (by rw [upd_ne n]; exact e) n
    rw [show (l.drop (i + 1 + 1)).take b.length = b.map (fun (n : Nat) => (n : Int)) from e3, ← bV_iL] at hr2
    have hR2 : RcAt t Z H2 a m := hR.but hp rfl B02
    obtain ⟨dy, vc, vw, vh, ha, hc, hw, hh⟩ := id hR2
    have hZ2 : ∀ z, Z z → H2 z ≠ none := fun z hz => by
      cases e : H z with
      | none => exact absurd e (hZ z hz)
      | some u =>
        by_cases hzp : z = p
        · subst hzp
          rw [hp2]
          simp
        · rw [B02 z u e hzp]
          simp
    -- return [self.receiver.receive(octets, arrival)]
    refine ⟨_, rfl, p, _, dx, _, _, rfl, hp2, T.cl_Desk, T.na_Desk_receiver, get_Desk_receiver, a, dy, _, rfl, ha, no_Receiver_receive, _, rfl, _, rfl, a, r, b, (x : Int), m, Z, rfl, hZ2, hR2, hOk.both, SqL.of hr2, hb, fun H3 R3 c3 => ?_⟩
    refine ⟨(by show 1 ≤ sizeLine; decide), fun r4 n4 => ?_⟩
    have hp3 : H3 p = some (oDk t dx o (i + 1 + 1 + b.length) (.ref a)) := c3 _ _ hp2 quiet_dk
    have s4 := fun (u : HO) => same_new (o := u) n4
    have n4' : H r4 = none ∨ ∃ u, H r4 = some u ∧ ¬ Quiet u := by
      cases e : H r4 with
      | none => exact .inl rfl
      | some u =>
        by_cases q : Quiet u
        · by_cases hrp : r4 = p
          · subst hrp
            rw [hp3] at n4
            cases n4
          · rw [c3 _ _ (B02 _ _ e hrp) q] at n4
            cases n4
        · exact .inr ⟨u, rfl, q⟩
    refine k r4 _ ⟨dx, .ref a, s4 _ _ _ hp3, (s4 _).seq (SqL.calm c3 (sq_but hp B02 hS)), a, rfl, R3.same (s4 _)⟩ upd_same ?_ ?_
    · intro u e
      rcases n4' with h | ⟨v, h, q⟩
      · rw [h] at e; cases e
      · rw [h] at e; cases e; exact q
    · intro c u e q n
      exact s4 _ _ _ (c3 _ _ (B02 _ _ e n) q)
theorem ok_Desk_answer_heard (T : Txt K mg t) : FnOk P w K mg base CX0 7 t.f_Desk_answer_heard t.fd_Desk_answer_heard ["self"] (sp_Desk_answer_heard t K) := by
  refine T.fn_Desk_answer_heard.ok sc_Desk_answer_heard (fun vs H Q E h => ?_) (fun cdv A outer s H vs Q E hr h => ?_)
  · obtain ⟨p, o, Z, l, i, m, x, b, rfl, _⟩ := h
    rfl
  · obtain ⟨p, o, Z, l, i, m, x, b, rfl, ⟨dx, rv, hp, hS, a, rfl, hR⟩, e1, e2, e3, hb, k⟩ := h
    refine ⟨_, (pss_cons (ps_set (i := 1) sc_Desk_answer_heard.nd rfl (Or.inl rfl) (pe_meth0 (pv 0) T.cl_Desk T.me_Desk_draw (ok_Desk_draw T) (hr.mono (by decide)) T.b_Desk_draw .nil pass0))
      (pss_cons (ps_set (i := 2) sc_Desk_answer_heard.nd rfl (Or.inl rfl) (pe_meth0 (pv 0) T.cl_Desk T.me_Desk_draw_row (ok_Desk_draw_row T) (hr.mono (by decide)) T.b_Desk_draw_row .nil pass0))
      (pss_one (ps_ret (pe_lst (pa_cons (pe_meth (pe_fld (pv 0) rfl) T.cl_Receiver T.me_Receiver_hear (ok_Receiver_hear T) (hr.mono (by decide)) T.b_Receiver_hear .nil pass0 (pa_cons (pv 2) (pa_cons (pv 1) pa_nil))) pa_nil)))))), ?_⟩
    -- now = self.draw()
    refine ⟨_, rfl, p, dx, _, rfl, hp, no_Desk_draw, p, dx, o, _, l, i, (x : Int), rfl, hp, hS, e1, ?_⟩
    have hS1 : SqL K (upd H p (oDk t dx o (i + 1) (.ref a))) o (iL l) := sq_but hp but_upd hS
    -- octets = self.draw_row()
    refine ⟨_, rfl, p, dx, _, rfl, upd_same, no_Desk_draw_row, p, dx, o, _, l, i + 1, b.length, rfl, upd_same, hS1, e2, fun r H2 hp2 B2 nr hr2 => ?_⟩
    have B02 : But p H H2 := fun c u e n => B2 c u (by rw [upd_ne n]; exact e) n
    rw [show (l.drop (i + 1 + 1)).take b.length = b.map (fun (n : Nat) => (n : Int)) from e3, ← bV_iL] at hr2
    have hR2 : RcAt t Z H2 a m := hR.but hp rfl B02
    obtain ⟨dy, vc, vw, vh, ha, hc, hw, hh⟩ := id hR2
    -- return [self.receiver.hear(octets, now)]
    refine ⟨_, rfl, p, _, dx, _, _, rfl, hp2, T.cl_Desk, T.na_Desk_receiver, get_Desk_receiver, a, dy, _, rfl, ha, no_Receiver_hear, _, rfl, _, rfl, a, r, b, (x : Int), m, Z, rfl, hR2, SqL.of hr2, hb, fun H3 R3 c3 => ?_⟩
    refine ⟨(by show 1 ≤ sizeLine; decide), fun r4 n4 => ?_⟩
    have hp3 : H3 p = some (oDk t dx o (i + 1 + 1 + b.length) (.ref a)) := c3 _ _ hp2 quiet_dk
    have s4 := fun (u : HO) => same_new (o := u) n4
    have n4' : H r4 = none ∨ ∃ u, H r4 = some u ∧ ¬ Quiet u := by
      cases e : H r4 with
      | none => exact .inl rfl
      | some u =>
        by_cases q : Quiet u
        · by_cases hrp : r4 = p
          · subst hrp
            rw [hp3] at n4
            cases n4
          · rw [c3 _ _ (B02 _ _ e hrp) q] at n4
            cases n4
        · exact .inr ⟨u, rfl, q⟩
    refine k r4 _ ⟨dx, .ref a, s4 _ _ _ hp3, (s4 _).seq (SqL.calm c3 (sq_but hp B02 hS)), a, rfl, R3.same (s4 _)⟩ upd_same ?_ ?_
    · intro u e
      rcases n4' with h | ⟨v, h, q⟩
      · rw [h] at e; cases e
      · rw [h] at e; cases e; exact q
    · intro c u e q n
      exact s4 _ _ _ (c3 _ _ (B02 _ _ e n) q)
end
end My
namespace My
open PySem L2
/-! ### a call, all calls -/
theorem Ans.back {t : Adr} {K : PySem.W.Frag} {Z : Addr → Prop} {o : Addr} {H H1 : Hp} {Q : VK} {p : Addr} {l : List Int} {j : Nat} {y : Option LP.Rc × List Int} {dx : Addr} {i : Nat} {rv : V} (hp1 : H1 p = some (oDk t dx o i rv)) (B : But p H H1) (k : Ans t K Z o H Q p l j y) : Ans t K Z o H1 Q p l j y := by
  intro r H' D h f c
  have hrp : r ≠ p := fun z => f _ (by rw [z]; exact hp1) quiet_dk
  exact k r H' D h (f.d B hrp) (B.d.trans c)
def sp_answers (K : PySem.W.Frag) : Sp := fun vs H Q _ => ∃ (o : Addr) (l : List Int), vs = [.ref o] ∧ SqL K H o (iL l) ∧ l.length ≤ 30000 ∧ (∀ y ∈ l, y ≤ 4294967295) ∧ PyQl48.answers_asked l = true ∧ ∀ r H', H' r = some (.lst (iL (PyQl48.answers l))) → Q (.ref r) H'
/-- the place that a desk has come to -/
def placeOf (p : Addr) (H : Hp) : Nat := match H p with
  | some (.ins _ _ fs) => (match fs.lookup ("place" : Str) with
    | some (.int z) => z.toNat
    | _ => 0)
  | _ => 0
theorem placeOf_eq {t : Adr} {H : Hp} {p dx o : Addr} {i : Nat} {rv : V} (h : H p = some (oDk t dx o i rv)) : placeOf p H = i := by
  unfold placeOf
  rw [h]
  dsimp only
  rw [get_Desk_place]
  exact Int.toNat_natCast i
/-- a list of ours is changed, which the receiver has none of -/
theorem RcAt.list {t : Adr} {Z : Addr → Prop} {H : Hp} {L a : Addr} {xs ys : List V} {m : LP.Rc} (hL : H L = some (.lst xs)) (hZ : Z L) (h : RcAt t Z H a m) : RcAt t Z (upd H L (.lst ys)) a m := by
  obtain ⟨dy, vc, vw, vh, ha, hc, hw, hh⟩ := h
  have hf : ∀ {c C' d' : Addr} {gs : List (Str × V)}, H c = some (.ins C' d' gs) → (upd H L (.lst ys)) c = some (.ins C' d' gs) := fun {c C' d' gs} e => by rw [upd_ne (ne_of e hL (by intro z; cases z))]; exact e
  refine ⟨dy, vc, vw, vh, hf ha, hc.keep fun c C' d' gs hb _ => hf hb, ?_, hh.keep fun c C' d' gs hb _ => hf hb⟩
  cases hx : m.waiting with
  | none => rw [hx] at hw; exact hw
  | some x =>
    rw [hx] at hw
    obtain ⟨q, dq, d, kvs, e, h1, h2, h3, h4⟩ := hw
    refine ⟨q, dq, d, kvs, e, hf h1, by rw [upd_ne (ne_of h2 hL (by intro z; cases z))]; exact h2, h3.mono fun y pk hy => ?_, h4⟩
    obtain ⟨dz, l, g1, g2, g3⟩ := hy
    exact ⟨dz, l, hf g1, by rw [upd_ne (fun z => g3 (by rw [z]; exact hZ))]; exact g2, g3⟩
section
variable {P : Program} {w : World} {K : PySem.W.Frag} {mg : Str → Option Value} {base : Heap} {t : Adr}
theorem ok_Desk_answer_call (T : Txt K mg t) : FnOk P w K mg base CX0 8 t.f_Desk_answer_call t.fd_Desk_answer_call ["self"] (sp_Desk_answer_call t K) := by
  refine T.fn_Desk_answer_call.ok sc_Desk_answer_call (fun vs H Q E h => ?_) (fun cdv A outer s H vs Q E hr h => ?_)
  · obtain ⟨p, o, Z, l, i, j, m, q, rfl, _⟩ := h
    rfl
  · obtain ⟨p, o, Z, l, i, j, m, q, rfl, hZ, ⟨dx, rv, hp, hS, hV⟩, hcall, hcond, k⟩ := h
    have hS1 : ∀ n rv', SqL K (upd H p (oDk t dx o n rv')) o (iL l) := fun n rv' => sq_but hp but_upd hS
    have hV1 : ∀ n rv', RvAt t Z (upd H p (oDk t dx o n rv')) rv m := fun n rv' => hV.but hp rfl but_upd
    have k1 : ∀ n, Ans t K Z o (upd H p (oDk t dx o n rv)) Q p l j (LP.stepM m q) := fun n => k.back upd_same but_upd
    have hZ1 : ∀ n, ∀ z, Z z → (upd H p (oDk t dx o n rv)) z ≠ none := fun n z hz => by
      by_cases hzp : z = p
      · rw [hzp, upd_same]
        simp
      · rw [upd_ne hzp]
        exact hZ z hz
    refine ⟨_, (pss_cons (ps_set (i := 1) sc_Desk_answer_call.nd rfl (Or.inl rfl) (pe_meth0 (pv 0) T.cl_Desk T.me_Desk_draw (ok_Desk_draw T) (hr.mono (by decide)) T.b_Desk_draw .nil pass0))
      (pss_cons (ps_if (pt_cmpR op_eq (pv 1) (pe_gl T.g_RP_BEGIN rfl) (nomark _)) (pss_one (ps_ret (pe_meth0 (pv 0) T.cl_Desk T.me_Desk_answer_begin (ok_Desk_answer_begin T) (hr.mono (by decide)) T.b_Desk_answer_begin .nil pass0))) pss_nil)
      (pss_cons (ps_if (pt_cmpR op_eq (pv 1) (pe_gl T.g_RP_RECEIVE rfl) (nomark _)) (pss_one (ps_ret (pe_meth0 (pv 0) T.cl_Desk T.me_Desk_answer_receive (ok_Desk_answer_receive T) (hr.mono (by decide)) T.b_Desk_answer_receive .nil pass0))) pss_nil)
      (pss_cons (ps_if (pt_cmpR op_eq (pv 1) (pe_gl T.g_RP_TAKE rfl) (nomark _)) (pss_one (ps_ret (pe_meth (pe_fld (pv 0) rfl) T.cl_Receiver T.me_Receiver_take (ok_Receiver_take T) (hr.mono (by decide)) T.b_Receiver_take .nil pass0 (pa_cons (pe_meth0 (pv 0) T.cl_Desk T.me_Desk_draw (ok_Desk_draw T) (hr.mono (by decide)) T.b_Desk_draw .nil pass0) pa_nil)))) pss_nil)
      (pss_cons (ps_if (pt_cmpR op_eq (pv 1) (pe_gl T.g_RP_REPORT rfl) (nomark _)) (pss_one (ps_ret (pe_meth (pe_fld (pv 0) rfl) T.cl_Receiver T.me_Receiver_report (ok_Receiver_report T) (hr.mono (by decide)) T.b_Receiver_report .nil pass0 (pa_cons (pe_meth0 (pv 0) T.cl_Desk T.me_Desk_draw (ok_Desk_draw T) (hr.mono (by decide)) T.b_Desk_draw .nil pass0) pa_nil)))) pss_nil)
      (pss_cons (ps_if (pt_cmpR op_eq (pv 1) (pe_gl T.g_RP_HEARD rfl) (nomark _)) (pss_one (ps_ret (pe_meth0 (pv 0) T.cl_Desk T.me_Desk_answer_heard (ok_Desk_answer_heard T) (hr.mono (by decide)) T.b_Desk_answer_heard .nil pass0))) pss_nil)
      (pss_cons (ps_if (pt_cmpR op_eq (pv 1) (pe_gl T.g_RP_TOLD rfl) (nomark _)) (pss_one (ps_ret (pe_meth0 (pe_fld (pv 0) rfl) T.cl_Receiver T.me_Receiver_tell (ok_Receiver_tell T) (hr.mono (by decide)) T.b_Receiver_tell .nil pass0))) pss_nil)
      (pss_one ps_never)))))))), ?_⟩
    -- call = self.draw()
    obtain ⟨c, hc⟩ : ∃ c, l[i]? = some c := by cases hcall <;> exact ⟨_, by assumption⟩
    refine ⟨_, rfl, p, dx, _, rfl, hp, no_Desk_draw, p, dx, o, rv, l, i, c, rfl, hp, hS, hc, ?_⟩
    cases hcall with
    | begin_ ow d e1 e2 e3 =>
      rw [e1] at hc
      cases hc
      refine ⟨_, rfl, rfl, _, rfl, iteT ?_⟩
      exact ⟨_, rfl, p, dx, _, rfl, upd_same, no_Desk_answer_begin, p, o, Z, l, i + 1, m, ow, d, rfl, ⟨dx, rv, upd_same, hS1 _ _, hV1 _ _⟩, e2, e3, k1 _⟩
    | receive x b e1 e2 e3 e4 e5 =>
      rw [e1] at hc
      cases hc
      obtain ⟨m0, rfl, hOk⟩ : ∃ m0, m = some m0 ∧ LP.RcOk m0 := by
        rcases hcond with ⟨_, _, z⟩ | h
        · cases z
        · exact h
      refine ⟨_, rfl, rfl, _, rfl, iteF ?_⟩
      refine ⟨_, rfl, rfl, _, rfl, iteT ?_⟩
      exact ⟨_, rfl, p, dx, _, rfl, upd_same, no_Desk_answer_receive, p, o, Z, l, i + 1, m0, x, b, rfl, hZ1 _, ⟨dx, rv, upd_same, hS1 _ _, hV1 _ _⟩, hOk, e2, e3, e4, e5, k1 _⟩
    | heard x b e1 e2 e3 e4 e5 =>
      rw [e1] at hc
      cases hc
      obtain ⟨m0, rfl, hOk⟩ : ∃ m0, m = some m0 ∧ LP.RcOk m0 := by
        rcases hcond with ⟨_, _, z⟩ | h
        · cases z
        · exact h
      refine ⟨_, rfl, rfl, _, rfl, iteF ?_⟩
      refine ⟨_, rfl, rfl, _, rfl, iteF ?_⟩
      refine ⟨_, rfl, rfl, _, rfl, iteF ?_⟩
      refine ⟨_, rfl, rfl, _, rfl, iteF ?_⟩
      refine ⟨_, rfl, rfl, _, rfl, iteT ?_⟩
      exact ⟨_, rfl, p, dx, _, rfl, upd_same, no_Desk_answer_heard, p, o, Z, l, i + 1, m0, x, b, rfl, ⟨dx, rv, upd_same, hS1 _ _, hV1 _ _⟩, e2, e3, e4, e5, k1 _⟩
    | take x e1 e2 =>
      rw [e1] at hc
      cases hc
      obtain ⟨m0, rfl, hOk⟩ : ∃ m0, m = some m0 ∧ LP.RcOk m0 := by
        rcases hcond with ⟨_, _, z⟩ | h
        · cases z
        · exact h
      obtain ⟨a, rfl, hR⟩ := hV
      obtain ⟨dy, vc, vw, vh, ha, _⟩ := (hR.but hp rfl (but_upd (o := oDk t dx o (i + 1) (.ref a))))
      refine ⟨_, rfl, rfl, _, rfl, iteF ?_⟩
      refine ⟨_, rfl, rfl, _, rfl, iteF ?_⟩
      refine ⟨_, rfl, rfl, _, rfl, iteT ?_⟩
      refine ⟨_, rfl, p, _, dx, _, _, rfl, upd_same, T.cl_Desk, T.na_Desk_receiver, get_Desk_receiver, a, dy, _, rfl, ha, no_Receiver_take, _, rfl, p, dx, _, rfl, upd_same, no_Desk_draw, p, dx, o, _, l, i + 1, (x : Int), rfl, upd_same, hS1 _ _, e2, ?_⟩
      rw [upd_upd]
      refine ⟨a, (x : Int), m0, Z, rfl, hR.but hp rfl but_upd, hOk.loads, fun r H3 R3 f3 h3 c3 => ?_⟩
      exact k1 (i + 1 + 1) r H3 ⟨dx, .ref a, c3 _ _ upd_same quiet_dk, SqL.calm c3 (hS1 _ _), a, rfl, R3⟩ h3 f3 (Calm.d c3)
    | report x e1 e2 =>
      rw [e1] at hc
      cases hc
      obtain ⟨m0, rfl, hOk⟩ : ∃ m0, m = some m0 ∧ LP.RcOk m0 := by
        rcases hcond with ⟨_, _, z⟩ | h
        · cases z
        · exact h
      obtain ⟨a, rfl, hR⟩ := hV
      obtain ⟨dy, vc, vw, vh, ha, _⟩ := (hR.but hp rfl (but_upd (o := oDk t dx o (i + 1) (.ref a))))
      refine ⟨_, rfl, rfl, _, rfl, iteF ?_⟩
      refine ⟨_, rfl, rfl, _, rfl, iteF ?_⟩
      refine ⟨_, rfl, rfl, _, rfl, iteF ?_⟩
      refine ⟨_, rfl, rfl, _, rfl, iteT ?_⟩
      refine ⟨_, rfl, p, _, dx, _, _, rfl, upd_same, T.cl_Desk, T.na_Desk_receiver, get_Desk_receiver, a, dy, _, rfl, ha, no_Receiver_report, _, rfl, p, dx, _, rfl, upd_same, no_Desk_draw, p, dx, o, _, l, i + 1, (x : Int), rfl, upd_same, hS1 _ _, e2, ?_⟩
      rw [upd_upd]
      refine ⟨a, (x : Int), m0, Z, rfl, hR.but hp rfl but_upd, hOk, fun r H3 R3 f3 h3 c3 => ?_⟩
      exact k1 (i + 1 + 1) r H3 ⟨dx, .ref a, c3 _ _ upd_same quiet_dk, SqL.calm c3 (hS1 _ _), a, rfl, R3⟩ h3 f3 (Calm.d c3)
    | told e1 =>
      rw [e1] at hc
      cases hc
      obtain ⟨m0, rfl, hOk⟩ : ∃ m0, m = some m0 ∧ LP.RcOk m0 := by
        rcases hcond with ⟨_, _, z⟩ | h
        · cases z
        · exact h
      obtain ⟨a, rfl, hR⟩ := hV
      have hR1 := (hR.but hp rfl (but_upd (o := oDk t dx o (i + 1) (.ref a))))
      obtain ⟨dy, vc, vw, vh, ha, _⟩ := id hR1
      refine ⟨_, rfl, rfl, _, rfl, iteF ?_⟩
      refine ⟨_, rfl, rfl, _, rfl, iteF ?_⟩
      refine ⟨_, rfl, rfl, _, rfl, iteF ?_⟩
      refine ⟨_, rfl, rfl, _, rfl, iteF ?_⟩
      refine ⟨_, rfl, rfl, _, rfl, iteF ?_⟩
      refine ⟨_, rfl, rfl, _, rfl, iteT ?_⟩
      refine ⟨_, rfl, p, _, dx, _, _, rfl, upd_same, T.cl_Desk, T.na_Desk_receiver, get_Desk_receiver, a, dy, _, rfl, ha, no_Receiver_tell, a, m0, Z, rfl, hR1, hOk.both, fun r H3 s3 n3 h3 => ?_⟩
      exact k1 (i + 1) r H3 ⟨dx, .ref a, s3 _ _ upd_same, s3.seq (hS1 _ _), a, rfl, hR1.same s3⟩ h3 (fresh_of n3) (Calm.d (Same.calm s3))
theorem ok_answers (T : Txt K mg t) : FnOk P w K mg base CX0 9 t.f_answers t.fd_answers ["calls"] (sp_answers K) := by
  refine T.fn_answers.ok sc_answers (fun vs H Q E h => ?_) (fun cdv A outer s H vs Q E hr h => ?_)
  · obtain ⟨o, l, rfl, _⟩ := h
    rfl
  · obtain ⟨o, l, rfl, hS, hlen, hu, hask, k⟩ := h
    obtain ⟨hleft, ow, d0, rest, hl0, hd1, hd2⟩ := LP.left_start hask
    have sz : 4000000 ≤ sizeLine := by decide
    refine ⟨_, (pss_cons (ps_set (i := 1) sc_answers.nd rfl (Or.inl rfl) (pe_make T.mk_Desk (ok_Desk_init T) (hr.mono (by decide)) rfl T.mgc_Desk T.b_Desk_init .nil pass0 (pa_cons (pv 0) pa_nil)))
      (pss_cons (ps_set (i := 2) sc_answers.nd rfl (Or.inl rfl) (pe_lst pa_nil))
      (pss_cons (ps_while PassesOwn.never (pt_val (pe_meth0 (pv 1) T.cl_Desk T.me_Desk_has_more (ok_Desk_has_more T) (hr.mono (by decide)) T.b_Desk_has_more .nil pass0)) (pss_cons (ps_set (i := 3) sc_answers.nd rfl (Or.inl rfl) (pe_meth0 (pv 1) T.cl_Desk T.me_Desk_answer_call (ok_Desk_answer_call T) (hr.mono (by decide)) T.b_Desk_answer_call .nil pass0))
      (pss_cons (ps_expr (pe_bm PySem.F.plainAttrs_list PySem.F.slot_list_append PySem.F.type_list_append mt_append (pv 2) (pa_cons (pe_callB call_len_seq rfl T.n_len PySem.boot_len (pa_cons (pv 3) pa_nil)) pa_nil)))
      (pss_one (ps_expr (pe_bm PySem.F.plainAttrs_list PySem.F.slot_list_extend PySem.F.type_list_extend mt_extend (pv 2) (pa_cons (pv 3) pa_nil)))))))
      (pss_one (ps_ret (pv 2)))))), ?_⟩
    -- desk = Desk(calls)
    refine ⟨_, rfl, ?_⟩
    intro p dx np ndx nep
    refine ⟨p, dx, o, rfl, upd_same, rfl, ?_⟩
    rw [upd_upd]
    generalize hH1 : upd (upd H dx (.own p)) p (oDk t dx o 0 .non) = H1
    have hp1 : H1 p = some (oDk t dx o 0 .non) := by rw [← hH1]; exact upd_same
    have s1 : Same H H1 := fun c u e => by
      rw [← hH1, upd_ne (ne_of_none e np), upd_ne (ne_of_none e ndx)]
      exact e
    -- answered = []
    refine ⟨Nat.zero_le _, fun L hL => ?_⟩
    have hSL : (∀ H', SqL K H' o (iL l)) ∨ o ≠ L := by
      rcases s1.seq hS with (h | ⟨ob, h⟩) | h
      · exact .inr (ne_of_none h hL)
      · exact .inr (ne_of_none h hL)
      · exact .inl fun _ => .inr h
    have hSu : ∀ {H' : Hp} {u : HO}, SqL K H' o (iL l) → SqL K (upd H' L u) o (iL l) := fun {H' u} h => by
      rcases hSL with q | q
      · exact q _
      · rcases h with (h | ⟨ob, h⟩) | h
        · exact .inl (.inl (by rw [upd_ne q]; exact h))
        · exact .inl (.inr ⟨ob, by rw [upd_ne q]; exact h⟩)
        · exact .inr h
    have npL : p ≠ L := ne_of_none hp1 hL
    -- while desk.has_more()
    refine while_by (fun σ H2 => ∃ (place : Nat) (acc : List Int) (s : Ql48.St) (kk : Nat) (m : Option LP.Rc) (v3 : Option V), σ = [some (.ref o), some (.ref p), some (.ref L), v3] ∧ LP.Left l place s acc kk ∧ DkAt t K (fun z => z = L) o H2 p l place m ∧ H2 L = some (.lst (iL acc)) ∧ ((m = none ∧ place = 0) ∨ ∃ m0, m = some m0 ∧ LP.Rel kk m0 s))
      (fun σ H2 => l.length - placeOf p H2) ?_ ?_ ?_
    · exact ⟨0, [], _, 0, none, none, rfl, hleft, ⟨dx, .non, by rw [upd_ne npL]; exact hp1, hSu (s1.seq hS), rfl⟩, upd_same, .inl ⟨rfl, rfl⟩⟩
    · rintro σ H2 ⟨place, acc, s, kk, m, v3, rfl, hLf, ⟨dy, rv, hp, hS2, hV⟩, hL2, hm⟩
      refine ⟨_, rfl, p, dy, _, rfl, hp, no_Desk_has_more, p, dy, o, rv, l, place, rfl, hp, hS2, _, rfl, ?_⟩
      refine ite2 (fun h1 => ?_) (fun h1 => ?_)
      · have hlt : place < l.length := of_decide_eq_true h1
        obtain ⟨q, j, hcall, hnext⟩ := LP.left_call hLf hlt
        obtain ⟨hroom, hk300⟩ := LP.left_room hLf hlt
        -- what the call answers is what is due
        obtain ⟨ans, m', hstep, hdue, hrel, hal, hcond⟩ : ∃ ans m', LP.stepM m q = (some m', ans) ∧ ans = LP.due s q ∧ LP.Rel (kk + 1) m' (Ql48.spec s q).1 ∧ ans.length ≤ 1477 ∧ ((∃ o d, q = .begin_ o d) ∨ ∃ m0, m = some m0 ∧ LP.RcOk m0) := by
          rcases hm with ⟨rfl, rfl⟩ | ⟨m0, rfl, hrel⟩
          · obtain ⟨o', d', rfl, q1, q2⟩ := LP.first_call hl0 hcall hd1 hd2
            obtain ⟨f1, f2, f3⟩ := LP.first_rel (o := o') q1 q2 s (kk + 1)
            refine ⟨_, _, Prod.ext f2 rfl, f1, f3, ?_, .inl ⟨_, _, rfl⟩⟩
            unfold LP.stepM
            dsimp only
            split <;> simp
          · have hOk := hrel.ok (by omega)
            obtain ⟨f1, m', f2, f3⟩ := LP.step_rel hrel hcall hlen hu
            exact ⟨_, m', Prod.ext f2 rfl, f1, f3, LP.step_length hOk q, .inr ⟨m0, rfl, hOk⟩⟩
        -- answer = desk.answer_call()
        refine ⟨_, rfl, p, dy, _, rfl, hp, no_Desk_answer_call, p, o, (fun z => z = L), l, place, j, m, q, rfl, (fun z hz => by rw [hz, hL2]; simp), ⟨dy, rv, hp, hS2, hV⟩, hcall, hcond, fun r H3 D3 h3 f3 c3 => ?_⟩
        rw [hstep] at D3 h3
        obtain ⟨dz, rv3, hp3, hS3, hV3⟩ := D3
        obtain ⟨a3, rfl, hR3⟩ := hV3
        have hL3 : H3 L = some (.lst (iL acc)) := c3 _ _ hL2 trivial npL.symm
        have nLr : L ≠ r := f3.ne hL2 trivial
        -- answered.append(len(answer))
        refine ⟨_, rfl, .inl ⟨rfl, _, SqL.of hL3⟩, _, rfl, r, _, rfl, .inl (SqL.of h3), L, _, _, rfl, rfl, hL3, by rw [List.length_map]; omega, ?_⟩
        -- answered.extend(answer)
        refine ⟨_, rfl, .inl ⟨rfl, _, SqL.of upd_same⟩, _, rfl, L, r, _, _, rfl, rfl, upd_same, by rw [upd_ne nLr.symm]; exact h3, by simp; omega, ?_⟩
        rw [upd_upd]
        have eacc : (iL acc ++ [V.int ((iL ans).length : Int)]) ++ iL ans = iL (acc ++ ((ans.length : Int) :: ans)) := by simp
        rw [eacc]
        have hp4 : (upd H3 L (.lst (iL (acc ++ ((ans.length : Int) :: ans))))) p = some (oDk t dz o j (.ref a3)) := by rw [upd_ne npL]; exact hp3
        refine ⟨⟨j, _, (Ql48.spec s q).1, kk + 1, some m', some (.ref r), rfl, hnext ans hdue hal, ⟨dz, .ref a3, hp4, hSu hS3, a3, rfl, hR3.list hL3 rfl⟩, upd_same, .inr ⟨m', rfl, hrel⟩⟩, ?_⟩
        rw [placeOf_eq hp4, placeOf_eq hp]
        have hji := LP.call_lt hcall
        omega
      · have hge : ¬ place < l.length := fun z => h1 (decide_eq_true z)
        have hple := hLf.le
        have hpl : place = l.length := by omega
        subst hpl
        have := LP.left_end hLf
        refine ⟨_, rfl, ?_⟩
        exact k L H2 (by rw [hL2, this])
    · rintro σ H2 Q1 Q2 hq ⟨a1, a2, a3, a4, a5, a6, a7, a8, b1, b2, b3, b4, b5, b6, b7, b8, b9, b10, b11, b12⟩
      exact ⟨a1, a2, a3, a4, a5, a6, a7, a8, b1, b2, b3, b4, b5, b6, b7, b8, b9, b10, b11, hq _ _ b12⟩
end
end My
namespace My
open PySem L2
/-! ### what the top has written -/
theorem txt_mk {K : PySem.W.Frag} {h : Heap} {mg : Str → Option Value} (X : K.In h) (G : h.Ns mainGlobals mg) {c_Counting c_Hearing c_Packet c_Part c_Waiting c_Receiver c_Desk f0 f1 f2 f3 f4 f5 f6 f7 f8 f9 f10 f11 f12 f13 f14 f15 f16 f17 f18 f19 f20 f21 f22 f23 f24 f25 f26 f27 f28 f29 f30 f31 f32 f33 f34 f35 f36 f37 f38 f39 f40 f41 f42 f43 f44 f45 f46 f47 f48 f49 f50 f51 f52 f53 f54 f55 f56 f57 f58 f59 f60 f61 f62 f63 f64 f65 f66 f67 dA_LEAST_LENGTHS dT_LEAST_LENGTHS_0 dT_LEAST_LENGTHS_1 dT_LEAST_LENGTHS_2 dT_LEAST_LENGTHS_3 dT_LEAST_LENGTHS_4 : Addr}
    {od0 an0 od1 an1 od2 an2 od3 an3 od4 an4 od5 an5 od6 an6 od7 an7 od8 an8 od9 an9 od10 an10 od11 an11 od12 an12 od13 an13 od14 an14 od15 an15 od16 an16 od17 an17 od18 an18 od19 an19 od20 an20 od21 an21 od22 an22 od23 an23 od24 an24 od25 an25 od26 an26 od27 an27 od28 an28 od29 an29 od30 an30 od31 an31 od32 an32 od33 an33 od34 an34 od35 an35 od36 an36 od37 an37 od38 an38 od39 an39 od40 an40 od41 an41 od42 an42 od43 an43 od44 an44 od45 an45 od46 an46 od47 an47 od48 an48 od49 an49 od50 an50 od51 an51 od52 an52 od53 an53 od54 an54 od55 an55 od56 an56 od57 an57 od58 an58 od59 an59 od60 an60 od61 an61 od62 an62 od63 an63 od64 an64 od65 an65 od66 an66 od67 an67 : Option Addr} {sl0 sl1 sl2 sl3 sl4 sl5 sl6 sl7 sl8 sl9 sl10 sl11 sl12 sl13 sl14 sl15 sl16 sl17 sl18 sl19 sl20 sl21 sl22 sl23 sl24 sl25 sl26 sl27 sl28 sl29 sl30 sl31 sl32 sl33 sl34 sl35 sl36 sl37 sl38 sl39 sl40 sl41 sl42 sl43 sl44 sl45 sl46 sl47 sl48 sl49 sl50 sl51 sl52 sl53 sl54 sl55 sl56 sl57 sl58 sl59 sl60 sl61 sl62 sl63 sl64 sl65 sl66 sl67 : Array (Option Value)} {oc0 kV0 dc0 pm0 cd0 ct0 oc1 kV1 dc1 pm1 cd1 ct1 oc2 kV2 dc2 pm2 cd2 ct2 oc3 kV3 dc3 pm3 cd3 ct3 oc4 kV4 dc4 pm4 cd4 ct4 oc5 kV5 dc5 pm5 cd5 ct5 oc6 kV6 dc6 pm6 cd6 ct6 oc7 kV7 dc7 pm7 cd7 ct7 oc8 kV8 dc8 pm8 cd8 ct8 oc9 kV9 dc9 pm9 cd9 ct9 oc10 kV10 dc10 pm10 cd10 ct10 oc11 kV11 dc11 pm11 cd11 ct11 oc12 kV12 dc12 pm12 cd12 ct12 oc13 kV13 dc13 pm13 cd13 ct13 oc14 kV14 dc14 pm14 cd14 ct14 oc15 kV15 dc15 pm15 cd15 ct15 oc16 kV16 dc16 pm16 cd16 ct16 oc17 kV17 dc17 pm17 cd17 ct17 oc18 kV18 dc18 pm18 cd18 ct18 oc19 kV19 dc19 pm19 cd19 ct19 oc20 kV20 dc20 pm20 cd20 ct20 oc21 kV21 dc21 pm21 cd21 ct21 oc22 kV22 dc22 pm22 cd22 ct22 oc23 kV23 dc23 pm23 cd23 ct23 oc24 kV24 dc24 pm24 cd24 ct24 oc25 kV25 dc25 pm25 cd25 ct25 oc26 kV26 dc26 pm26 cd26 ct26 oc27 kV27 dc27 pm27 cd27 ct27 oc28 kV28 dc28 pm28 cd28 ct28 oc29 kV29 dc29 pm29 cd29 ct29 oc30 kV30 dc30 pm30 cd30 ct30 oc31 kV31 dc31 pm31 cd31 ct31 oc32 kV32 dc32 pm32 cd32 ct32 oc33 kV33 dc33 pm33 cd33 ct33 oc34 kV34 dc34 pm34 cd34 ct34 oc35 kV35 dc35 pm35 cd35 ct35 oc36 kV36 dc36 pm36 cd36 ct36 oc37 kV37 dc37 pm37 cd37 ct37 oc38 kV38 dc38 pm38 cd38 ct38 oc39 kV39 dc39 pm39 cd39 ct39 oc40 kV40 dc40 pm40 cd40 ct40 oc41 kV41 dc41 pm41 cd41 ct41 oc42 kV42 dc42 pm42 cd42 ct42 oc43 kV43 dc43 pm43 cd43 ct43 oc44 kV44 dc44 pm44 cd44 ct44 oc45 kV45 dc45 pm45 cd45 ct45 oc46 kV46 dc46 pm46 cd46 ct46 oc47 kV47 dc47 pm47 cd47 ct47 oc48 kV48 dc48 pm48 cd48 ct48 oc49 kV49 dc49 pm49 cd49 ct49 oc50 kV50 dc50 pm50 cd50 ct50 oc51 kV51 dc51 pm51 cd51 ct51 oc52 kV52 dc52 pm52 cd52 ct52 oc53 kV53 dc53 pm53 cd53 ct53 oc54 kV54 dc54 pm54 cd54 ct54 oc55 kV55 dc55 pm55 cd55 ct55 oc56 kV56 dc56 pm56 cd56 ct56 oc57 kV57 dc57 pm57 cd57 ct57 oc58 kV58 dc58 pm58 cd58 ct58 oc59 kV59 dc59 pm59 cd59 ct59 oc60 kV60 dc60 pm60 cd60 ct60 oc61 kV61 dc61 pm61 cd61 ct61 oc62 kV62 dc62 pm62 cd62 ct62 oc63 kV63 dc63 pm63 cd63 ct63 oc64 kV64 dc64 pm64 cd64 ct64 oc65 kV65 dc65 pm65 cd65 ct65 oc66 kV66 dc66 pm66 cd66 ct66 oc67 kV67 dc67 pm67 cd67 ct67 : Value}
    {tk_LEAST_LENGTHS_0 tk_LEAST_LENGTHS_1 tk_LEAST_LENGTHS_2 tk_LEAST_LENGTHS_3 tk_LEAST_LENGTHS_4 tk_LEAST_LENGTHS_0_0 tk_LEAST_LENGTHS_0_1 tk_LEAST_LENGTHS_1_0 tk_LEAST_LENGTHS_1_1 tk_LEAST_LENGTHS_2_0 tk_LEAST_LENGTHS_2_1 tk_LEAST_LENGTHS_3_0 tk_LEAST_LENGTHS_3_1 tk_LEAST_LENGTHS_4_0 tk_LEAST_LENGTHS_4_1 tk_MOST_BYTES tk_VERSION tk_PADDING tk_FOUR_BYTES tk_NUMBERS tk_FAR_AHEAD tk_FAR_BEHIND tk_MOST_SHARE tk_LEAST_MISSING tk_MOST_MISSING tk_HEAD_LENGTH tk_EXTENSION tk_OTHER_SOURCES tk_MARK tk_SENDER_REPORT tk_RECEIVER_REPORT tk_GOODBYE tk_LEAST_LENGTH tk_ENTRIES tk_MOST_WAITING tk_MOST_CARRIED tk_KEPT tk_COUNTED tk_NOT_BELIEVED tk_NO_PACKET tk_OTHER_SOURCE tk_NOT_THERE_YET tk_LOST tk_MOST_TOO_SMALL tk_PARTS_NOT_RIGHT tk_NONE_HEARD_OF tk_THREE_BYTES tk_RP_BEGIN tk_RP_RECEIVE tk_RP_TAKE tk_RP_REPORT tk_RP_HEARD tk_RP_TOLD tk_LEAST_DEPTH tk_MOST_DEPTH tk_BEGUN tk_DEPTH_REFUSED : Tok}
    {ep_LEAST_LENGTHS nn_LEAST_LENGTHS_0 nn_LEAST_LENGTHS_1 nn_LEAST_LENGTHS_2 nn_LEAST_LENGTHS_3 nn_LEAST_LENGTHS_4 : Nat} {hh_LEAST_LENGTHS_0 hh_LEAST_LENGTHS_1 hh_LEAST_LENGTHS_2 hh_LEAST_LENGTHS_3 hh_LEAST_LENGTHS_4 : Int}
    (aC_Counting : PySem.W.nsIn K mainGlobals "Counting" = some (some (.ref c_Counting)))
    (aC_Hearing : PySem.W.nsIn K mainGlobals "Hearing" = some (some (.ref c_Hearing)))
    (aC_Packet : PySem.W.nsIn K mainGlobals "Packet" = some (some (.ref c_Packet)))
    (aC_Part : PySem.W.nsIn K mainGlobals "Part" = some (some (.ref c_Part)))
    (aC_Waiting : PySem.W.nsIn K mainGlobals "Waiting" = some (some (.ref c_Waiting)))
    (aC_Receiver : PySem.W.nsIn K mainGlobals "Receiver" = some (some (.ref c_Receiver)))
    (aC_Desk : PySem.W.nsIn K mainGlobals "Desk" = some (some (.ref c_Desk)))
    (a0 : PySem.W.nsIn K mainGlobals "read_number" = some (some (.ref f0)))
    (l0 : K.lookup f0 = some ⟨oc0, od0, .func (PySem.W.fnOf "read_number" "read_number" (defArgs s_read_number) (defBody s_read_number) (defScope s_read_number) .none kV0 dc0 pm0 an0 cd0 ct0), sl0⟩)
    (d0 : PySem.W.codeIn K cd0 "read_number" = true)
    (k0 : PySem.W.keepIn K (.ref f0) = true)
    (a1 : PySem.W.nsIn K mainGlobals "write_number" = some (some (.ref f1)))
    (l1 : K.lookup f1 = some ⟨oc1, od1, .func (PySem.W.fnOf "write_number" "write_number" (defArgs s_write_number) (defBody s_write_number) (defScope s_write_number) .none kV1 dc1 pm1 an1 cd1 ct1), sl1⟩)
    (d1 : PySem.W.codeIn K cd1 "write_number" = true)
    (k1 : PySem.W.keepIn K (.ref f1) = true)
    (a2 : PySem.W.nsIn K mainGlobals "has_version" = some (some (.ref f2)))
    (l2 : K.lookup f2 = some ⟨oc2, od2, .func (PySem.W.fnOf "has_version" "has_version" (defArgs s_has_version) (defBody s_has_version) (defScope s_has_version) .none kV2 dc2 pm2 an2 cd2 ct2), sl2⟩)
    (d2 : PySem.W.codeIn K cd2 "has_version" = true)
    (k2 : PySem.W.keepIn K (.ref f2) = true)
    (a3 : PySem.W.nsIn K mainGlobals "has_padding" = some (some (.ref f3)))
    (l3 : K.lookup f3 = some ⟨oc3, od3, .func (PySem.W.fnOf "has_padding" "has_padding" (defArgs s_has_padding) (defBody s_has_padding) (defScope s_has_padding) .none kV3 dc3 pm3 an3 cd3 ct3), sl3⟩)
    (d3 : PySem.W.codeIn K cd3 "has_padding" = true)
    (k3 : PySem.W.keepIn K (.ref f3) = true)
    (a4 : PySem.W.nsIn K mainGlobals "padding_length" = some (some (.ref f4)))
    (l4 : K.lookup f4 = some ⟨oc4, od4, .func (PySem.W.fnOf "padding_length" "padding_length" (defArgs s_padding_length) (defBody s_padding_length) (defScope s_padding_length) .none kV4 dc4 pm4 an4 cd4 ct4), sl4⟩)
    (d4 : PySem.W.codeIn K cd4 "padding_length" = true)
    (k4 : PySem.W.keepIn K (.ref f4) = true)
    (a5 : PySem.W.findIn K (.ref c_Counting) "__init__" = some (some (.ref f5)))
    (i5 : PySem.W.isFn K (.ref f5) = true)
    (l5 : K.lookup f5 = some ⟨oc5, od5, .func (PySem.W.fnOf "__init__" "Counting.__init__" (defArgs s_Counting_init) (defBody s_Counting_init) (defScope s_Counting_init) .none kV5 dc5 pm5 an5 cd5 ct5), sl5⟩)
    (d5 : PySem.W.codeIn K cd5 "Counting.__init__" = true)
    (k5 : PySem.W.keepIn K (.ref f5) = true)
    (a6 : PySem.W.findIn K (.ref c_Counting) "whole_number" = some (some (.ref f6)))
    (i6 : PySem.W.isFn K (.ref f6) = true)
    (l6 : K.lookup f6 = some ⟨oc6, od6, .func (PySem.W.fnOf "whole_number" "Counting.whole_number" (defArgs s_Counting_whole_number) (defBody s_Counting_whole_number) (defScope s_Counting_whole_number) .none kV6 dc6 pm6 an6 cd6 ct6), sl6⟩)
    (d6 : PySem.W.codeIn K cd6 "Counting.whole_number" = true)
    (k6 : PySem.W.keepIn K (.ref f6) = true)
    (a7 : PySem.W.findIn K (.ref c_Counting) "add_packet" = some (some (.ref f7)))
    (i7 : PySem.W.isFn K (.ref f7) = true)
    (l7 : K.lookup f7 = some ⟨oc7, od7, .func (PySem.W.fnOf "add_packet" "Counting.add_packet" (defArgs s_Counting_add_packet) (defBody s_Counting_add_packet) (defScope s_Counting_add_packet) .none kV7 dc7 pm7 an7 cd7 ct7), sl7⟩)
    (d7 : PySem.W.codeIn K cd7 "Counting.add_packet" = true)
    (k7 : PySem.W.keepIn K (.ref f7) = true)
    (a8 : PySem.W.findIn K (.ref c_Counting) "how_many_expected" = some (some (.ref f8)))
    (i8 : PySem.W.isFn K (.ref f8) = true)
    (l8 : K.lookup f8 = some ⟨oc8, od8, .func (PySem.W.fnOf "how_many_expected" "Counting.how_many_expected" (defArgs s_Counting_how_many_expected) (defBody s_Counting_how_many_expected) (defScope s_Counting_how_many_expected) .none kV8 dc8 pm8 an8 cd8 ct8), sl8⟩)
    (d8 : PySem.W.codeIn K cd8 "Counting.how_many_expected" = true)
    (k8 : PySem.W.keepIn K (.ref f8) = true)
    (a9 : PySem.W.findIn K (.ref c_Counting) "how_many_missing" = some (some (.ref f9)))
    (i9 : PySem.W.isFn K (.ref f9) = true)
    (l9 : K.lookup f9 = some ⟨oc9, od9, .func (PySem.W.fnOf "how_many_missing" "Counting.how_many_missing" (defArgs s_Counting_how_many_missing) (defBody s_Counting_how_many_missing) (defScope s_Counting_how_many_missing) .none kV9 dc9 pm9 an9 cd9 ct9), sl9⟩)
    (d9 : PySem.W.codeIn K cd9 "Counting.how_many_missing" = true)
    (k9 : PySem.W.keepIn K (.ref f9) = true)
    (a10 : PySem.W.findIn K (.ref c_Counting) "share_lost_since_told" = some (some (.ref f10)))
    (i10 : PySem.W.isFn K (.ref f10) = true)
    (l10 : K.lookup f10 = some ⟨oc10, od10, .func (PySem.W.fnOf "share_lost_since_told" "Counting.share_lost_since_told" (defArgs s_Counting_share_lost_since_told) (defBody s_Counting_share_lost_since_told) (defScope s_Counting_share_lost_since_told) .none kV10 dc10 pm10 an10 cd10 ct10), sl10⟩)
    (d10 : PySem.W.codeIn K cd10 "Counting.share_lost_since_told" = true)
    (k10 : PySem.W.keepIn K (.ref f10) = true)
    (a11 : PySem.W.findIn K (.ref c_Counting) "note_told" = some (some (.ref f11)))
    (i11 : PySem.W.isFn K (.ref f11) = true)
    (l11 : K.lookup f11 = some ⟨oc11, od11, .func (PySem.W.fnOf "note_told" "Counting.note_told" (defArgs s_Counting_note_told) (defBody s_Counting_note_told) (defScope s_Counting_note_told) .none kV11 dc11 pm11 an11 cd11 ct11), sl11⟩)
    (d11 : PySem.W.codeIn K cd11 "Counting.note_told" = true)
    (k11 : PySem.W.keepIn K (.ref f11) = true)
    (a12 : PySem.W.findIn K (.ref c_Counting) "told_jitter" = some (some (.ref f12)))
    (i12 : PySem.W.isFn K (.ref f12) = true)
    (l12 : K.lookup f12 = some ⟨oc12, od12, .func (PySem.W.fnOf "told_jitter" "Counting.told_jitter" (defArgs s_Counting_told_jitter) (defBody s_Counting_told_jitter) (defScope s_Counting_told_jitter) .none kV12 dc12 pm12 an12 cd12 ct12), sl12⟩)
    (d12 : PySem.W.codeIn K cd12 "Counting.told_jitter" = true)
    (k12 : PySem.W.keepIn K (.ref f12) = true)
    (a13 : PySem.W.nsIn K mainGlobals "share_lost" = some (some (.ref f13)))
    (l13 : K.lookup f13 = some ⟨oc13, od13, .func (PySem.W.fnOf "share_lost" "share_lost" (defArgs s_share_lost) (defBody s_share_lost) (defScope s_share_lost) .none kV13 dc13 pm13 an13 cd13 ct13), sl13⟩)
    (d13 : PySem.W.codeIn K cd13 "share_lost" = true)
    (k13 : PySem.W.keepIn K (.ref f13) = true)
    (a14 : PySem.W.nsIn K mainGlobals "held_missing" = some (some (.ref f14)))
    (l14 : K.lookup f14 = some ⟨oc14, od14, .func (PySem.W.fnOf "held_missing" "held_missing" (defArgs s_held_missing) (defBody s_held_missing) (defScope s_held_missing) .none kV14 dc14 pm14 an14 cd14 ct14), sl14⟩)
    (d14 : PySem.W.codeIn K cd14 "held_missing" = true)
    (k14 : PySem.W.keepIn K (.ref f14) = true)
    (a15 : PySem.W.nsIn K mainGlobals "number_behind" = some (some (.ref f15)))
    (l15 : K.lookup f15 = some ⟨oc15, od15, .func (PySem.W.fnOf "number_behind" "number_behind" (defArgs s_number_behind) (defBody s_number_behind) (defScope s_number_behind) .none kV15 dc15 pm15 an15 cd15 ct15), sl15⟩)
    (d15 : PySem.W.codeIn K cd15 "number_behind" = true)
    (k15 : PySem.W.keepIn K (.ref f15) = true)
    (a16 : PySem.W.nsIn K mainGlobals "way_of" = some (some (.ref f16)))
    (l16 : K.lookup f16 = some ⟨oc16, od16, .func (PySem.W.fnOf "way_of" "way_of" (defArgs s_way_of) (defBody s_way_of) (defScope s_way_of) .none kV16 dc16 pm16 an16 cd16 ct16), sl16⟩)
    (d16 : PySem.W.codeIn K cd16 "way_of" = true)
    (k16 : PySem.W.keepIn K (.ref f16) = true)
    (a17 : PySem.W.nsIn K mainGlobals "way_change" = some (some (.ref f17)))
    (l17 : K.lookup f17 = some ⟨oc17, od17, .func (PySem.W.fnOf "way_change" "way_change" (defArgs s_way_change) (defBody s_way_change) (defScope s_way_change) .none kV17 dc17 pm17 an17 cd17 ct17), sl17⟩)
    (d17 : PySem.W.codeIn K cd17 "way_change" = true)
    (k17 : PySem.W.keepIn K (.ref f17) = true)
    (a18 : PySem.W.nsIn K mainGlobals "next_jitter" = some (some (.ref f18)))
    (l18 : K.lookup f18 = some ⟨oc18, od18, .func (PySem.W.fnOf "next_jitter" "next_jitter" (defArgs s_next_jitter) (defBody s_next_jitter) (defScope s_next_jitter) .none kV18 dc18 pm18 an18 cd18 ct18), sl18⟩)
    (d18 : PySem.W.codeIn K cd18 "next_jitter" = true)
    (k18 : PySem.W.keepIn K (.ref f18) = true)
    (a19 : PySem.W.findIn K (.ref c_Hearing) "__init__" = some (some (.ref f19)))
    (i19 : PySem.W.isFn K (.ref f19) = true)
    (l19 : K.lookup f19 = some ⟨oc19, od19, .func (PySem.W.fnOf "__init__" "Hearing.__init__" (defArgs s_Hearing_init) (defBody s_Hearing_init) (defScope s_Hearing_init) .none kV19 dc19 pm19 an19 cd19 ct19), sl19⟩)
    (d19 : PySem.W.codeIn K cd19 "Hearing.__init__" = true)
    (k19 : PySem.W.keepIn K (.ref f19) = true)
    (a20 : PySem.W.findIn K (.ref c_Hearing) "note_part" = some (some (.ref f20)))
    (i20 : PySem.W.isFn K (.ref f20) = true)
    (l20 : K.lookup f20 = some ⟨oc20, od20, .func (PySem.W.fnOf "note_part" "Hearing.note_part" (defArgs s_Hearing_note_part) (defBody s_Hearing_note_part) (defScope s_Hearing_note_part) .none kV20 dc20 pm20 an20 cd20 ct20), sl20⟩)
    (d20 : PySem.W.codeIn K cd20 "Hearing.note_part" = true)
    (k20 : PySem.W.keepIn K (.ref f20) = true)
    (a21 : PySem.W.findIn K (.ref c_Hearing) "time_since_report" = some (some (.ref f21)))
    (i21 : PySem.W.isFn K (.ref f21) = true)
    (l21 : K.lookup f21 = some ⟨oc21, od21, .func (PySem.W.fnOf "time_since_report" "Hearing.time_since_report" (defArgs s_Hearing_time_since_report) (defBody s_Hearing_time_since_report) (defScope s_Hearing_time_since_report) .none kV21 dc21 pm21 an21 cd21 ct21), sl21⟩)
    (d21 : PySem.W.codeIn K cd21 "Hearing.time_since_report" = true)
    (k21 : PySem.W.keepIn K (.ref f21) = true)
    (a22 : PySem.W.findIn K (.ref c_Packet) "__init__" = some (some (.ref f22)))
    (i22 : PySem.W.isFn K (.ref f22) = true)
    (l22 : K.lookup f22 = some ⟨oc22, od22, .func (PySem.W.fnOf "__init__" "Packet.__init__" (defArgs s_Packet_init) (defBody s_Packet_init) (defScope s_Packet_init) .none kV22 dc22 pm22 an22 cd22 ct22), sl22⟩)
    (d22 : PySem.W.codeIn K cd22 "Packet.__init__" = true)
    (k22 : PySem.W.keepIn K (.ref f22) = true)
    (a23 : PySem.W.nsIn K mainGlobals "carried_start" = some (some (.ref f23)))
    (l23 : K.lookup f23 = some ⟨oc23, od23, .func (PySem.W.fnOf "carried_start" "carried_start" (defArgs s_carried_start) (defBody s_carried_start) (defScope s_carried_start) .none kV23 dc23 pm23 an23 cd23 ct23), sl23⟩)
    (d23 : PySem.W.codeIn K cd23 "carried_start" = true)
    (k23 : PySem.W.keepIn K (.ref f23) = true)
    (a24 : PySem.W.nsIn K mainGlobals "read_packet" = some (some (.ref f24)))
    (l24 : K.lookup f24 = some ⟨oc24, od24, .func (PySem.W.fnOf "read_packet" "read_packet" (defArgs s_read_packet) (defBody s_read_packet) (defScope s_read_packet) .none kV24 dc24 pm24 an24 cd24 ct24), sl24⟩)
    (d24 : PySem.W.codeIn K cd24 "read_packet" = true)
    (k24 : PySem.W.keepIn K (.ref f24) = true)
    (a25 : PySem.W.findIn K (.ref c_Part) "__init__" = some (some (.ref f25)))
    (i25 : PySem.W.isFn K (.ref f25) = true)
    (l25 : K.lookup f25 = some ⟨oc25, od25, .func (PySem.W.fnOf "__init__" "Part.__init__" (defArgs s_Part_init) (defBody s_Part_init) (defScope s_Part_init) .none kV25 dc25 pm25 an25 cd25 ct25), sl25⟩)
    (d25 : PySem.W.codeIn K cd25 "Part.__init__" = true)
    (k25 : PySem.W.keepIn K (.ref f25) = true)
    (a26 : PySem.W.findIn K (.ref c_Part) "is_sender_report_of" = some (some (.ref f26)))
    (i26 : PySem.W.isFn K (.ref f26) = true)
    (l26 : K.lookup f26 = some ⟨oc26, od26, .func (PySem.W.fnOf "is_sender_report_of" "Part.is_sender_report_of" (defArgs s_Part_is_sender_report_of) (defBody s_Part_is_sender_report_of) (defScope s_Part_is_sender_report_of) .none kV26 dc26 pm26 an26 cd26 ct26), sl26⟩)
    (d26 : PySem.W.codeIn K cd26 "Part.is_sender_report_of" = true)
    (k26 : PySem.W.keepIn K (.ref f26) = true)
    (a27 : PySem.W.findIn K (.ref c_Part) "middle_of_time" = some (some (.ref f27)))
    (i27 : PySem.W.isFn K (.ref f27) = true)
    (l27 : K.lookup f27 = some ⟨oc27, od27, .func (PySem.W.fnOf "middle_of_time" "Part.middle_of_time" (defArgs s_Part_middle_of_time) (defBody s_Part_middle_of_time) (defScope s_Part_middle_of_time) .none kV27 dc27 pm27 an27 cd27 ct27), sl27⟩)
    (d27 : PySem.W.codeIn K cd27 "Part.middle_of_time" = true)
    (k27 : PySem.W.keepIn K (.ref f27) = true)
    (a28 : PySem.W.findIn K (.ref c_Part) "is_goodbye_of" = some (some (.ref f28)))
    (i28 : PySem.W.isFn K (.ref f28) = true)
    (l28 : K.lookup f28 = some ⟨oc28, od28, .func (PySem.W.fnOf "is_goodbye_of" "Part.is_goodbye_of" (defArgs s_Part_is_goodbye_of) (defBody s_Part_is_goodbye_of) (defScope s_Part_is_goodbye_of) .none kV28 dc28 pm28 an28 cd28 ct28), sl28⟩)
    (d28 : PySem.W.codeIn K cd28 "Part.is_goodbye_of" = true)
    (k28 : PySem.W.keepIn K (.ref f28) = true)
    (a29 : PySem.W.findIn K (.ref c_Part) "leaving" = some (some (.ref f29)))
    (i29 : PySem.W.isFn K (.ref f29) = true)
    (l29 : K.lookup f29 = some ⟨oc29, od29, .func (PySem.W.fnOf "leaving" "Part.leaving" (defArgs s_Part_leaving) (defBody s_Part_leaving) (defScope s_Part_leaving) .none kV29 dc29 pm29 an29 cd29 ct29), sl29⟩)
    (d29 : PySem.W.codeIn K cd29 "Part.leaving" = true)
    (k29 : PySem.W.keepIn K (.ref f29) = true)
    (a30 : PySem.W.findIn K (.ref c_Part) "is_right" = some (some (.ref f30)))
    (i30 : PySem.W.isFn K (.ref f30) = true)
    (l30 : K.lookup f30 = some ⟨oc30, od30, .func (PySem.W.fnOf "is_right" "Part.is_right" (defArgs s_Part_is_right) (defBody s_Part_is_right) (defScope s_Part_is_right) .none kV30 dc30 pm30 an30 cd30 ct30), sl30⟩)
    (d30 : PySem.W.codeIn K cd30 "Part.is_right" = true)
    (k30 : PySem.W.keepIn K (.ref f30) = true)
    (a31 : PySem.W.findIn K (.ref c_Part) "is_long_enough" = some (some (.ref f31)))
    (i31 : PySem.W.isFn K (.ref f31) = true)
    (l31 : K.lookup f31 = some ⟨oc31, od31, .func (PySem.W.fnOf "is_long_enough" "Part.is_long_enough" (defArgs s_Part_is_long_enough) (defBody s_Part_is_long_enough) (defScope s_Part_is_long_enough) .none kV31 dc31 pm31 an31 cd31 ct31), sl31⟩)
    (d31 : PySem.W.codeIn K cd31 "Part.is_long_enough" = true)
    (k31 : PySem.W.keepIn K (.ref f31) = true)
    (a32 : PySem.W.nsIn K mainGlobals "padding_fits" = some (some (.ref f32)))
    (l32 : K.lookup f32 = some ⟨oc32, od32, .func (PySem.W.fnOf "padding_fits" "padding_fits" (defArgs s_padding_fits) (defBody s_padding_fits) (defScope s_padding_fits) .none kV32 dc32 pm32 an32 cd32 ct32), sl32⟩)
    (d32 : PySem.W.codeIn K cd32 "padding_fits" = true)
    (k32 : PySem.W.keepIn K (.ref f32) = true)
    (a33 : PySem.W.nsIn K mainGlobals "cut_part" = some (some (.ref f33)))
    (l33 : K.lookup f33 = some ⟨oc33, od33, .func (PySem.W.fnOf "cut_part" "cut_part" (defArgs s_cut_part) (defBody s_cut_part) (defScope s_cut_part) .none kV33 dc33 pm33 an33 cd33 ct33), sl33⟩)
    (d33 : PySem.W.codeIn K cd33 "cut_part" = true)
    (k33 : PySem.W.keepIn K (.ref f33) = true)
    (a34 : PySem.W.nsIn K mainGlobals "begins_rightly" = some (some (.ref f34)))
    (l34 : K.lookup f34 = some ⟨oc34, od34, .func (PySem.W.fnOf "begins_rightly" "begins_rightly" (defArgs s_begins_rightly) (defBody s_begins_rightly) (defScope s_begins_rightly) .none kV34 dc34 pm34 an34 cd34 ct34), sl34⟩)
    (d34 : PySem.W.codeIn K cd34 "begins_rightly" = true)
    (k34 : PySem.W.keepIn K (.ref f34) = true)
    (a35 : PySem.W.nsIn K mainGlobals "is_padded_rightly" = some (some (.ref f35)))
    (l35 : K.lookup f35 = some ⟨oc35, od35, .func (PySem.W.fnOf "is_padded_rightly" "is_padded_rightly" (defArgs s_is_padded_rightly) (defBody s_is_padded_rightly) (defScope s_is_padded_rightly) .none kV35 dc35 pm35 an35 cd35 ct35), sl35⟩)
    (d35 : PySem.W.codeIn K cd35 "is_padded_rightly" = true)
    (k35 : PySem.W.keepIn K (.ref f35) = true)
    (a36 : PySem.W.nsIn K mainGlobals "read_parts" = some (some (.ref f36)))
    (l36 : K.lookup f36 = some ⟨oc36, od36, .func (PySem.W.fnOf "read_parts" "read_parts" (defArgs s_read_parts) (defBody s_read_parts) (defScope s_read_parts) .none kV36 dc36 pm36 an36 cd36 ct36), sl36⟩)
    (d36 : PySem.W.codeIn K cd36 "read_parts" = true)
    (k36 : PySem.W.keepIn K (.ref f36) = true)
    (a37 : PySem.W.nsIn K mainGlobals "write_report" = some (some (.ref f37)))
    (l37 : K.lookup f37 = some ⟨oc37, od37, .func (PySem.W.fnOf "write_report" "write_report" (defArgs s_write_report) (defBody s_write_report) (defScope s_write_report) .none kV37 dc37 pm37 an37 cd37 ct37), sl37⟩)
    (d37 : PySem.W.codeIn K cd37 "write_report" = true)
    (k37 : PySem.W.keepIn K (.ref f37) = true)
    (a38 : PySem.W.nsIn K mainGlobals "write_block" = some (some (.ref f38)))
    (l38 : K.lookup f38 = some ⟨oc38, od38, .func (PySem.W.fnOf "write_block" "write_block" (defArgs s_write_block) (defBody s_write_block) (defScope s_write_block) .none kV38 dc38 pm38 an38 cd38 ct38), sl38⟩)
    (d38 : PySem.W.codeIn K cd38 "write_block" = true)
    (k38 : PySem.W.keepIn K (.ref f38) = true)
    (a39 : PySem.W.nsIn K mainGlobals "write_counts" = some (some (.ref f39)))
    (l39 : K.lookup f39 = some ⟨oc39, od39, .func (PySem.W.fnOf "write_counts" "write_counts" (defArgs s_write_counts) (defBody s_write_counts) (defScope s_write_counts) .none kV39 dc39 pm39 an39 cd39 ct39), sl39⟩)
    (d39 : PySem.W.codeIn K cd39 "write_counts" = true)
    (k39 : PySem.W.keepIn K (.ref f39) = true)
    (a40 : PySem.W.nsIn K mainGlobals "write_heard" = some (some (.ref f40)))
    (l40 : K.lookup f40 = some ⟨oc40, od40, .func (PySem.W.fnOf "write_heard" "write_heard" (defArgs s_write_heard) (defBody s_write_heard) (defScope s_write_heard) .none kV40 dc40 pm40 an40 cd40 ct40), sl40⟩)
    (d40 : PySem.W.codeIn K cd40 "write_heard" = true)
    (k40 : PySem.W.keepIn K (.ref f40) = true)
    (a41 : PySem.W.findIn K (.ref c_Waiting) "__init__" = some (some (.ref f41)))
    (i41 : PySem.W.isFn K (.ref f41) = true)
    (l41 : K.lookup f41 = some ⟨oc41, od41, .func (PySem.W.fnOf "__init__" "Waiting.__init__" (defArgs s_Waiting_init) (defBody s_Waiting_init) (defScope s_Waiting_init) .none kV41 dc41 pm41 an41 cd41 ct41), sl41⟩)
    (d41 : PySem.W.codeIn K cd41 "Waiting.__init__" = true)
    (k41 : PySem.W.keepIn K (.ref f41) = true)
    (a42 : PySem.W.findIn K (.ref c_Waiting) "try_keep" = some (some (.ref f42)))
    (i42 : PySem.W.isFn K (.ref f42) = true)
    (l42 : K.lookup f42 = some ⟨oc42, od42, .func (PySem.W.fnOf "try_keep" "Waiting.try_keep" (defArgs s_Waiting_try_keep) (defBody s_Waiting_try_keep) (defScope s_Waiting_try_keep) .none kV42 dc42 pm42 an42 cd42 ct42), sl42⟩)
    (d42 : PySem.W.codeIn K cd42 "Waiting.try_keep" = true)
    (k42 : PySem.W.keepIn K (.ref f42) = true)
    (a43 : PySem.W.findIn K (.ref c_Waiting) "how_many" = some (some (.ref f43)))
    (i43 : PySem.W.isFn K (.ref f43) = true)
    (l43 : K.lookup f43 = some ⟨oc43, od43, .func (PySem.W.fnOf "how_many" "Waiting.how_many" (defArgs s_Waiting_how_many) (defBody s_Waiting_how_many) (defScope s_Waiting_how_many) .none kV43 dc43 pm43 an43 cd43 ct43), sl43⟩)
    (d43 : PySem.W.codeIn K cd43 "Waiting.how_many" = true)
    (k43 : PySem.W.keepIn K (.ref f43) = true)
    (a44 : PySem.W.findIn K (.ref c_Waiting) "due_waits" = some (some (.ref f44)))
    (i44 : PySem.W.isFn K (.ref f44) = true)
    (l44 : K.lookup f44 = some ⟨oc44, od44, .func (PySem.W.fnOf "due_waits" "Waiting.due_waits" (defArgs s_Waiting_due_waits) (defBody s_Waiting_due_waits) (defScope s_Waiting_due_waits) .none kV44 dc44 pm44 an44 cd44 ct44), sl44⟩)
    (d44 : PySem.W.codeIn K cd44 "Waiting.due_waits" = true)
    (k44 : PySem.W.keepIn K (.ref f44) = true)
    (a45 : PySem.W.findIn K (.ref c_Waiting) "take_due" = some (some (.ref f45)))
    (i45 : PySem.W.isFn K (.ref f45) = true)
    (l45 : K.lookup f45 = some ⟨oc45, od45, .func (PySem.W.fnOf "take_due" "Waiting.take_due" (defArgs s_Waiting_take_due) (defBody s_Waiting_take_due) (defScope s_Waiting_take_due) .none kV45 dc45 pm45 an45 cd45 ct45), sl45⟩)
    (d45 : PySem.W.codeIn K cd45 "Waiting.take_due" = true)
    (k45 : PySem.W.keepIn K (.ref f45) = true)
    (a46 : PySem.W.findIn K (.ref c_Waiting) "give_up_due" = some (some (.ref f46)))
    (i46 : PySem.W.isFn K (.ref f46) = true)
    (l46 : K.lookup f46 = some ⟨oc46, od46, .func (PySem.W.fnOf "give_up_due" "Waiting.give_up_due" (defArgs s_Waiting_give_up_due) (defBody s_Waiting_give_up_due) (defScope s_Waiting_give_up_due) .none kV46 dc46 pm46 an46 cd46 ct46), sl46⟩)
    (d46 : PySem.W.codeIn K cd46 "Waiting.give_up_due" = true)
    (k46 : PySem.W.keepIn K (.ref f46) = true)
    (a47 : PySem.W.findIn K (.ref c_Receiver) "__init__" = some (some (.ref f47)))
    (i47 : PySem.W.isFn K (.ref f47) = true)
    (l47 : K.lookup f47 = some ⟨oc47, od47, .func (PySem.W.fnOf "__init__" "Receiver.__init__" (defArgs s_Receiver_init) (defBody s_Receiver_init) (defScope s_Receiver_init) .none kV47 dc47 pm47 an47 cd47 ct47), sl47⟩)
    (d47 : PySem.W.codeIn K cd47 "Receiver.__init__" = true)
    (k47 : PySem.W.keepIn K (.ref f47) = true)
    (a48 : PySem.W.findIn K (.ref c_Receiver) "receive" = some (some (.ref f48)))
    (i48 : PySem.W.isFn K (.ref f48) = true)
    (l48 : K.lookup f48 = some ⟨oc48, od48, .func (PySem.W.fnOf "receive" "Receiver.receive" (defArgs s_Receiver_receive) (defBody s_Receiver_receive) (defScope s_Receiver_receive) .none kV48 dc48 pm48 an48 cd48 ct48), sl48⟩)
    (d48 : PySem.W.codeIn K cd48 "Receiver.receive" = true)
    (k48 : PySem.W.keepIn K (.ref f48) = true)
    (a49 : PySem.W.findIn K (.ref c_Receiver) "doubt" = some (some (.ref f49)))
    (i49 : PySem.W.isFn K (.ref f49) = true)
    (l49 : K.lookup f49 = some ⟨oc49, od49, .func (PySem.W.fnOf "doubt" "Receiver.doubt" (defArgs s_Receiver_doubt) (defBody s_Receiver_doubt) (defScope s_Receiver_doubt) .none kV49 dc49 pm49 an49 cd49 ct49), sl49⟩)
    (d49 : PySem.W.codeIn K cd49 "Receiver.doubt" = true)
    (k49 : PySem.W.keepIn K (.ref f49) = true)
    (a50 : PySem.W.findIn K (.ref c_Receiver) "begin_numbers" = some (some (.ref f50)))
    (i50 : PySem.W.isFn K (.ref f50) = true)
    (l50 : K.lookup f50 = some ⟨oc50, od50, .func (PySem.W.fnOf "begin_numbers" "Receiver.begin_numbers" (defArgs s_Receiver_begin_numbers) (defBody s_Receiver_begin_numbers) (defScope s_Receiver_begin_numbers) .none kV50 dc50 pm50 an50 cd50 ct50), sl50⟩)
    (d50 : PySem.W.codeIn K cd50 "Receiver.begin_numbers" = true)
    (k50 : PySem.W.keepIn K (.ref f50) = true)
    (a51 : PySem.W.findIn K (.ref c_Receiver) "keep_counted" = some (some (.ref f51)))
    (i51 : PySem.W.isFn K (.ref f51) = true)
    (l51 : K.lookup f51 = some ⟨oc51, od51, .func (PySem.W.fnOf "keep_counted" "Receiver.keep_counted" (defArgs s_Receiver_keep_counted) (defBody s_Receiver_keep_counted) (defScope s_Receiver_keep_counted) .none kV51 dc51 pm51 an51 cd51 ct51), sl51⟩)
    (d51 : PySem.W.codeIn K cd51 "Receiver.keep_counted" = true)
    (k51 : PySem.W.keepIn K (.ref f51) = true)
    (a52 : PySem.W.findIn K (.ref c_Receiver) "take" = some (some (.ref f52)))
    (i52 : PySem.W.isFn K (.ref f52) = true)
    (l52 : K.lookup f52 = some ⟨oc52, od52, .func (PySem.W.fnOf "take" "Receiver.take" (defArgs s_Receiver_take) (defBody s_Receiver_take) (defScope s_Receiver_take) .none kV52 dc52 pm52 an52 cd52 ct52), sl52⟩)
    (d52 : PySem.W.codeIn K cd52 "Receiver.take" = true)
    (k52 : PySem.W.keepIn K (.ref f52) = true)
    (a53 : PySem.W.findIn K (.ref c_Receiver) "report" = some (some (.ref f53)))
    (i53 : PySem.W.isFn K (.ref f53) = true)
    (l53 : K.lookup f53 = some ⟨oc53, od53, .func (PySem.W.fnOf "report" "Receiver.report" (defArgs s_Receiver_report) (defBody s_Receiver_report) (defScope s_Receiver_report) .none kV53 dc53 pm53 an53 cd53 ct53), sl53⟩)
    (d53 : PySem.W.codeIn K cd53 "Receiver.report" = true)
    (k53 : PySem.W.keepIn K (.ref f53) = true)
    (a54 : PySem.W.findIn K (.ref c_Receiver) "report_block" = some (some (.ref f54)))
    (i54 : PySem.W.isFn K (.ref f54) = true)
    (l54 : K.lookup f54 = some ⟨oc54, od54, .func (PySem.W.fnOf "report_block" "Receiver.report_block" (defArgs s_Receiver_report_block) (defBody s_Receiver_report_block) (defScope s_Receiver_report_block) .none kV54 dc54 pm54 an54 cd54 ct54), sl54⟩)
    (d54 : PySem.W.codeIn K cd54 "Receiver.report_block" = true)
    (k54 : PySem.W.keepIn K (.ref f54) = true)
    (a55 : PySem.W.findIn K (.ref c_Receiver) "hear" = some (some (.ref f55)))
    (i55 : PySem.W.isFn K (.ref f55) = true)
    (l55 : K.lookup f55 = some ⟨oc55, od55, .func (PySem.W.fnOf "hear" "Receiver.hear" (defArgs s_Receiver_hear) (defBody s_Receiver_hear) (defScope s_Receiver_hear) .none kV55 dc55 pm55 an55 cd55 ct55), sl55⟩)
    (d55 : PySem.W.codeIn K cd55 "Receiver.hear" = true)
    (k55 : PySem.W.keepIn K (.ref f55) = true)
    (a56 : PySem.W.findIn K (.ref c_Receiver) "tell" = some (some (.ref f56)))
    (i56 : PySem.W.isFn K (.ref f56) = true)
    (l56 : K.lookup f56 = some ⟨oc56, od56, .func (PySem.W.fnOf "tell" "Receiver.tell" (defArgs s_Receiver_tell) (defBody s_Receiver_tell) (defScope s_Receiver_tell) .none kV56 dc56 pm56 an56 cd56 ct56), sl56⟩)
    (d56 : PySem.W.codeIn K cd56 "Receiver.tell" = true)
    (k56 : PySem.W.keepIn K (.ref f56) = true)
    (a57 : PySem.W.findIn K (.ref c_Receiver) "told_counts" = some (some (.ref f57)))
    (i57 : PySem.W.isFn K (.ref f57) = true)
    (l57 : K.lookup f57 = some ⟨oc57, od57, .func (PySem.W.fnOf "told_counts" "Receiver.told_counts" (defArgs s_Receiver_told_counts) (defBody s_Receiver_told_counts) (defScope s_Receiver_told_counts) .none kV57 dc57 pm57 an57 cd57 ct57), sl57⟩)
    (d57 : PySem.W.codeIn K cd57 "Receiver.told_counts" = true)
    (k57 : PySem.W.keepIn K (.ref f57) = true)
    (a58 : PySem.W.nsIn K mainGlobals "taken" = some (some (.ref f58)))
    (l58 : K.lookup f58 = some ⟨oc58, od58, .func (PySem.W.fnOf "taken" "taken" (defArgs s_taken) (defBody s_taken) (defScope s_taken) .none kV58 dc58 pm58 an58 cd58 ct58), sl58⟩)
    (d58 : PySem.W.codeIn K cd58 "taken" = true)
    (k58 : PySem.W.keepIn K (.ref f58) = true)
    (a59 : PySem.W.findIn K (.ref c_Desk) "__init__" = some (some (.ref f59)))
    (i59 : PySem.W.isFn K (.ref f59) = true)
    (l59 : K.lookup f59 = some ⟨oc59, od59, .func (PySem.W.fnOf "__init__" "Desk.__init__" (defArgs s_Desk_init) (defBody s_Desk_init) (defScope s_Desk_init) .none kV59 dc59 pm59 an59 cd59 ct59), sl59⟩)
    (d59 : PySem.W.codeIn K cd59 "Desk.__init__" = true)
    (k59 : PySem.W.keepIn K (.ref f59) = true)
    (a60 : PySem.W.findIn K (.ref c_Desk) "has_more" = some (some (.ref f60)))
    (i60 : PySem.W.isFn K (.ref f60) = true)
    (l60 : K.lookup f60 = some ⟨oc60, od60, .func (PySem.W.fnOf "has_more" "Desk.has_more" (defArgs s_Desk_has_more) (defBody s_Desk_has_more) (defScope s_Desk_has_more) .none kV60 dc60 pm60 an60 cd60 ct60), sl60⟩)
    (d60 : PySem.W.codeIn K cd60 "Desk.has_more" = true)
    (k60 : PySem.W.keepIn K (.ref f60) = true)
    (a61 : PySem.W.findIn K (.ref c_Desk) "draw" = some (some (.ref f61)))
    (i61 : PySem.W.isFn K (.ref f61) = true)
    (l61 : K.lookup f61 = some ⟨oc61, od61, .func (PySem.W.fnOf "draw" "Desk.draw" (defArgs s_Desk_draw) (defBody s_Desk_draw) (defScope s_Desk_draw) .none kV61 dc61 pm61 an61 cd61 ct61), sl61⟩)
    (d61 : PySem.W.codeIn K cd61 "Desk.draw" = true)
    (k61 : PySem.W.keepIn K (.ref f61) = true)
    (a62 : PySem.W.findIn K (.ref c_Desk) "draw_row" = some (some (.ref f62)))
    (i62 : PySem.W.isFn K (.ref f62) = true)
    (l62 : K.lookup f62 = some ⟨oc62, od62, .func (PySem.W.fnOf "draw_row" "Desk.draw_row" (defArgs s_Desk_draw_row) (defBody s_Desk_draw_row) (defScope s_Desk_draw_row) .none kV62 dc62 pm62 an62 cd62 ct62), sl62⟩)
    (d62 : PySem.W.codeIn K cd62 "Desk.draw_row" = true)
    (k62 : PySem.W.keepIn K (.ref f62) = true)
    (a63 : PySem.W.findIn K (.ref c_Desk) "answer_call" = some (some (.ref f63)))
    (i63 : PySem.W.isFn K (.ref f63) = true)
    (l63 : K.lookup f63 = some ⟨oc63, od63, .func (PySem.W.fnOf "answer_call" "Desk.answer_call" (defArgs s_Desk_answer_call) (defBody s_Desk_answer_call) (defScope s_Desk_answer_call) .none kV63 dc63 pm63 an63 cd63 ct63), sl63⟩)
    (d63 : PySem.W.codeIn K cd63 "Desk.answer_call" = true)
    (k63 : PySem.W.keepIn K (.ref f63) = true)
    (a64 : PySem.W.findIn K (.ref c_Desk) "answer_begin" = some (some (.ref f64)))
    (i64 : PySem.W.isFn K (.ref f64) = true)
    (l64 : K.lookup f64 = some ⟨oc64, od64, .func (PySem.W.fnOf "answer_begin" "Desk.answer_begin" (defArgs s_Desk_answer_begin) (defBody s_Desk_answer_begin) (defScope s_Desk_answer_begin) .none kV64 dc64 pm64 an64 cd64 ct64), sl64⟩)
    (d64 : PySem.W.codeIn K cd64 "Desk.answer_begin" = true)
    (k64 : PySem.W.keepIn K (.ref f64) = true)
    (a65 : PySem.W.findIn K (.ref c_Desk) "answer_receive" = some (some (.ref f65)))
    (i65 : PySem.W.isFn K (.ref f65) = true)
    (l65 : K.lookup f65 = some ⟨oc65, od65, .func (PySem.W.fnOf "answer_receive" "Desk.answer_receive" (defArgs s_Desk_answer_receive) (defBody s_Desk_answer_receive) (defScope s_Desk_answer_receive) .none kV65 dc65 pm65 an65 cd65 ct65), sl65⟩)
    (d65 : PySem.W.codeIn K cd65 "Desk.answer_receive" = true)
    (k65 : PySem.W.keepIn K (.ref f65) = true)
    (a66 : PySem.W.findIn K (.ref c_Desk) "answer_heard" = some (some (.ref f66)))
    (i66 : PySem.W.isFn K (.ref f66) = true)
    (l66 : K.lookup f66 = some ⟨oc66, od66, .func (PySem.W.fnOf "answer_heard" "Desk.answer_heard" (defArgs s_Desk_answer_heard) (defBody s_Desk_answer_heard) (defScope s_Desk_answer_heard) .none kV66 dc66 pm66 an66 cd66 ct66), sl66⟩)
    (d66 : PySem.W.codeIn K cd66 "Desk.answer_heard" = true)
    (k66 : PySem.W.keepIn K (.ref f66) = true)
    (a67 : PySem.W.nsIn K mainGlobals "answers" = some (some (.ref f67)))
    (l67 : K.lookup f67 = some ⟨oc67, od67, .func (PySem.W.fnOf "answers" "answers" (defArgs s_answers) (defBody s_answers) (defScope s_answers) .none kV67 dc67 pm67 an67 cd67 ct67), sl67⟩)
    (d67 : PySem.W.codeIn K cd67 "answers" = true)
    (k67 : PySem.W.keepIn K (.ref f67) = true)
    (pg_Counting : PySem.W.plainGet K c_Counting Str.empty = true)
    (hd_Counting : PySem.W.hasDictIn K c_Counting = true)
    (po_Counting : PySem.W.plainOver K c_Counting = true)
    (sa_Counting : PySem.W.findIn K (.ref c_Counting) "__setattr__" = some (some (.builtin "object.__setattr__")))
    (mk_Counting : PySem.W.makesIn K c_Counting = true)
    (kc_Counting : PySem.W.keepIn K (.ref c_Counting) = true)
    (na_Counting_first : PySem.W.findIn K (.ref c_Counting) "first" = some none)
    (na_Counting_greatest : PySem.W.findIn K (.ref c_Counting) "greatest" = some none)
    (na_Counting_came : PySem.W.findIn K (.ref c_Counting) "came" = some none)
    (na_Counting_jitter : PySem.W.findIn K (.ref c_Counting) "jitter" = some none)
    (na_Counting_way : PySem.W.findIn K (.ref c_Counting) "way" = some none)
    (na_Counting_told_expected : PySem.W.findIn K (.ref c_Counting) "told_expected" = some none)
    (na_Counting_told_came : PySem.W.findIn K (.ref c_Counting) "told_came" = some none)
    (pg_Hearing : PySem.W.plainGet K c_Hearing Str.empty = true)
    (hd_Hearing : PySem.W.hasDictIn K c_Hearing = true)
    (po_Hearing : PySem.W.plainOver K c_Hearing = true)
    (sa_Hearing : PySem.W.findIn K (.ref c_Hearing) "__setattr__" = some (some (.builtin "object.__setattr__")))
    (mk_Hearing : PySem.W.makesIn K c_Hearing = true)
    (kc_Hearing : PySem.W.keepIn K (.ref c_Hearing) = true)
    (na_Hearing_middle : PySem.W.findIn K (.ref c_Hearing) "middle" = some none)
    (na_Hearing_heard_at : PySem.W.findIn K (.ref c_Hearing) "heard_at" = some none)
    (na_Hearing_goodbye : PySem.W.findIn K (.ref c_Hearing) "goodbye" = some none)
    (pg_Packet : PySem.W.plainGet K c_Packet Str.empty = true)
    (hd_Packet : PySem.W.hasDictIn K c_Packet = true)
    (po_Packet : PySem.W.plainOver K c_Packet = true)
    (sa_Packet : PySem.W.findIn K (.ref c_Packet) "__setattr__" = some (some (.builtin "object.__setattr__")))
    (mk_Packet : PySem.W.makesIn K c_Packet = true)
    (kc_Packet : PySem.W.keepIn K (.ref c_Packet) = true)
    (na_Packet_mark : PySem.W.findIn K (.ref c_Packet) "mark" = some none)
    (na_Packet_kind : PySem.W.findIn K (.ref c_Packet) "kind" = some none)
    (na_Packet_number : PySem.W.findIn K (.ref c_Packet) "number" = some none)
    (na_Packet_stamp : PySem.W.findIn K (.ref c_Packet) "stamp" = some none)
    (na_Packet_source : PySem.W.findIn K (.ref c_Packet) "source" = some none)
    (na_Packet_carried : PySem.W.findIn K (.ref c_Packet) "carried" = some none)
    (pg_Part : PySem.W.plainGet K c_Part Str.empty = true)
    (hd_Part : PySem.W.hasDictIn K c_Part = true)
    (po_Part : PySem.W.plainOver K c_Part = true)
    (sa_Part : PySem.W.findIn K (.ref c_Part) "__setattr__" = some (some (.builtin "object.__setattr__")))
    (mk_Part : PySem.W.makesIn K c_Part = true)
    (kc_Part : PySem.W.keepIn K (.ref c_Part) = true)
    (na_Part_octets : PySem.W.findIn K (.ref c_Part) "octets" = some none)
    (na_Part_kind : PySem.W.findIn K (.ref c_Part) "kind" = some none)
    (na_Part_entries : PySem.W.findIn K (.ref c_Part) "entries" = some none)
    (pg_Waiting : PySem.W.plainGet K c_Waiting Str.empty = true)
    (hd_Waiting : PySem.W.hasDictIn K c_Waiting = true)
    (po_Waiting : PySem.W.plainOver K c_Waiting = true)
    (sa_Waiting : PySem.W.findIn K (.ref c_Waiting) "__setattr__" = some (some (.builtin "object.__setattr__")))
    (mk_Waiting : PySem.W.makesIn K c_Waiting = true)
    (kc_Waiting : PySem.W.keepIn K (.ref c_Waiting) = true)
    (na_Waiting_due : PySem.W.findIn K (.ref c_Waiting) "due" = some none)
    (na_Waiting_kept : PySem.W.findIn K (.ref c_Waiting) "kept" = some none)
    (pg_Receiver : PySem.W.plainGet K c_Receiver Str.empty = true)
    (hd_Receiver : PySem.W.hasDictIn K c_Receiver = true)
    (po_Receiver : PySem.W.plainOver K c_Receiver = true)
    (sa_Receiver : PySem.W.findIn K (.ref c_Receiver) "__setattr__" = some (some (.builtin "object.__setattr__")))
    (mk_Receiver : PySem.W.makesIn K c_Receiver = true)
    (kc_Receiver : PySem.W.keepIn K (.ref c_Receiver) = true)
    (na_Receiver_own : PySem.W.findIn K (.ref c_Receiver) "own" = some none)
    (na_Receiver_depth : PySem.W.findIn K (.ref c_Receiver) "depth" = some none)
    (na_Receiver_source : PySem.W.findIn K (.ref c_Receiver) "source" = some none)
    (na_Receiver_awaited : PySem.W.findIn K (.ref c_Receiver) "awaited" = some none)
    (na_Receiver_counting : PySem.W.findIn K (.ref c_Receiver) "counting" = some none)
    (na_Receiver_waiting : PySem.W.findIn K (.ref c_Receiver) "waiting" = some none)
    (na_Receiver_hearing : PySem.W.findIn K (.ref c_Receiver) "hearing" = some none)
    (pg_Desk : PySem.W.plainGet K c_Desk Str.empty = true)
    (hd_Desk : PySem.W.hasDictIn K c_Desk = true)
    (po_Desk : PySem.W.plainOver K c_Desk = true)
    (sa_Desk : PySem.W.findIn K (.ref c_Desk) "__setattr__" = some (some (.builtin "object.__setattr__")))
    (mk_Desk : PySem.W.makesIn K c_Desk = true)
    (kc_Desk : PySem.W.keepIn K (.ref c_Desk) = true)
    (na_Desk_calls : PySem.W.findIn K (.ref c_Desk) "calls" = some none)
    (na_Desk_place : PySem.W.findIn K (.ref c_Desk) "place" = some none)
    (na_Desk_receiver : PySem.W.findIn K (.ref c_Desk) "receiver" = some none)
    (gd_LEAST_LENGTHS : PySem.W.nsIn K mainGlobals "LEAST_LENGTHS" = some (some (.ref dA_LEAST_LENGTHS)))
    (ld_LEAST_LENGTHS : K.lookup dA_LEAST_LENGTHS = some ⟨.type "dict", none, .dict #[⟨hh_LEAST_LENGTHS_0, .int (200) tk_LEAST_LENGTHS_0, .ref dT_LEAST_LENGTHS_0⟩, ⟨hh_LEAST_LENGTHS_1, .int (201) tk_LEAST_LENGTHS_1, .ref dT_LEAST_LENGTHS_1⟩, ⟨hh_LEAST_LENGTHS_2, .int (202) tk_LEAST_LENGTHS_2, .ref dT_LEAST_LENGTHS_2⟩, ⟨hh_LEAST_LENGTHS_3, .int (203) tk_LEAST_LENGTHS_3, .ref dT_LEAST_LENGTHS_3⟩, ⟨hh_LEAST_LENGTHS_4, .int (204) tk_LEAST_LENGTHS_4, .ref dT_LEAST_LENGTHS_4⟩] ep_LEAST_LENGTHS, #[]⟩)
    (eh_LEAST_LENGTHS_0 : hh_LEAST_LENGTHS_0 = hashInt (200))
    (lt_LEAST_LENGTHS_0 : K.lookup dT_LEAST_LENGTHS_0 = some ⟨.type "tuple", none, .seq #[.int (28) tk_LEAST_LENGTHS_0_0, .int (24) tk_LEAST_LENGTHS_0_1] nn_LEAST_LENGTHS_0, #[]⟩)
    (eh_LEAST_LENGTHS_1 : hh_LEAST_LENGTHS_1 = hashInt (201))
    (lt_LEAST_LENGTHS_1 : K.lookup dT_LEAST_LENGTHS_1 = some ⟨.type "tuple", none, .seq #[.int (8) tk_LEAST_LENGTHS_1_0, .int (24) tk_LEAST_LENGTHS_1_1] nn_LEAST_LENGTHS_1, #[]⟩)
    (eh_LEAST_LENGTHS_2 : hh_LEAST_LENGTHS_2 = hashInt (202))
    (lt_LEAST_LENGTHS_2 : K.lookup dT_LEAST_LENGTHS_2 = some ⟨.type "tuple", none, .seq #[.int (8) tk_LEAST_LENGTHS_2_0, .int (0) tk_LEAST_LENGTHS_2_1] nn_LEAST_LENGTHS_2, #[]⟩)
    (eh_LEAST_LENGTHS_3 : hh_LEAST_LENGTHS_3 = hashInt (203))
    (lt_LEAST_LENGTHS_3 : K.lookup dT_LEAST_LENGTHS_3 = some ⟨.type "tuple", none, .seq #[.int (4) tk_LEAST_LENGTHS_3_0, .int (4) tk_LEAST_LENGTHS_3_1] nn_LEAST_LENGTHS_3, #[]⟩)
    (eh_LEAST_LENGTHS_4 : hh_LEAST_LENGTHS_4 = hashInt (204))
    (lt_LEAST_LENGTHS_4 : K.lookup dT_LEAST_LENGTHS_4 = some ⟨.type "tuple", none, .seq #[.int (8) tk_LEAST_LENGTHS_4_0, .int (0) tk_LEAST_LENGTHS_4_1] nn_LEAST_LENGTHS_4, #[]⟩)
    (sm_LEAST_LENGTHS : (dA_LEAST_LENGTHS == sysModules) = false)
    (g_MOST_BYTES : PySem.W.nsIn K mainGlobals "MOST_BYTES" = some (some (.int (65535) tk_MOST_BYTES)))
    (g_VERSION : PySem.W.nsIn K mainGlobals "VERSION" = some (some (.int (2) tk_VERSION)))
    (g_PADDING : PySem.W.nsIn K mainGlobals "PADDING" = some (some (.int (32) tk_PADDING)))
    (g_FOUR_BYTES : PySem.W.nsIn K mainGlobals "FOUR_BYTES" = some (some (.int (4294967296) tk_FOUR_BYTES)))
    (g_NUMBERS : PySem.W.nsIn K mainGlobals "NUMBERS" = some (some (.int (65536) tk_NUMBERS)))
    (g_FAR_AHEAD : PySem.W.nsIn K mainGlobals "FAR_AHEAD" = some (some (.int (3000) tk_FAR_AHEAD)))
    (g_FAR_BEHIND : PySem.W.nsIn K mainGlobals "FAR_BEHIND" = some (some (.int (65436) tk_FAR_BEHIND)))
    (g_MOST_SHARE : PySem.W.nsIn K mainGlobals "MOST_SHARE" = some (some (.int (255) tk_MOST_SHARE)))
    (g_LEAST_MISSING : PySem.W.nsIn K mainGlobals "LEAST_MISSING" = some (some (.int (-8388608) tk_LEAST_MISSING)))
    (g_MOST_MISSING : PySem.W.nsIn K mainGlobals "MOST_MISSING" = some (some (.int (8388607) tk_MOST_MISSING)))
    (g_HEAD_LENGTH : PySem.W.nsIn K mainGlobals "HEAD_LENGTH" = some (some (.int (12) tk_HEAD_LENGTH)))
    (g_EXTENSION : PySem.W.nsIn K mainGlobals "EXTENSION" = some (some (.int (16) tk_EXTENSION)))
    (g_OTHER_SOURCES : PySem.W.nsIn K mainGlobals "OTHER_SOURCES" = some (some (.int (15) tk_OTHER_SOURCES)))
    (g_MARK : PySem.W.nsIn K mainGlobals "MARK" = some (some (.int (128) tk_MARK)))
    (g_SENDER_REPORT : PySem.W.nsIn K mainGlobals "SENDER_REPORT" = some (some (.int (200) tk_SENDER_REPORT)))
    (g_RECEIVER_REPORT : PySem.W.nsIn K mainGlobals "RECEIVER_REPORT" = some (some (.int (201) tk_RECEIVER_REPORT)))
    (g_GOODBYE : PySem.W.nsIn K mainGlobals "GOODBYE" = some (some (.int (203) tk_GOODBYE)))
    (g_LEAST_LENGTH : PySem.W.nsIn K mainGlobals "LEAST_LENGTH" = some (some (.int (8) tk_LEAST_LENGTH)))
    (g_ENTRIES : PySem.W.nsIn K mainGlobals "ENTRIES" = some (some (.int (31) tk_ENTRIES)))
    (g_MOST_WAITING : PySem.W.nsIn K mainGlobals "MOST_WAITING" = some (some (.int (64) tk_MOST_WAITING)))
    (g_MOST_CARRIED : PySem.W.nsIn K mainGlobals "MOST_CARRIED" = some (some (.int (1472) tk_MOST_CARRIED)))
    (g_KEPT : PySem.W.nsIn K mainGlobals "KEPT" = some (some (.int (1) tk_KEPT)))
    (g_COUNTED : PySem.W.nsIn K mainGlobals "COUNTED" = some (some (.int (0) tk_COUNTED)))
    (g_NOT_BELIEVED : PySem.W.nsIn K mainGlobals "NOT_BELIEVED" = some (some (.int (2) tk_NOT_BELIEVED)))
    (g_NO_PACKET : PySem.W.nsIn K mainGlobals "NO_PACKET" = some (some (.int (-1) tk_NO_PACKET)))
    (g_OTHER_SOURCE : PySem.W.nsIn K mainGlobals "OTHER_SOURCE" = some (some (.int (-2) tk_OTHER_SOURCE)))
    (g_NOT_THERE_YET : PySem.W.nsIn K mainGlobals "NOT_THERE_YET" = some (some (.int (-1) tk_NOT_THERE_YET)))
    (g_LOST : PySem.W.nsIn K mainGlobals "LOST" = some (some (.int (-2) tk_LOST)))
    (g_MOST_TOO_SMALL : PySem.W.nsIn K mainGlobals "MOST_TOO_SMALL" = some (some (.int (-3) tk_MOST_TOO_SMALL)))
    (g_PARTS_NOT_RIGHT : PySem.W.nsIn K mainGlobals "PARTS_NOT_RIGHT" = some (some (.int (-1) tk_PARTS_NOT_RIGHT)))
    (g_NONE_HEARD_OF : PySem.W.nsIn K mainGlobals "NONE_HEARD_OF" = some (some (.int (-1) tk_NONE_HEARD_OF)))
    (g_THREE_BYTES : PySem.W.nsIn K mainGlobals "THREE_BYTES" = some (some (.int (16777216) tk_THREE_BYTES)))
    (g_RP_BEGIN : PySem.W.nsIn K mainGlobals "RP_BEGIN" = some (some (.int (0) tk_RP_BEGIN)))
    (g_RP_RECEIVE : PySem.W.nsIn K mainGlobals "RP_RECEIVE" = some (some (.int (1) tk_RP_RECEIVE)))
    (g_RP_TAKE : PySem.W.nsIn K mainGlobals "RP_TAKE" = some (some (.int (2) tk_RP_TAKE)))
    (g_RP_REPORT : PySem.W.nsIn K mainGlobals "RP_REPORT" = some (some (.int (3) tk_RP_REPORT)))
    (g_RP_HEARD : PySem.W.nsIn K mainGlobals "RP_HEARD" = some (some (.int (4) tk_RP_HEARD)))
    (g_RP_TOLD : PySem.W.nsIn K mainGlobals "RP_TOLD" = some (some (.int (5) tk_RP_TOLD)))
    (g_LEAST_DEPTH : PySem.W.nsIn K mainGlobals "LEAST_DEPTH" = some (some (.int (1) tk_LEAST_DEPTH)))
    (g_MOST_DEPTH : PySem.W.nsIn K mainGlobals "MOST_DEPTH" = some (some (.int (32) tk_MOST_DEPTH)))
    (g_BEGUN : PySem.W.nsIn K mainGlobals "BEGUN" = some (some (.int (0) tk_BEGUN)))
    (g_DEPTH_REFUSED : PySem.W.nsIn K mainGlobals "DEPTH_REFUSED" = some (some (.int (-1) tk_DEPTH_REFUSED)))
    (n_any : PySem.W.nsIn K mainGlobals "any" = some none)
    (n_len : PySem.W.nsIn K mainGlobals "len" = some none)
    (n_max : PySem.W.nsIn K mainGlobals "max" = some none)
    (n_min : PySem.W.nsIn K mainGlobals "min" = some none)
    (n_range : PySem.W.nsIn K mainGlobals "range" = some none)
    : ∃ t : Adr, Txt K mg t ∧ (t.f_answers = f67) ∧ ∀ (s : Shared) (v : Value), BindsTo s t.fd_answers ⟨[v], []⟩ [("calls", v)] := by
  subst eh_LEAST_LENGTHS_0 eh_LEAST_LENGTHS_1 eh_LEAST_LENGTHS_2 eh_LEAST_LENGTHS_3 eh_LEAST_LENGTHS_4
  have F0 := fun_mk (st := s_read_number) l0 d0 k0
  have B0 := F0.binds (ps := ["octets", "start", "length"]) fun _ _ _ _ _ _ us hl => match us, hl with | [_, _, _], _ => rfl
  have F1 := fun_mk (st := s_write_number) l1 d1 k1
  have B1 := F1.binds (ps := ["number", "length"]) fun _ _ _ _ _ _ us hl => match us, hl with | [_, _], _ => rfl
  have F2 := fun_mk (st := s_has_version) l2 d2 k2
  have B2 := F2.binds (ps := ["octets"]) fun _ _ _ _ _ _ us hl => match us, hl with | [_], _ => rfl
  have F3 := fun_mk (st := s_has_padding) l3 d3 k3
  have B3 := F3.binds (ps := ["octets"]) fun _ _ _ _ _ _ us hl => match us, hl with | [_], _ => rfl
  have F4 := fun_mk (st := s_padding_length) l4 d4 k4
  have B4 := F4.binds (ps := ["octets"]) fun _ _ _ _ _ _ us hl => match us, hl with | [_], _ => rfl
  have F5 := fun_mk (st := s_Counting_init) l5 d5 k5
  have B5 := F5.binds (ps := ["self", "number", "way"]) fun _ _ _ _ _ _ us hl => match us, hl with | [_, _, _], _ => rfl
  have F6 := fun_mk (st := s_Counting_whole_number) l6 d6 k6
  have B6 := F6.binds (ps := ["self", "number"]) fun _ _ _ _ _ _ us hl => match us, hl with | [_, _], _ => rfl
  have F7 := fun_mk (st := s_Counting_add_packet) l7 d7 k7
  have B7 := F7.binds (ps := ["self", "whole", "way"]) fun _ _ _ _ _ _ us hl => match us, hl with | [_, _, _], _ => rfl
  have F8 := fun_mk (st := s_Counting_how_many_expected) l8 d8 k8
  have B8 := F8.binds (ps := ["self"]) fun _ _ _ _ _ _ us hl => match us, hl with | [_], _ => rfl
  have F9 := fun_mk (st := s_Counting_how_many_missing) l9 d9 k9
  have B9 := F9.binds (ps := ["self"]) fun _ _ _ _ _ _ us hl => match us, hl with | [_], _ => rfl
  have F10 := fun_mk (st := s_Counting_share_lost_since_told) l10 d10 k10
  have B10 := F10.binds (ps := ["self"]) fun _ _ _ _ _ _ us hl => match us, hl with | [_], _ => rfl
  have F11 := fun_mk (st := s_Counting_note_told) l11 d11 k11
  have B11 := F11.binds (ps := ["self"]) fun _ _ _ _ _ _ us hl => match us, hl with | [_], _ => rfl
  have F12 := fun_mk (st := s_Counting_told_jitter) l12 d12 k12
  have B12 := F12.binds (ps := ["self"]) fun _ _ _ _ _ _ us hl => match us, hl with | [_], _ => rfl
  have F13 := fun_mk (st := s_share_lost) l13 d13 k13
  have B13 := F13.binds (ps := ["expected", "came"]) fun _ _ _ _ _ _ us hl => match us, hl with | [_, _], _ => rfl
  have F14 := fun_mk (st := s_held_missing) l14 d14 k14
  have B14 := F14.binds (ps := ["missing"]) fun _ _ _ _ _ _ us hl => match us, hl with | [_], _ => rfl
  have F15 := fun_mk (st := s_number_behind) l15 d15 k15
  have B15 := F15.binds (ps := ["number"]) fun _ _ _ _ _ _ us hl => match us, hl with | [_], _ => rfl
  have F16 := fun_mk (st := s_way_of) l16 d16 k16
  have B16 := F16.binds (ps := ["arrival", "stamp"]) fun _ _ _ _ _ _ us hl => match us, hl with | [_, _], _ => rfl
  have F17 := fun_mk (st := s_way_change) l17 d17 k17
  have B17 := F17.binds (ps := ["before", "after"]) fun _ _ _ _ _ _ us hl => match us, hl with | [_, _], _ => rfl
  have F18 := fun_mk (st := s_next_jitter) l18 d18 k18
  have B18 := F18.binds (ps := ["jitter", "change"]) fun _ _ _ _ _ _ us hl => match us, hl with | [_, _], _ => rfl
  have F19 := fun_mk (st := s_Hearing_init) l19 d19 k19
  have B19 := F19.binds (ps := ["self"]) fun _ _ _ _ _ _ us hl => match us, hl with | [_], _ => rfl
  have F20 := fun_mk (st := s_Hearing_note_part) l20 d20 k20
  have B20 := F20.binds (ps := ["self", "part", "source", "now"]) fun _ _ _ _ _ _ us hl => match us, hl with | [_, _, _, _], _ => rfl
  have F21 := fun_mk (st := s_Hearing_time_since_report) l21 d21 k21
  have B21 := F21.binds (ps := ["self", "now"]) fun _ _ _ _ _ _ us hl => match us, hl with | [_, _], _ => rfl
  have F22 := fun_mk (st := s_Packet_init) l22 d22 k22
  have B22 := F22.binds (ps := ["self", "octets", "carried"]) fun _ _ _ _ _ _ us hl => match us, hl with | [_, _, _], _ => rfl
  have F23 := fun_mk (st := s_carried_start) l23 d23 k23
  have B23 := F23.binds (ps := ["octets"]) fun _ _ _ _ _ _ us hl => match us, hl with | [_], _ => rfl
  have F24 := fun_mk (st := s_read_packet) l24 d24 k24
  have B24 := F24.binds (ps := ["octets"]) fun _ _ _ _ _ _ us hl => match us, hl with | [_], _ => rfl
  have F25 := fun_mk (st := s_Part_init) l25 d25 k25
  have B25 := F25.binds (ps := ["self", "octets"]) fun _ _ _ _ _ _ us hl => match us, hl with | [_, _], _ => rfl
  have F26 := fun_mk (st := s_Part_is_sender_report_of) l26 d26 k26
  have B26 := F26.binds (ps := ["self", "source"]) fun _ _ _ _ _ _ us hl => match us, hl with | [_, _], _ => rfl
  have F27 := fun_mk (st := s_Part_middle_of_time) l27 d27 k27
  have B27 := F27.binds (ps := ["self"]) fun _ _ _ _ _ _ us hl => match us, hl with | [_], _ => rfl
  have F28 := fun_mk (st := s_Part_is_goodbye_of) l28 d28 k28
  have B28 := F28.binds (ps := ["self", "source"]) fun _ _ _ _ _ _ us hl => match us, hl with | [_, _], _ => rfl
  have F29 := fun_mk (st := s_Part_leaving) l29 d29 k29
  have B29 := F29.binds (ps := ["self"]) fun _ _ _ _ _ _ us hl => match us, hl with | [_], _ => rfl
  have F30 := fun_mk (st := s_Part_is_right) l30 d30 k30
  have B30 := F30.binds (ps := ["self"]) fun _ _ _ _ _ _ us hl => match us, hl with | [_], _ => rfl
  have F31 := fun_mk (st := s_Part_is_long_enough) l31 d31 k31
  have B31 := F31.binds (ps := ["self"]) fun _ _ _ _ _ _ us hl => match us, hl with | [_], _ => rfl
  have F32 := fun_mk (st := s_padding_fits) l32 d32 k32
  have B32 := F32.binds (ps := ["octets"]) fun _ _ _ _ _ _ us hl => match us, hl with | [_], _ => rfl
  have F33 := fun_mk (st := s_cut_part) l33 d33 k33
  have B33 := F33.binds (ps := ["octets", "start"]) fun _ _ _ _ _ _ us hl => match us, hl with | [_, _], _ => rfl
  have F34 := fun_mk (st := s_begins_rightly) l34 d34 k34
  have B34 := F34.binds (ps := ["parts"]) fun _ _ _ _ _ _ us hl => match us, hl with | [_], _ => rfl
  have F35 := fun_mk (st := s_is_padded_rightly) l35 d35 k35
  have B35 := F35.binds (ps := ["parts"]) fun _ _ _ _ _ _ us hl => match us, hl with | [_], _ => rfl
  have F36 := fun_mk (st := s_read_parts) l36 d36 k36
  have B36 := F36.binds (ps := ["octets"]) fun _ _ _ _ _ _ us hl => match us, hl with | [_], _ => rfl
  have F37 := fun_mk (st := s_write_report) l37 d37 k37
  have B37 := F37.binds (ps := ["own", "block"]) fun _ _ _ _ _ _ us hl => match us, hl with | [_, _], _ => rfl
  have F38 := fun_mk (st := s_write_block) l38 d38 k38
  have B38 := F38.binds (ps := ["source", "counting", "hearing", "now"]) fun _ _ _ _ _ _ us hl => match us, hl with | [_, _, _, _], _ => rfl
  have F39 := fun_mk (st := s_write_counts) l39 d39 k39
  have B39 := F39.binds (ps := ["counting"]) fun _ _ _ _ _ _ us hl => match us, hl with | [_], _ => rfl
  have F40 := fun_mk (st := s_write_heard) l40 d40 k40
  have B40 := F40.binds (ps := ["hearing", "now"]) fun _ _ _ _ _ _ us hl => match us, hl with | [_, _], _ => rfl
  have F41 := fun_mk (st := s_Waiting_init) l41 d41 k41
  have B41 := F41.binds (ps := ["self", "first"]) fun _ _ _ _ _ _ us hl => match us, hl with | [_, _], _ => rfl
  have F42 := fun_mk (st := s_Waiting_try_keep) l42 d42 k42
  have B42 := F42.binds (ps := ["self", "whole", "packet"]) fun _ _ _ _ _ _ us hl => match us, hl with | [_, _, _], _ => rfl
  have F43 := fun_mk (st := s_Waiting_how_many) l43 d43 k43
  have B43 := F43.binds (ps := ["self"]) fun _ _ _ _ _ _ us hl => match us, hl with | [_], _ => rfl
  have F44 := fun_mk (st := s_Waiting_due_waits) l44 d44 k44
  have B44 := F44.binds (ps := ["self"]) fun _ _ _ _ _ _ us hl => match us, hl with | [_], _ => rfl
  have F45 := fun_mk (st := s_Waiting_take_due) l45 d45 k45
  have B45 := F45.binds (ps := ["self"]) fun _ _ _ _ _ _ us hl => match us, hl with | [_], _ => rfl
  have F46 := fun_mk (st := s_Waiting_give_up_due) l46 d46 k46
  have B46 := F46.binds (ps := ["self"]) fun _ _ _ _ _ _ us hl => match us, hl with | [_], _ => rfl
  have F47 := fun_mk (st := s_Receiver_init) l47 d47 k47
  have B47 := F47.binds (ps := ["self", "own", "depth"]) fun _ _ _ _ _ _ us hl => match us, hl with | [_, _, _], _ => rfl
  have F48 := fun_mk (st := s_Receiver_receive) l48 d48 k48
  have B48 := F48.binds (ps := ["self", "octets", "arrival"]) fun _ _ _ _ _ _ us hl => match us, hl with | [_, _, _], _ => rfl
  have F49 := fun_mk (st := s_Receiver_doubt) l49 d49 k49
  have B49 := F49.binds (ps := ["self", "packet", "way"]) fun _ _ _ _ _ _ us hl => match us, hl with | [_, _, _], _ => rfl
  have F50 := fun_mk (st := s_Receiver_begin_numbers) l50 d50 k50
  have B50 := F50.binds (ps := ["self", "number", "way"]) fun _ _ _ _ _ _ us hl => match us, hl with | [_, _, _], _ => rfl
  have F51 := fun_mk (st := s_Receiver_keep_counted) l51 d51 k51
  have B51 := F51.binds (ps := ["self", "whole", "packet"]) fun _ _ _ _ _ _ us hl => match us, hl with | [_, _, _], _ => rfl
  have F52 := fun_mk (st := s_Receiver_take) l52 d52 k52
  have B52 := F52.binds (ps := ["self", "most"]) fun _ _ _ _ _ _ us hl => match us, hl with | [_, _], _ => rfl
  have F53 := fun_mk (st := s_Receiver_report) l53 d53 k53
  have B53 := F53.binds (ps := ["self", "now"]) fun _ _ _ _ _ _ us hl => match us, hl with | [_, _], _ => rfl
  have F54 := fun_mk (st := s_Receiver_report_block) l54 d54 k54
  have B54 := F54.binds (ps := ["self", "now"]) fun _ _ _ _ _ _ us hl => match us, hl with | [_, _], _ => rfl
  have F55 := fun_mk (st := s_Receiver_hear) l55 d55 k55
  have B55 := F55.binds (ps := ["self", "octets", "now"]) fun _ _ _ _ _ _ us hl => match us, hl with | [_, _, _], _ => rfl
  have F56 := fun_mk (st := s_Receiver_tell) l56 d56 k56
  have B56 := F56.binds (ps := ["self"]) fun _ _ _ _ _ _ us hl => match us, hl with | [_], _ => rfl
  have F57 := fun_mk (st := s_Receiver_told_counts) l57 d57 k57
  have B57 := F57.binds (ps := ["self"]) fun _ _ _ _ _ _ us hl => match us, hl with | [_], _ => rfl
  have F58 := fun_mk (st := s_taken) l58 d58 k58
  have B58 := F58.binds (ps := ["whole", "packet"]) fun _ _ _ _ _ _ us hl => match us, hl with | [_, _], _ => rfl
  have F59 := fun_mk (st := s_Desk_init) l59 d59 k59
  have B59 := F59.binds (ps := ["self", "calls"]) fun _ _ _ _ _ _ us hl => match us, hl with | [_, _], _ => rfl
  have F60 := fun_mk (st := s_Desk_has_more) l60 d60 k60
  have B60 := F60.binds (ps := ["self"]) fun _ _ _ _ _ _ us hl => match us, hl with | [_], _ => rfl
  have F61 := fun_mk (st := s_Desk_draw) l61 d61 k61
  have B61 := F61.binds (ps := ["self"]) fun _ _ _ _ _ _ us hl => match us, hl with | [_], _ => rfl
  have F62 := fun_mk (st := s_Desk_draw_row) l62 d62 k62
  have B62 := F62.binds (ps := ["self"]) fun _ _ _ _ _ _ us hl => match us, hl with | [_], _ => rfl
  have F63 := fun_mk (st := s_Desk_answer_call) l63 d63 k63
  have B63 := F63.binds (ps := ["self"]) fun _ _ _ _ _ _ us hl => match us, hl with | [_], _ => rfl
  have F64 := fun_mk (st := s_Desk_answer_begin) l64 d64 k64
  have B64 := F64.binds (ps := ["self"]) fun _ _ _ _ _ _ us hl => match us, hl with | [_], _ => rfl
  have F65 := fun_mk (st := s_Desk_answer_receive) l65 d65 k65
  have B65 := F65.binds (ps := ["self"]) fun _ _ _ _ _ _ us hl => match us, hl with | [_], _ => rfl
  have F66 := fun_mk (st := s_Desk_answer_heard) l66 d66 k66
  have B66 := F66.binds (ps := ["self"]) fun _ _ _ _ _ _ us hl => match us, hl with | [_], _ => rfl
  have F67 := fun_mk (st := s_answers) l67 d67 k67
  have B67 := F67.binds (ps := ["calls"]) fun _ _ _ _ _ _ us hl => match us, hl with | [_], _ => rfl
  refine ⟨{ c_Counting := c_Counting, c_Hearing := c_Hearing, c_Packet := c_Packet, c_Part := c_Part, c_Waiting := c_Waiting, c_Receiver := c_Receiver, c_Desk := c_Desk, f_read_number := f0, fd_read_number := PySem.W.fnOf "read_number" "read_number" (defArgs s_read_number) (defBody s_read_number) (defScope s_read_number) .none kV0 dc0 pm0 an0 cd0 ct0, f_write_number := f1, fd_write_number := PySem.W.fnOf "write_number" "write_number" (defArgs s_write_number) (defBody s_write_number) (defScope s_write_number) .none kV1 dc1 pm1 an1 cd1 ct1, f_has_version := f2, fd_has_version := PySem.W.fnOf "has_version" "has_version" (defArgs s_has_version) (defBody s_has_version) (defScope s_has_version) .none kV2 dc2 pm2 an2 cd2 ct2, f_has_padding := f3, fd_has_padding := PySem.W.fnOf "has_padding" "has_padding" (defArgs s_has_padding) (defBody s_has_padding) (defScope s_has_padding) .none kV3 dc3 pm3 an3 cd3 ct3, f_padding_length := f4, fd_padding_length := PySem.W.fnOf "padding_length" "padding_length" (defArgs s_padding_length) (defBody s_padding_length) (defScope s_padding_length) .none kV4 dc4 pm4 an4 cd4 ct4, f_Counting_init := f5, fd_Counting_init := PySem.W.fnOf "__init__" "Counting.__init__" (defArgs s_Counting_init) (defBody s_Counting_init) (defScope s_Counting_init) .none kV5 dc5 pm5 an5 cd5 ct5, f_Counting_whole_number := f6, fd_Counting_whole_number := PySem.W.fnOf "whole_number" "Counting.whole_number" (defArgs s_Counting_whole_number) (defBody s_Counting_whole_number) (defScope s_Counting_whole_number) .none kV6 dc6 pm6 an6 cd6 ct6, f_Counting_add_packet := f7, fd_Counting_add_packet := PySem.W.fnOf "add_packet" "Counting.add_packet" (defArgs s_Counting_add_packet) (defBody s_Counting_add_packet) (defScope s_Counting_add_packet) .none kV7 dc7 pm7 an7 cd7 ct7, f_Counting_how_many_expected := f8, fd_Counting_how_many_expected := PySem.W.fnOf "how_many_expected" "Counting.how_many_expected" (defArgs s_Counting_how_many_expected) (defBody s_Counting_how_many_expected) (defScope s_Counting_how_many_expected) .none kV8 dc8 pm8 an8 cd8 ct8, f_Counting_how_many_missing := f9, fd_Counting_how_many_missing := PySem.W.fnOf "how_many_missing" "Counting.how_many_missing" (defArgs s_Counting_how_many_missing) (defBody s_Counting_how_many_missing) (defScope s_Counting_how_many_missing) .none kV9 dc9 pm9 an9 cd9 ct9, f_Counting_share_lost_since_told := f10, fd_Counting_share_lost_since_told := PySem.W.fnOf "share_lost_since_told" "Counting.share_lost_since_told" (defArgs s_Counting_share_lost_since_told) (defBody s_Counting_share_lost_since_told) (defScope s_Counting_share_lost_since_told) .none kV10 dc10 pm10 an10 cd10 ct10, f_Counting_note_told := f11, fd_Counting_note_told := PySem.W.fnOf "note_told" "Counting.note_told" (defArgs s_Counting_note_told) (defBody s_Counting_note_told) (defScope s_Counting_note_told) .none kV11 dc11 pm11 an11 cd11 ct11, f_Counting_told_jitter := f12, fd_Counting_told_jitter := PySem.W.fnOf "told_jitter" "Counting.told_jitter" (defArgs s_Counting_told_jitter) (defBody s_Counting_told_jitter) (defScope s_Counting_told_jitter) .none kV12 dc12 pm12 an12 cd12 ct12, f_share_lost := f13, fd_share_lost := PySem.W.fnOf "share_lost" "share_lost" (defArgs s_share_lost) (defBody s_share_lost) (defScope s_share_lost) .none kV13 dc13 pm13 an13 cd13 ct13, f_held_missing := f14, fd_held_missing := PySem.W.fnOf "held_missing" "held_missing" (defArgs s_held_missing) (defBody s_held_missing) (defScope s_held_missing) .none kV14 dc14 pm14 an14 cd14 ct14, f_number_behind := f15, fd_number_behind := PySem.W.fnOf "number_behind" "number_behind" (defArgs s_number_behind) (defBody s_number_behind) (defScope s_number_behind) .none kV15 dc15 pm15 an15 cd15 ct15, f_way_of := f16, fd_way_of := PySem.W.fnOf "way_of" "way_of" (defArgs s_way_of) (defBody s_way_of) (defScope s_way_of) .none kV16 dc16 pm16 an16 cd16 ct16, f_way_change := f17, fd_way_change := PySem.W.fnOf "way_change" "way_change" (defArgs s_way_change) (defBody s_way_change) (defScope s_way_change) .none kV17 dc17 pm17 an17 cd17 ct17, f_next_jitter := f18, fd_next_jitter := PySem.W.fnOf "next_jitter" "next_jitter" (defArgs s_next_jitter) (defBody s_next_jitter) (defScope s_next_jitter) .none kV18 dc18 pm18 an18 cd18 ct18, f_Hearing_init := f19, fd_Hearing_init := PySem.W.fnOf "__init__" "Hearing.__init__" (defArgs s_Hearing_init) (defBody s_Hearing_init) (defScope s_Hearing_init) .none kV19 dc19 pm19 an19 cd19 ct19, f_Hearing_note_part := f20, fd_Hearing_note_part := PySem.W.fnOf "note_part" "Hearing.note_part" (defArgs s_Hearing_note_part) (defBody s_Hearing_note_part) (defScope s_Hearing_note_part) .none kV20 dc20 pm20 an20 cd20 ct20, f_Hearing_time_since_report := f21, fd_Hearing_time_since_report := PySem.W.fnOf "time_since_report" "Hearing.time_since_report" (defArgs s_Hearing_time_since_report) (defBody s_Hearing_time_since_report) (defScope s_Hearing_time_since_report) .none kV21 dc21 pm21 an21 cd21 ct21, f_Packet_init := f22, fd_Packet_init := PySem.W.fnOf "__init__" "Packet.__init__" (defArgs s_Packet_init) (defBody s_Packet_init) (defScope s_Packet_init) .none kV22 dc22 pm22 an22 cd22 ct22, f_carried_start := f23, fd_carried_start := PySem.W.fnOf "carried_start" "carried_start" (defArgs s_carried_start) (defBody s_carried_start) (defScope s_carried_start) .none kV23 dc23 pm23 an23 cd23 ct23, f_read_packet := f24, fd_read_packet := PySem.W.fnOf "read_packet" "read_packet" (defArgs s_read_packet) (defBody s_read_packet) (defScope s_read_packet) .none kV24 dc24 pm24 an24 cd24 ct24, f_Part_init := f25, fd_Part_init := PySem.W.fnOf "__init__" "Part.__init__" (defArgs s_Part_init) (defBody s_Part_init) (defScope s_Part_init) .none kV25 dc25 pm25 an25 cd25 ct25, f_Part_is_sender_report_of := f26, fd_Part_is_sender_report_of := PySem.W.fnOf "is_sender_report_of" "Part.is_sender_report_of" (defArgs s_Part_is_sender_report_of) (defBody s_Part_is_sender_report_of) (defScope s_Part_is_sender_report_of) .none kV26 dc26 pm26 an26 cd26 ct26, f_Part_middle_of_time := f27, fd_Part_middle_of_time := PySem.W.fnOf "middle_of_time" "Part.middle_of_time" (defArgs s_Part_middle_of_time) (defBody s_Part_middle_of_time) (defScope s_Part_middle_of_time) .none kV27 dc27 pm27 an27 cd27 ct27, f_Part_is_goodbye_of := f28, fd_Part_is_goodbye_of := PySem.W.fnOf "is_goodbye_of" "Part.is_goodbye_of" (defArgs s_Part_is_goodbye_of) (defBody s_Part_is_goodbye_of) (defScope s_Part_is_goodbye_of) .none kV28 dc28 pm28 an28 cd28 ct28, f_Part_leaving := f29, fd_Part_leaving := PySem.W.fnOf "leaving" "Part.leaving" (defArgs s_Part_leaving) (defBody s_Part_leaving) (defScope s_Part_leaving) .none kV29 dc29 pm29 an29 cd29 ct29, f_Part_is_right := f30, fd_Part_is_right := PySem.W.fnOf "is_right" "Part.is_right" (defArgs s_Part_is_right) (defBody s_Part_is_right) (defScope s_Part_is_right) .none kV30 dc30 pm30 an30 cd30 ct30, f_Part_is_long_enough := f31, fd_Part_is_long_enough := PySem.W.fnOf "is_long_enough" "Part.is_long_enough" (defArgs s_Part_is_long_enough) (defBody s_Part_is_long_enough) (defScope s_Part_is_long_enough) .none kV31 dc31 pm31 an31 cd31 ct31, f_padding_fits := f32, fd_padding_fits := PySem.W.fnOf "padding_fits" "padding_fits" (defArgs s_padding_fits) (defBody s_padding_fits) (defScope s_padding_fits) .none kV32 dc32 pm32 an32 cd32 ct32, f_cut_part := f33, fd_cut_part := PySem.W.fnOf "cut_part" "cut_part" (defArgs s_cut_part) (defBody s_cut_part) (defScope s_cut_part) .none kV33 dc33 pm33 an33 cd33 ct33, f_begins_rightly := f34, fd_begins_rightly := PySem.W.fnOf "begins_rightly" "begins_rightly" (defArgs s_begins_rightly) (defBody s_begins_rightly) (defScope s_begins_rightly) .none kV34 dc34 pm34 an34 cd34 ct34, f_is_padded_rightly := f35, fd_is_padded_rightly := PySem.W.fnOf "is_padded_rightly" "is_padded_rightly" (defArgs s_is_padded_rightly) (defBody s_is_padded_rightly) (defScope s_is_padded_rightly) .none kV35 dc35 pm35 an35 cd35 ct35, f_read_parts := f36, fd_read_parts := PySem.W.fnOf "read_parts" "read_parts" (defArgs s_read_parts) (defBody s_read_parts) (defScope s_read_parts) .none kV36 dc36 pm36 an36 cd36 ct36, f_write_report := f37, fd_write_report := PySem.W.fnOf "write_report" "write_report" (defArgs s_write_report) (defBody s_write_report) (defScope s_write_report) .none kV37 dc37 pm37 an37 cd37 ct37, f_write_block := f38, fd_write_block := PySem.W.fnOf "write_block" "write_block" (defArgs s_write_block) (defBody s_write_block) (defScope s_write_block) .none kV38 dc38 pm38 an38 cd38 ct38, f_write_counts := f39, fd_write_counts := PySem.W.fnOf "write_counts" "write_counts" (defArgs s_write_counts) (defBody s_write_counts) (defScope s_write_counts) .none kV39 dc39 pm39 an39 cd39 ct39, f_write_heard := f40, fd_write_heard := PySem.W.fnOf "write_heard" "write_heard" (defArgs s_write_heard) (defBody s_write_heard) (defScope s_write_heard) .none kV40 dc40 pm40 an40 cd40 ct40, f_Waiting_init := f41, fd_Waiting_init := PySem.W.fnOf "__init__" "Waiting.__init__" (defArgs s_Waiting_init) (defBody s_Waiting_init) (defScope s_Waiting_init) .none kV41 dc41 pm41 an41 cd41 ct41, f_Waiting_try_keep := f42, fd_Waiting_try_keep := PySem.W.fnOf "try_keep" "Waiting.try_keep" (defArgs s_Waiting_try_keep) (defBody s_Waiting_try_keep) (defScope s_Waiting_try_keep) .none kV42 dc42 pm42 an42 cd42 ct42, f_Waiting_how_many := f43, fd_Waiting_how_many := PySem.W.fnOf "how_many" "Waiting.how_many" (defArgs s_Waiting_how_many) (defBody s_Waiting_how_many) (defScope s_Waiting_how_many) .none kV43 dc43 pm43 an43 cd43 ct43, f_Waiting_due_waits := f44, fd_Waiting_due_waits := PySem.W.fnOf "due_waits" "Waiting.due_waits" (defArgs s_Waiting_due_waits) (defBody s_Waiting_due_waits) (defScope s_Waiting_due_waits) .none kV44 dc44 pm44 an44 cd44 ct44, f_Waiting_take_due := f45, fd_Waiting_take_due := PySem.W.fnOf "take_due" "Waiting.take_due" (defArgs s_Waiting_take_due) (defBody s_Waiting_take_due) (defScope s_Waiting_take_due) .none kV45 dc45 pm45 an45 cd45 ct45, f_Waiting_give_up_due := f46, fd_Waiting_give_up_due := PySem.W.fnOf "give_up_due" "Waiting.give_up_due" (defArgs s_Waiting_give_up_due) (defBody s_Waiting_give_up_due) (defScope s_Waiting_give_up_due) .none kV46 dc46 pm46 an46 cd46 ct46, f_Receiver_init := f47, fd_Receiver_init := PySem.W.fnOf "__init__" "Receiver.__init__" (defArgs s_Receiver_init) (defBody s_Receiver_init) (defScope s_Receiver_init) .none kV47 dc47 pm47 an47 cd47 ct47, f_Receiver_receive := f48, fd_Receiver_receive := PySem.W.fnOf "receive" "Receiver.receive" (defArgs s_Receiver_receive) (defBody s_Receiver_receive) (defScope s_Receiver_receive) .none kV48 dc48 pm48 an48 cd48 ct48, f_Receiver_doubt := f49, fd_Receiver_doubt := PySem.W.fnOf "doubt" "Receiver.doubt" (defArgs s_Receiver_doubt) (defBody s_Receiver_doubt) (defScope s_Receiver_doubt) .none kV49 dc49 pm49 an49 cd49 ct49, f_Receiver_begin_numbers := f50, fd_Receiver_begin_numbers := PySem.W.fnOf "begin_numbers" "Receiver.begin_numbers" (defArgs s_Receiver_begin_numbers) (defBody s_Receiver_begin_numbers) (defScope s_Receiver_begin_numbers) .none kV50 dc50 pm50 an50 cd50 ct50, f_Receiver_keep_counted := f51, fd_Receiver_keep_counted := PySem.W.fnOf "keep_counted" "Receiver.keep_counted" (defArgs s_Receiver_keep_counted) (defBody s_Receiver_keep_counted) (defScope s_Receiver_keep_counted) .none kV51 dc51 pm51 an51 cd51 ct51, f_Receiver_take := f52, fd_Receiver_take := PySem.W.fnOf "take" "Receiver.take" (defArgs s_Receiver_take) (defBody s_Receiver_take) (defScope s_Receiver_take) .none kV52 dc52 pm52 an52 cd52 ct52, f_Receiver_report := f53, fd_Receiver_report := PySem.W.fnOf "report" "Receiver.report" (defArgs s_Receiver_report) (defBody s_Receiver_report) (defScope s_Receiver_report) .none kV53 dc53 pm53 an53 cd53 ct53, f_Receiver_report_block := f54, fd_Receiver_report_block := PySem.W.fnOf "report_block" "Receiver.report_block" (defArgs s_Receiver_report_block) (defBody s_Receiver_report_block) (defScope s_Receiver_report_block) .none kV54 dc54 pm54 an54 cd54 ct54, f_Receiver_hear := f55, fd_Receiver_hear := PySem.W.fnOf "hear" "Receiver.hear" (defArgs s_Receiver_hear) (defBody s_Receiver_hear) (defScope s_Receiver_hear) .none kV55 dc55 pm55 an55 cd55 ct55, f_Receiver_tell := f56, fd_Receiver_tell := PySem.W.fnOf "tell" "Receiver.tell" (defArgs s_Receiver_tell) (defBody s_Receiver_tell) (defScope s_Receiver_tell) .none kV56 dc56 pm56 an56 cd56 ct56, f_Receiver_told_counts := f57, fd_Receiver_told_counts := PySem.W.fnOf "told_counts" "Receiver.told_counts" (defArgs s_Receiver_told_counts) (defBody s_Receiver_told_counts) (defScope s_Receiver_told_counts) .none kV57 dc57 pm57 an57 cd57 ct57, f_taken := f58, fd_taken := PySem.W.fnOf "taken" "taken" (defArgs s_taken) (defBody s_taken) (defScope s_taken) .none kV58 dc58 pm58 an58 cd58 ct58, f_Desk_init := f59, fd_Desk_init := PySem.W.fnOf "__init__" "Desk.__init__" (defArgs s_Desk_init) (defBody s_Desk_init) (defScope s_Desk_init) .none kV59 dc59 pm59 an59 cd59 ct59, f_Desk_has_more := f60, fd_Desk_has_more := PySem.W.fnOf "has_more" "Desk.has_more" (defArgs s_Desk_has_more) (defBody s_Desk_has_more) (defScope s_Desk_has_more) .none kV60 dc60 pm60 an60 cd60 ct60, f_Desk_draw := f61, fd_Desk_draw := PySem.W.fnOf "draw" "Desk.draw" (defArgs s_Desk_draw) (defBody s_Desk_draw) (defScope s_Desk_draw) .none kV61 dc61 pm61 an61 cd61 ct61, f_Desk_draw_row := f62, fd_Desk_draw_row := PySem.W.fnOf "draw_row" "Desk.draw_row" (defArgs s_Desk_draw_row) (defBody s_Desk_draw_row) (defScope s_Desk_draw_row) .none kV62 dc62 pm62 an62 cd62 ct62, f_Desk_answer_call := f63, fd_Desk_answer_call := PySem.W.fnOf "answer_call" "Desk.answer_call" (defArgs s_Desk_answer_call) (defBody s_Desk_answer_call) (defScope s_Desk_answer_call) .none kV63 dc63 pm63 an63 cd63 ct63, f_Desk_answer_begin := f64, fd_Desk_answer_begin := PySem.W.fnOf "answer_begin" "Desk.answer_begin" (defArgs s_Desk_answer_begin) (defBody s_Desk_answer_begin) (defScope s_Desk_answer_begin) .none kV64 dc64 pm64 an64 cd64 ct64, f_Desk_answer_receive := f65, fd_Desk_answer_receive := PySem.W.fnOf "answer_receive" "Desk.answer_receive" (defArgs s_Desk_answer_receive) (defBody s_Desk_answer_receive) (defScope s_Desk_answer_receive) .none kV65 dc65 pm65 an65 cd65 ct65, f_Desk_answer_heard := f66, fd_Desk_answer_heard := PySem.W.fnOf "answer_heard" "Desk.answer_heard" (defArgs s_Desk_answer_heard) (defBody s_Desk_answer_heard) (defScope s_Desk_answer_heard) .none kV66 dc66 pm66 an66 cd66 ct66, f_answers := f67, fd_answers := PySem.W.fnOf "answers" "answers" (defArgs s_answers) (defBody s_answers) (defScope s_answers) .none kV67 dc67 pm67 an67 cd67 ct67, d_LEAST_LENGTHS := dA_LEAST_LENGTHS, d_LEAST_LENGTHS_0 := dT_LEAST_LENGTHS_0, d_LEAST_LENGTHS_1 := dT_LEAST_LENGTHS_1, d_LEAST_LENGTHS_2 := dT_LEAST_LENGTHS_2, d_LEAST_LENGTHS_3 := dT_LEAST_LENGTHS_3, d_LEAST_LENGTHS_4 := dT_LEAST_LENGTHS_4 }, ?_, rfl, fun s v => .of_eq rfl⟩
  exact { cl_Counting := ⟨pg_Counting, hd_Counting, po_Counting, sa_Counting⟩, mgc_Counting := PySem.W.mg_of X G aC_Counting, mk_Counting := ⟨mk_Counting, a5, i5, kc_Counting⟩, na_Counting_first := na_Counting_first, na_Counting_greatest := na_Counting_greatest, na_Counting_came := na_Counting_came, na_Counting_jitter := na_Counting_jitter, na_Counting_way := na_Counting_way, na_Counting_told_expected := na_Counting_told_expected, na_Counting_told_came := na_Counting_told_came, cl_Hearing := ⟨pg_Hearing, hd_Hearing, po_Hearing, sa_Hearing⟩, mgc_Hearing := PySem.W.mg_of X G aC_Hearing, mk_Hearing := ⟨mk_Hearing, a19, i19, kc_Hearing⟩, na_Hearing_middle := na_Hearing_middle, na_Hearing_heard_at := na_Hearing_heard_at, na_Hearing_goodbye := na_Hearing_goodbye, cl_Packet := ⟨pg_Packet, hd_Packet, po_Packet, sa_Packet⟩, mgc_Packet := PySem.W.mg_of X G aC_Packet, mk_Packet := ⟨mk_Packet, a22, i22, kc_Packet⟩, na_Packet_mark := na_Packet_mark, na_Packet_kind := na_Packet_kind, na_Packet_number := na_Packet_number, na_Packet_stamp := na_Packet_stamp, na_Packet_source := na_Packet_source, na_Packet_carried := na_Packet_carried, cl_Part := ⟨pg_Part, hd_Part, po_Part, sa_Part⟩, mgc_Part := PySem.W.mg_of X G aC_Part, mk_Part := ⟨mk_Part, a25, i25, kc_Part⟩, na_Part_octets := na_Part_octets, na_Part_kind := na_Part_kind, na_Part_entries := na_Part_entries, cl_Waiting := ⟨pg_Waiting, hd_Waiting, po_Waiting, sa_Waiting⟩, mgc_Waiting := PySem.W.mg_of X G aC_Waiting, mk_Waiting := ⟨mk_Waiting, a41, i41, kc_Waiting⟩, na_Waiting_due := na_Waiting_due, na_Waiting_kept := na_Waiting_kept, cl_Receiver := ⟨pg_Receiver, hd_Receiver, po_Receiver, sa_Receiver⟩, mgc_Receiver := PySem.W.mg_of X G aC_Receiver, mk_Receiver := ⟨mk_Receiver, a47, i47, kc_Receiver⟩, na_Receiver_own := na_Receiver_own, na_Receiver_depth := na_Receiver_depth, na_Receiver_source := na_Receiver_source, na_Receiver_awaited := na_Receiver_awaited, na_Receiver_counting := na_Receiver_counting, na_Receiver_waiting := na_Receiver_waiting, na_Receiver_hearing := na_Receiver_hearing, cl_Desk := ⟨pg_Desk, hd_Desk, po_Desk, sa_Desk⟩, mgc_Desk := PySem.W.mg_of X G aC_Desk, mk_Desk := ⟨mk_Desk, a59, i59, kc_Desk⟩, na_Desk_calls := na_Desk_calls, na_Desk_place := na_Desk_place, na_Desk_receiver := na_Desk_receiver, fn_read_number := F0, b_read_number := B0, mg_read_number := PySem.W.mg_of X G a0, fn_write_number := F1, b_write_number := B1, mg_write_number := PySem.W.mg_of X G a1, fn_has_version := F2, b_has_version := B2, mg_has_version := PySem.W.mg_of X G a2, fn_has_padding := F3, b_has_padding := B3, mg_has_padding := PySem.W.mg_of X G a3, fn_padding_length := F4, b_padding_length := B4, mg_padding_length := PySem.W.mg_of X G a4, fn_Counting_init := F5, b_Counting_init := B5, fn_Counting_whole_number := F6, b_Counting_whole_number := B6, me_Counting_whole_number := ⟨a6, i6, k6⟩, fn_Counting_add_packet := F7, b_Counting_add_packet := B7, me_Counting_add_packet := ⟨a7, i7, k7⟩, fn_Counting_how_many_expected := F8, b_Counting_how_many_expected := B8, me_Counting_how_many_expected := ⟨a8, i8, k8⟩, fn_Counting_how_many_missing := F9, b_Counting_how_many_missing := B9, me_Counting_how_many_missing := ⟨a9, i9, k9⟩, fn_Counting_share_lost_since_told := F10, b_Counting_share_lost_since_told := B10, me_Counting_share_lost_since_told := ⟨a10, i10, k10⟩, fn_Counting_note_told := F11, b_Counting_note_told := B11, me_Counting_note_told := ⟨a11, i11, k11⟩, fn_Counting_told_jitter := F12, b_Counting_told_jitter := B12, me_Counting_told_jitter := ⟨a12, i12, k12⟩, fn_share_lost := F13, b_share_lost := B13, mg_share_lost := PySem.W.mg_of X G a13, fn_held_missing := F14, b_held_missing := B14, mg_held_missing := PySem.W.mg_of X G a14, fn_number_behind := F15, b_number_behind := B15, mg_number_behind := PySem.W.mg_of X G a15, fn_way_of := F16, b_way_of := B16, mg_way_of := PySem.W.mg_of X G a16, fn_way_change := F17, b_way_change := B17, mg_way_change := PySem.W.mg_of X G a17, fn_next_jitter := F18, b_next_jitter := B18, mg_next_jitter := PySem.W.mg_of X G a18, fn_Hearing_init := F19, b_Hearing_init := B19, fn_Hearing_note_part := F20, b_Hearing_note_part := B20, me_Hearing_note_part := ⟨a20, i20, k20⟩, fn_Hearing_time_since_report := F21, b_Hearing_time_since_report := B21, me_Hearing_time_since_report := ⟨a21, i21, k21⟩, fn_Packet_init := F22, b_Packet_init := B22, fn_carried_start := F23, b_carried_start := B23, mg_carried_start := PySem.W.mg_of X G a23, fn_read_packet := F24, b_read_packet := B24, mg_read_packet := PySem.W.mg_of X G a24, fn_Part_init := F25, b_Part_init := B25, fn_Part_is_sender_report_of := F26, b_Part_is_sender_report_of := B26, me_Part_is_sender_report_of := ⟨a26, i26, k26⟩, fn_Part_middle_of_time := F27, b_Part_middle_of_time := B27, me_Part_middle_of_time := ⟨a27, i27, k27⟩, fn_Part_is_goodbye_of := F28, b_Part_is_goodbye_of := B28, me_Part_is_goodbye_of := ⟨a28, i28, k28⟩, fn_Part_leaving := F29, b_Part_leaving := B29, me_Part_leaving := ⟨a29, i29, k29⟩, fn_Part_is_right := F30, b_Part_is_right := B30, me_Part_is_right := ⟨a30, i30, k30⟩, fn_Part_is_long_enough := F31, b_Part_is_long_enough := B31, me_Part_is_long_enough := ⟨a31, i31, k31⟩, fn_padding_fits := F32, b_padding_fits := B32, mg_padding_fits := PySem.W.mg_of X G a32, fn_cut_part := F33, b_cut_part := B33, mg_cut_part := PySem.W.mg_of X G a33, fn_begins_rightly := F34, b_begins_rightly := B34, mg_begins_rightly := PySem.W.mg_of X G a34, fn_is_padded_rightly := F35, b_is_padded_rightly := B35, mg_is_padded_rightly := PySem.W.mg_of X G a35, fn_read_parts := F36, b_read_parts := B36, mg_read_parts := PySem.W.mg_of X G a36, fn_write_report := F37, b_write_report := B37, mg_write_report := PySem.W.mg_of X G a37, fn_write_block := F38, b_write_block := B38, mg_write_block := PySem.W.mg_of X G a38, fn_write_counts := F39, b_write_counts := B39, mg_write_counts := PySem.W.mg_of X G a39, fn_write_heard := F40, b_write_heard := B40, mg_write_heard := PySem.W.mg_of X G a40, fn_Waiting_init := F41, b_Waiting_init := B41, fn_Waiting_try_keep := F42, b_Waiting_try_keep := B42, me_Waiting_try_keep := ⟨a42, i42, k42⟩, fn_Waiting_how_many := F43, b_Waiting_how_many := B43, me_Waiting_how_many := ⟨a43, i43, k43⟩, fn_Waiting_due_waits := F44, b_Waiting_due_waits := B44, me_Waiting_due_waits := ⟨a44, i44, k44⟩, fn_Waiting_take_due := F45, b_Waiting_take_due := B45, me_Waiting_take_due := ⟨a45, i45, k45⟩, fn_Waiting_give_up_due := F46, b_Waiting_give_up_due := B46, me_Waiting_give_up_due := ⟨a46, i46, k46⟩, fn_Receiver_init := F47, b_Receiver_init := B47, fn_Receiver_receive := F48, b_Receiver_receive := B48, me_Receiver_receive := ⟨a48, i48, k48⟩, fn_Receiver_doubt := F49, b_Receiver_doubt := B49, me_Receiver_doubt := ⟨a49, i49, k49⟩, fn_Receiver_begin_numbers := F50, b_Receiver_begin_numbers := B50, me_Receiver_begin_numbers := ⟨a50, i50, k50⟩, fn_Receiver_keep_counted := F51, b_Receiver_keep_counted := B51, me_Receiver_keep_counted := ⟨a51, i51, k51⟩, fn_Receiver_take := F52, b_Receiver_take := B52, me_Receiver_take := ⟨a52, i52, k52⟩, fn_Receiver_report := F53, b_Receiver_report := B53, me_Receiver_report := ⟨a53, i53, k53⟩, fn_Receiver_report_block := F54, b_Receiver_report_block := B54, me_Receiver_report_block := ⟨a54, i54, k54⟩, fn_Receiver_hear := F55, b_Receiver_hear := B55, me_Receiver_hear := ⟨a55, i55, k55⟩, fn_Receiver_tell := F56, b_Receiver_tell := B56, me_Receiver_tell := ⟨a56, i56, k56⟩, fn_Receiver_told_counts := F57, b_Receiver_told_counts := B57, me_Receiver_told_counts := ⟨a57, i57, k57⟩, fn_taken := F58, b_taken := B58, mg_taken := PySem.W.mg_of X G a58, fn_Desk_init := F59, b_Desk_init := B59, fn_Desk_has_more := F60, b_Desk_has_more := B60, me_Desk_has_more := ⟨a60, i60, k60⟩, fn_Desk_draw := F61, b_Desk_draw := B61, me_Desk_draw := ⟨a61, i61, k61⟩, fn_Desk_draw_row := F62, b_Desk_draw_row := B62, me_Desk_draw_row := ⟨a62, i62, k62⟩, fn_Desk_answer_call := F63, b_Desk_answer_call := B63, me_Desk_answer_call := ⟨a63, i63, k63⟩, fn_Desk_answer_begin := F64, b_Desk_answer_begin := B64, me_Desk_answer_begin := ⟨a64, i64, k64⟩, fn_Desk_answer_receive := F65, b_Desk_answer_receive := B65, me_Desk_answer_receive := ⟨a65, i65, k65⟩, fn_Desk_answer_heard := F66, b_Desk_answer_heard := B66, me_Desk_answer_heard := ⟨a66, i66, k66⟩, fn_answers := F67, b_answers := B67, mg_answers := PySem.W.mg_of X G a67, g_MOST_BYTES := ⟨_, PySem.W.mg_of X G g_MOST_BYTES, ⟨_, rfl⟩⟩, g_VERSION := ⟨_, PySem.W.mg_of X G g_VERSION, ⟨_, rfl⟩⟩, g_PADDING := ⟨_, PySem.W.mg_of X G g_PADDING, ⟨_, rfl⟩⟩, g_FOUR_BYTES := ⟨_, PySem.W.mg_of X G g_FOUR_BYTES, ⟨_, rfl⟩⟩, g_NUMBERS := ⟨_, PySem.W.mg_of X G g_NUMBERS, ⟨_, rfl⟩⟩, g_FAR_AHEAD := ⟨_, PySem.W.mg_of X G g_FAR_AHEAD, ⟨_, rfl⟩⟩, g_FAR_BEHIND := ⟨_, PySem.W.mg_of X G g_FAR_BEHIND, ⟨_, rfl⟩⟩, g_MOST_SHARE := ⟨_, PySem.W.mg_of X G g_MOST_SHARE, ⟨_, rfl⟩⟩, g_LEAST_MISSING := ⟨_, PySem.W.mg_of X G g_LEAST_MISSING, ⟨_, rfl⟩⟩, g_MOST_MISSING := ⟨_, PySem.W.mg_of X G g_MOST_MISSING, ⟨_, rfl⟩⟩, g_HEAD_LENGTH := ⟨_, PySem.W.mg_of X G g_HEAD_LENGTH, ⟨_, rfl⟩⟩, g_EXTENSION := ⟨_, PySem.W.mg_of X G g_EXTENSION, ⟨_, rfl⟩⟩, g_OTHER_SOURCES := ⟨_, PySem.W.mg_of X G g_OTHER_SOURCES, ⟨_, rfl⟩⟩, g_MARK := ⟨_, PySem.W.mg_of X G g_MARK, ⟨_, rfl⟩⟩, g_SENDER_REPORT := ⟨_, PySem.W.mg_of X G g_SENDER_REPORT, ⟨_, rfl⟩⟩, g_RECEIVER_REPORT := ⟨_, PySem.W.mg_of X G g_RECEIVER_REPORT, ⟨_, rfl⟩⟩, g_GOODBYE := ⟨_, PySem.W.mg_of X G g_GOODBYE, ⟨_, rfl⟩⟩, g_LEAST_LENGTH := ⟨_, PySem.W.mg_of X G g_LEAST_LENGTH, ⟨_, rfl⟩⟩, g_ENTRIES := ⟨_, PySem.W.mg_of X G g_ENTRIES, ⟨_, rfl⟩⟩, g_MOST_WAITING := ⟨_, PySem.W.mg_of X G g_MOST_WAITING, ⟨_, rfl⟩⟩, g_MOST_CARRIED := ⟨_, PySem.W.mg_of X G g_MOST_CARRIED, ⟨_, rfl⟩⟩, g_KEPT := ⟨_, PySem.W.mg_of X G g_KEPT, ⟨_, rfl⟩⟩, g_COUNTED := ⟨_, PySem.W.mg_of X G g_COUNTED, ⟨_, rfl⟩⟩, g_NOT_BELIEVED := ⟨_, PySem.W.mg_of X G g_NOT_BELIEVED, ⟨_, rfl⟩⟩, g_NO_PACKET := ⟨_, PySem.W.mg_of X G g_NO_PACKET, ⟨_, rfl⟩⟩, g_OTHER_SOURCE := ⟨_, PySem.W.mg_of X G g_OTHER_SOURCE, ⟨_, rfl⟩⟩, g_NOT_THERE_YET := ⟨_, PySem.W.mg_of X G g_NOT_THERE_YET, ⟨_, rfl⟩⟩, g_LOST := ⟨_, PySem.W.mg_of X G g_LOST, ⟨_, rfl⟩⟩, g_MOST_TOO_SMALL := ⟨_, PySem.W.mg_of X G g_MOST_TOO_SMALL, ⟨_, rfl⟩⟩, g_PARTS_NOT_RIGHT := ⟨_, PySem.W.mg_of X G g_PARTS_NOT_RIGHT, ⟨_, rfl⟩⟩, g_NONE_HEARD_OF := ⟨_, PySem.W.mg_of X G g_NONE_HEARD_OF, ⟨_, rfl⟩⟩, g_THREE_BYTES := ⟨_, PySem.W.mg_of X G g_THREE_BYTES, ⟨_, rfl⟩⟩, g_RP_BEGIN := ⟨_, PySem.W.mg_of X G g_RP_BEGIN, ⟨_, rfl⟩⟩, g_RP_RECEIVE := ⟨_, PySem.W.mg_of X G g_RP_RECEIVE, ⟨_, rfl⟩⟩, g_RP_TAKE := ⟨_, PySem.W.mg_of X G g_RP_TAKE, ⟨_, rfl⟩⟩, g_RP_REPORT := ⟨_, PySem.W.mg_of X G g_RP_REPORT, ⟨_, rfl⟩⟩, g_RP_HEARD := ⟨_, PySem.W.mg_of X G g_RP_HEARD, ⟨_, rfl⟩⟩, g_RP_TOLD := ⟨_, PySem.W.mg_of X G g_RP_TOLD, ⟨_, rfl⟩⟩, g_LEAST_DEPTH := ⟨_, PySem.W.mg_of X G g_LEAST_DEPTH, ⟨_, rfl⟩⟩, g_MOST_DEPTH := ⟨_, PySem.W.mg_of X G g_MOST_DEPTH, ⟨_, rfl⟩⟩, g_BEGUN := ⟨_, PySem.W.mg_of X G g_BEGUN, ⟨_, rfl⟩⟩, g_DEPTH_REFUSED := ⟨_, PySem.W.mg_of X G g_DEPTH_REFUSED, ⟨_, rfl⟩⟩, gd_LEAST_LENGTHS := ⟨_, PySem.W.mg_of X G gd_LEAST_LENGTHS, rfl⟩, kd_LEAST_LENGTHS := ⟨⟨_, _, _, ld_LEAST_LENGTHS, ⟨rfl, rfl, rfl⟩, rfl, .cons rfl (.cons rfl (.cons rfl (.cons rfl (.cons rfl (.nil)))))⟩, (by show ([200, 201, 202, 203, 204] : List Int).Nodup; decide), sm_LEAST_LENGTHS⟩, kt_LEAST_LENGTHS_0 := ⟨_, _, _, lt_LEAST_LENGTHS_0, rfl, rfl, (by show 2 ≤ sizeLine; decide), .cons ⟨_, rfl⟩ (.cons ⟨_, rfl⟩ (.nil))⟩, kt_LEAST_LENGTHS_1 := ⟨_, _, _, lt_LEAST_LENGTHS_1, rfl, rfl, (by show 2 ≤ sizeLine; decide), .cons ⟨_, rfl⟩ (.cons ⟨_, rfl⟩ (.nil))⟩, kt_LEAST_LENGTHS_2 := ⟨_, _, _, lt_LEAST_LENGTHS_2, rfl, rfl, (by show 2 ≤ sizeLine; decide), .cons ⟨_, rfl⟩ (.cons ⟨_, rfl⟩ (.nil))⟩, kt_LEAST_LENGTHS_3 := ⟨_, _, _, lt_LEAST_LENGTHS_3, rfl, rfl, (by show 2 ≤ sizeLine; decide), .cons ⟨_, rfl⟩ (.cons ⟨_, rfl⟩ (.nil))⟩, kt_LEAST_LENGTHS_4 := ⟨_, _, _, lt_LEAST_LENGTHS_4, rfl, rfl, (by show 2 ≤ sizeLine; decide), .cons ⟨_, rfl⟩ (.cons ⟨_, rfl⟩ (.nil))⟩, n_any := PySem.W.mg_none_of X G n_any, n_len := PySem.W.mg_none_of X G n_len, n_max := PySem.W.mg_none_of X G n_max, n_min := PySem.W.mg_none_of X G n_min, n_range := PySem.W.mg_none_of X G n_range }
end My
/-! The head: from the promise of the def to the row's claim, for one argument that is a list of whole numbers and an answer that is one. -/
namespace LpHead
open PySem PySem.Spec PyProof.Rows L2

theorem call_list {P : Program} {w : World} {K : PySem.W.Frag} {mg mb : Str → Option Value} {k : Nat} {fa a : Addr} {fd : FuncData} {x : Str} {sp : Sp} {s₁ : Shared} {vs : List Value} {ns res : List Int}
    (KX : K.In s₁.heap) (hns : s₁.heap.Ns mainGlobals mg) (hb : s₁.heap.Ns builtinsNs mb) (hbb : ∀ x : Str, x ≠ "__name__" → mb x = bootBuiltins x) (hlim : s₁.heap.NoLimit) (hg : s₁.gens = #[])
    (ha : s₁.heap.get? a = some { cls := .type "list", data := .seq vs.toArray }) (hi : IntsAre vs ns) (hl : ns.length ≤ sizeLine) (hr : Room k callerA)
    (F : ∀ base : Heap, K.In base → base.Ns mainGlobals mg → FnOk P w K mg base CX0 k fa fd [x] sp) (hbind : ∀ (s : Shared) (u : Value), BindsTo s fd ⟨[u], []⟩ [(x, u)])
    (hsp : ∀ H : Hp, Only H → SqL K H a (ns.map V.int) → sp [.ref a] H (fun v H' => ∃ l, v = .ref l ∧ H' l = some (.lst (res.map V.int))) fun _ _ _ => False) :
    codeAny (model P w) callerA (.call (.ref fa) ⟨[.ref a], []⟩) (fun r s' => (∃ l us n, r = .ok (.ret (.ref l)) ∧ s'.heap.get? l = some { cls := .type "list", data := .seq us.toArray n } ∧ IntsAre us res) ∧ OldK s₁.heap s'.heap ∧ s'.os = s₁.os ∧ AllBare s'.gens) s₁ := by
  have rv := vals_ints hi
  have lenV := hi.length
  have core : ∀ H : Hp, Only H → SqL K H a (ns.map V.int) → HOk P w H s₁.heap → (∀ b, H b ≠ none → b = a) → (H a ≠ none → K.lookup a = none) →
      codeAny (model P w) callerA (.call (.ref fa) ⟨[.ref a], []⟩) (fun r s' => (∃ l us n, r = .ok (.ret (.ref l)) ∧ s'.heap.get? l = some { cls := .type "list", data := .seq us.toArray n } ∧ IntsAre us res) ∧ OldK s₁.heap s'.heap ∧ s'.os = s₁.os ∧ AllBare s'.gens) s₁ := by
    intro H hO hS hok hA hK
    have base_of : ∀ {b : Addr} {o : Obj}, s₁.heap.get? b = some o → H b = none → (hidT s₁.heap H).get? b = some o := fun e n => hidT_get e n
    have noA : ∀ {b : Addr} {o : Obj} {es : Array DictEntry} {ep : Nat}, s₁.heap.get? b = some o → o.data = .dict es ep → H b = none := fun {b o es ep} e d => by
      cases q : H b with
      | none => rfl
      | some u =>
        have e' : b = a := hA b (by rw [q]; simp)
        subst e'
        rw [ha] at e; cases e
        have d' : Data.seq vs.toArray _ = Data.dict es ep := d
        cases d'
    have nsK : ∀ {b : Addr} {m : Str → Option Value}, s₁.heap.Ns b m → (hidT s₁.heap H).Ns b m := fun {b m} ⟨o, es, ep, e, d, r⟩ => ⟨o, es, ep, base_of e (noA e d), d, r⟩
    have hKb : K.In (hidT s₁.heap H) := fun b o e => base_of (KX b o e) (by
      cases q : H b with
      | none => rfl
      | some u =>
        have e' : b = a := hA b (by rw [q]; simp)
        subst e'
        rw [hK (by rw [q]; simp)] at e; cases e)
    have hM : Mod K mg (hidT s₁.heap H) := ⟨hKb, nsK hns, ⟨mb, nsK hb, hbb⟩, let ⟨mc, h1, h2⟩ := hlim; ⟨mc, nsK h1, h2⟩⟩
    have e0 : Env0 P w K mg (hidT s₁.heap H) callerA [] s₁ H := ⟨rfl, hM, fun b o e => of_hidT e, Nat.le_of_eq (hidT_size _ _), trivial, fun b hb => absurd (show b ∈ ([] : List Addr) from hb) (by simp), hok, .of_eq hg⟩
    refine codeAny_mono ((F _ hKb (nsK hns)).run callerA [] s₁ H ⟨[.ref a], []⟩ [.ref a] [.ref a] _ _ hr e0 (hbind s₁ (.ref a)) (.cons rfl .nil) (hsp H hO hS)) fun r s' h => ?_
    cases r with
    | error e => exact False.elim h
    | ok fl =>
      cases fl with
      | next => exact False.elim h
      | brk => exact False.elim h
      | cont => exact False.elim h
      | ret u =>
        obtain ⟨v, H', os, bare, un, hok', r', l, q, hl'⟩ := h
        subst q
        obtain rfl : u = Value.ref l := r'
        obtain ⟨_, its, n, hv, hg'⟩ := hok' l _ hl'
        refine ⟨⟨l, its, n, rfl, hg', intsAre_of hv⟩, OldK.of_keep fun b o e => ?_, os, bare⟩
        cases q : H b with
        | none => exact un.keep b o e q (by intro z; exact absurd (show b ∈ ([] : List Addr) from z) (by simp)) (by simp)
        | some u =>
          rcases hO b with z | ⟨ob, xs, z⟩
          · rw [q] at z; cases z
          · have z2 := un.frzs b ob _ z
            obtain ⟨e1, _⟩ := hok b _ z
            obtain ⟨e2, _⟩ := hok' b _ z2
            rw [e] at e1; cases e1
            exact e2
  cases hk : K.lookup a with
  | some o =>
    have e := KX a o hk
    rw [ha] at e
    cases e
    refine core (fun _ => none) (fun _ => .inl rfl) (.inr ⟨_, vs.toArray, _, hk, rfl, rfl, rfl, by rw [List.size_toArray, lenV]; exact hl, by simpa using rv⟩) (fun b u z => by have z' : (none : Option HO) = some u := z; cases z') (fun b z => absurd rfl z) fun z => absurd rfl z
  | none =>
    refine core (fun b => if b = a then some (.frz { cls := .type "list", data := .seq vs.toArray } (.lst (ns.map V.int))) else none) (fun b => ?_) (.inl (.inr ⟨{ cls := .type "list", data := .seq vs.toArray }, if_pos rfl⟩)) (fun b u z => ?_) (fun b z => ?_) fun _ => hk
    · by_cases hb : b = a
      · exact .inr ⟨_, _, if_pos hb⟩
      · exact .inl (if_neg hb)
    · by_cases hb : b = a
      · have z' := (if_pos hb).symm.trans z
        cases z'
        subst hb
        exact ⟨ha, by rw [List.length_map]; exact hl, vs, _, rv, ha⟩
      · have z' := (if_neg hb).symm.trans z
        cases z'
    · by_cases hb : b = a
      · exact hb
      · exact absurd (if_neg hb) z

theorem reads_ints {R : PySem.W.WRecords} {cl : Str → Option Addr} {h : Heap} : ∀ {us : List Value} {ns : List Int}, IntsAre us ns → ∃ as, PySem.W.ReadsAllW R cl h us (ns.map PySem.W.WData.int) as
  | _, _, .nil => ⟨_, .nil⟩
  | _, _, .cons n t r => by
    obtain ⟨as, q⟩ := reads_ints r
    exact ⟨_, .cons (.int n t) q⟩

/-- the goal that k_headS leaves, from the def's promise -/
theorem walk_ofS {r : PySem.W.OpenSpec} {n k : Nat} {q : Program} {loose : List Str} {XP : (Str → Option Value) → Heap → Prop} {YP : World → Heap → Prop} {d : DefRec} {K : Params → PySem.W.Frag} {sp : PySem.W.Frag → Sp} {x : Str} {Asked : List Int → Prop} {res : List Int → List Int}
    (hpre : ∀ args, r.pre args = true → ∃ ns : List Int, args = [.list (ns.map .int)] ∧ ns.length ≤ n ∧ Asked ns)
    (hpost : ∀ ns : List Int, r.pre [.list (ns.map .int)] = true → r.post [.list (ns.map .int)] (.list ((res ns).map .int)) = true)
    (hn2 : n ≤ sizeLine) (hdf : d.params.defaults = []) (hr : Room k callerA)
    (hY : ∀ (w : World) (h : Heap), YP w h → (K w.params).In h)
    (F : ∀ (w : World) (mg : Str → Option Value) (fa : Addr) (h : Heap), (K w.params).In h → h.Ns mainGlobals mg → mg d.name = some (.ref fa) →
      ∃ fd : FuncData, (∀ (s : Shared) (u : Value), BindsTo s fd ⟨[u], []⟩ [(x, u)]) ∧
        ∀ base : Heap, (K w.params).In base → base.Ns mainGlobals mg → FnOk r.prog w (K w.params) mg base CX0 k fa fd [x] (sp (K w.params)))
    (hsp : ∀ (K : PySem.W.Frag) (H : Hp) (a : Addr) (ns : List Int), ns.length ≤ n → Asked ns → Only H → SqL K H a (ns.map V.int) → sp K [.ref a] H (fun v H' => ∃ l, v = .ref l ∧ H' l = some (.lst ((res ns).map V.int))) fun _ _ _ => False) :
    PySem.W.WalkOS q loose XP YP r d [] (fun f vs => PySem.call f vs) := by
  intro w s₀ s₁ mg mb G Y fa o pm cd doc dV kV ho hd hcd hD hmg hg args vals as hp hlay hrd hwl hlo
  obtain ⟨ns, rfl, hlen, hask⟩ := hpre args hp
  have KX := hY w _ Y
  obtain ⟨fd, hb, hF⟩ := F w mg fa _ KX G.T.g hmg
  cases hwl with
  | cons w1 w2 =>
    cases w2
    cases w1 with
    | list hob hall =>
      have hints := Att.ints_of_wellAll ns _ hall
      refine PySem.W.enter_call (codeAny_mono (call_list KX G.T.g G.T.b G.T.builtins G.T.nolimit hg hob hints (Nat.le_trans hlen hn2) hr hF hb (res := res ns) (fun H hO hS => hsp _ H _ ns hlen hask hO hS)) fun r' s' hq => ?_)
      obtain ⟨⟨l, us, m, rfl, hl, hi⟩, h2, h3, h4⟩ := hq
      obtain ⟨as', hrd'⟩ := reads_ints (R := []) (cl := classAt s₀.heap) (h := s'.heap) hi
      have hrd2 : PySem.W.ReadsAllW [] (classAt s₀.heap) s'.heap us.toArray.toList ((res ns).map PySem.W.WData.int) as' := by simpa using hrd'
      exact ⟨.inl ⟨.ref l, .list ((res ns).map .int), _, rfl, PySem.W.osNone, .list hl rfl rfl hrd2, PySem.W.osPost (hpost ns hp), fun h => absurd h Bool.false_ne_true⟩, h2, h3, h4⟩
end LpHead
namespace My
open PySem L2
theorem fin {r : PySem.W.OpenSpec} {w : World} {K : PySem.W.Frag} {mg : Str → Option Value} {fa f : Addr} (hfa : mg "answers" = some (.ref fa)) (h : ∃ t : Adr, Txt K mg t ∧ (t.f_answers = f) ∧ ∀ (s : Shared) (v : Value), BindsTo s t.fd_answers ⟨[v], []⟩ [("calls", v)]) :
    ∃ fd : FuncData, (∀ (s : Shared) (u : Value), BindsTo s fd ⟨[u], []⟩ [("calls", u)]) ∧ ∀ base : Heap, K.In base → base.Ns mainGlobals mg → FnOk r.prog w K mg base CX0 9 fa fd ["calls"] (sp_answers K) := by
  obtain ⟨t, T, _, hb⟩ := h
  refine ⟨t.fd_answers, hb, fun base _ _ => ?_⟩
  have e := hfa.symm.trans T.mg_answers
  cases e
  exact ok_answers T
def Asked (ns : List Int) : Prop := PyQl48.answers_asked ns = true ∧ ∀ y ∈ ns, y ≤ 4294967295
open PySem.W in
theorem ints_of {least most : Nat} {lo hi : Int} {as : List WData} {a : Codec.denoteAll [.list least most (.int lo hi)]} (h : Codec.decAll [.list least most (.int lo hi)] as = some a) :
    ∃ ns : List Int, as = [.list (ns.map .int)] ∧ a = (ns, ()) ∧ ns.length ≤ most ∧ ∀ x ∈ ns, lo ≤ x ∧ x ≤ hi := by
  have items : ∀ (ds : List WData) (l : List Int), Codec.decItems (Codec.decInt lo hi) ds = some l → ds = l.map WData.int ∧ ∀ x ∈ l, lo ≤ x ∧ x ≤ hi := by
    intro ds
    induction ds with
    | nil =>
      intro l h
      have h' : some ([] : List Int) = some l := h
      cases h'
      exact ⟨rfl, fun x hx => absurd hx (by simp)⟩
    | cons d ds ih =>
      intro l h
      have h' : Codec.both List.cons (Codec.decInt lo hi d) (Codec.decItems (Codec.decInt lo hi) ds) = some l := h
      cases h1 : Codec.decInt lo hi d with
      | none => rw [h1] at h'; cases h'
      | some z =>
        cases h2 : Codec.decItems (Codec.decInt lo hi) ds with
        | none => rw [h1, h2] at h'; cases h'
        | some l' =>
          rw [h1, h2] at h'
          have h3 : some (z :: l') = some l := h'
          cases h3
          obtain ⟨e, hb⟩ := ih l' h2
          have hd : d = .int z ∧ lo ≤ z ∧ z ≤ hi := by
            cases d with
            | int y =>
              have h4 : (if Codec.inInt lo hi y = true then some y else none) = some z := h1
              by_cases hy : Codec.inInt lo hi y = true
              · rw [if_pos hy] at h4
                cases h4
                unfold Codec.inInt at hy
                simp only [Bool.and_eq_true, decide_eq_true_eq] at hy
                exact ⟨rfl, hy⟩
              · rw [if_neg hy] at h4
                cases h4
            | _ => cases h1
          refine ⟨by rw [hd.1, e]; rfl, fun x hx => ?_⟩
          rcases List.mem_cons.mp hx with rfl | hx
          · exact hd.2
          · exact hb x hx
  cases as with
  | nil => cases h
  | cons d ds =>
    have h' : Codec.both Prod.mk (Codec.decList least most (Codec.decInt lo hi) d) (Codec.decEnd ds) = some a := h
    cases h1 : Codec.decList least most (Codec.decInt lo hi) d with
    | none => rw [h1] at h'; cases h'
    | some ns =>
      cases h2 : Codec.decEnd ds with
      | none => rw [h1, h2] at h'; cases h'
      | some u =>
        rw [h1, h2] at h'
        have h3 : some (ns, u) = some a := h'
        cases h3
        have hds : ds = [] := by
          cases ds with
          | nil => rfl
          | cons _ _ => cases h2
        subst hds
        cases d with
        | list xs =>
          have h4 : (if Codec.inLen least most xs = true then Codec.decItems (Codec.decInt lo hi) xs else none) = some ns := h1
          by_cases hl : Codec.inLen least most xs = true
          · rw [if_pos hl] at h4
            obtain ⟨e, hb⟩ := items xs ns h4
            refine ⟨ns, by rw [e], rfl, ?_, hb⟩
            unfold Codec.inLen Codec.inNat at hl
            simp only [Bool.and_eq_true, decide_eq_true_eq] at hl
            have := hl.2
            rw [e, List.length_map] at this
            exact this
          · rw [if_neg hl] at h4
            cases h4
        | _ => cases h1
end My
def PySem.W.Fast.tw8151476443711344672 : Unit := ()
def PySem.W.Fast.tw8188956380320610400 : Unit := ()
def PySem.W.Fast.tw6018730847304557728 : Unit := ()
def PySem.W.Fast.tw6048089292246699200 : Unit := ()
def PySem.W.Fast.tw2178626967960458464 : Unit := ()
def PySem.W.Fast.tw6419751439753258208 : Unit := ()
def PySem.W.Fast.tw5639465042310531392 : Unit := ()
def PySem.W.Fast.tw465272981981695328 : Unit := ()
def PySem.W.Fast.tw10065703698077055360 : Unit := ()
def PySem.W.Fast.tw4710660691606342080 : Unit := ()
def PySem.W.Fast.tw6655074119022245376 : Unit := ()
def PySem.W.Fast.tw3524388882452451872 : Unit := ()
def PySem.W.Fast.tw1122666894470288960 : Unit := ()
def PySem.W.Fast.tw15048079159881972480 : Unit := ()
def PySem.W.Fast.tw4571106608620323648 : Unit := ()
def PySem.W.Fast.tw7446044055127840576 : Unit := ()
def PySem.W.Fast.tw5348036002626765664 : Unit := ()
def PySem.W.Fast.tw7020441580716662752 : Unit := ()
def PySem.W.Fast.tw16290695945746463745 : Unit := ()
def PySem.W.Fast.tw15310764802356700161 : Unit := ()
def PySem.W.Fast.tw9728656582231926017 : Unit := ()
def PySem.W.Fast.tw1178097195971313953 : Unit := ()
def PySem.W.Fast.tw8025606318255157537 : Unit := ()
def PySem.W.Fast.tw5132510255442407777 : Unit := ()
def PySem.W.Fast.tw6278577226321375585 : Unit := ()
def PySem.W.Fast.tw6228694457292664257 : Unit := ()
def PySem.W.Fast.tw9256333712980691521 : Unit := ()
def PySem.W.Fast.tw6640244347559018145 : Unit := ()
def PySem.W.Fast.tw6734456453210182337 : Unit := ()
def PySem.W.Fast.tw5740699425158808257 : Unit := ()
def PySem.W.Fast.tw6964482643399132865 : Unit := ()
def PySem.W.Fast.tw7541659106417515233 : Unit := ()
def PySem.W.Fast.tw8278918283970591521 : Unit := ()
def PySem.W.Fast.tw1013076288258444065 : Unit := ()
def PySem.W.Fast.tw6092948270409418529 : Unit := ()
def PySem.W.Fast.tw13640522556844827457 : Unit := ()
def PySem.W.Fast.tw1360810491399543713 : Unit := ()
def PySem.W.Fast.tw18394777007739196385 : Unit := ()
def PySem.W.Fast.tw772978764022729697 : Unit := ()
def PySem.W.Fast.tw530249928177764354 : Unit := ()
def PySem.W.Fast.tw10414693416291718178 : Unit := ()
def PySem.W.Fast.tw5540754858317171778 : Unit := ()
def PySem.W.Fast.tw17544850987286228066 : Unit := ()
def PySem.W.Fast.tw4808356233845992578 : Unit := ()
def PySem.W.Fast.tw439488027882392770 : Unit := ()
def PySem.W.Fast.tw5179318906346825922 : Unit := ()
def PySem.W.Fast.tw11401441717924569346 : Unit := ()
def PySem.W.Fast.tw10137350176527545666 : Unit := ()
def PySem.W.Fast.tw7244125098389534146 : Unit := ()
def PySem.W.Fast.tw16398905932758117954 : Unit := ()
def PySem.W.Fast.tw11466596024380513922 : Unit := ()
def PySem.W.Fast.tw7710363312941656738 : Unit := ()
def PySem.W.Fast.tw4090824965452392130 : Unit := ()
def PySem.W.Fast.tw4402947520891465474 : Unit := ()
def PySem.W.Fast.tw16655567212945017634 : Unit := ()
def PySem.W.Fast.tw16508557934339290914 : Unit := ()
def PySem.W.Fast.tw16789804583702633282 : Unit := ()
def PySem.W.Fast.tw18058261355504369538 : Unit := ()
def PySem.W.Fast.tw2345417467110931330 : Unit := ()
def PySem.W.Fast.tw4319798404656550882 : Unit := ()
def PySem.W.Fast.tw1953228828562618371 : Unit := ()
def PySem.W.Fast.tw6097462446326186051 : Unit := ()
def PySem.W.Fast.tw5846979103782671459 : Unit := ()
def PySem.W.Fast.tw6869200759033874531 : Unit := ()
def PySem.W.Fast.tw18146404139463019683 : Unit := ()
def PySem.W.Fast.tw16429519641922809059 : Unit := ()
def PySem.W.Fast.tw16374751719149895939 : Unit := ()
def PySem.W.Fast.tw6854008258207583523 : Unit := ()
def PySem.W.Fast.tw15972880923400335715 : Unit := ()
def PySem.W.Fast.tw6584741485167779171 : Unit := ()
def PySem.W.Fast.tw17350699882974847363 : Unit := ()
def PySem.W.Fast.tw9838251868276864419 : Unit := ()
def PySem.W.Fast.tw5214382130095066659 : Unit := ()
def PySem.W.Fast.tw1468820995426016867 : Unit := ()
def PySem.W.Fast.tw62987359011881603 : Unit := ()
def PySem.W.Fast.tw5905460442720988803 : Unit := ()
def PySem.W.Fast.tw4899450808226635427 : Unit := ()
def PySem.W.Fast.tw6813533419244333859 : Unit := ()
def PySem.W.Fast.tw5723495333666393923 : Unit := ()
def PySem.W.Fast.tw61234820254950275 : Unit := ()
def PySem.W.Fast.tw7593436479934736388 : Unit := ()
def PySem.W.Fast.tw6043300460141653156 : Unit := ()
def PySem.W.Fast.tw1212026059354391716 : Unit := ()
def PySem.W.Fast.tw7025084499374730404 : Unit := ()
def PySem.W.Fast.tw5378191600919697668 : Unit := ()
def PySem.W.Fast.tw16631105390798131460 : Unit := ()
def PySem.W.Fast.tw3393331499383495972 : Unit := ()
def PySem.W.Fast.tw17586547652265126244 : Unit := ()
def PySem.W.Fast.tw9390328356601682308 : Unit := ()
def PySem.W.Fast.tw17328119576820636100 : Unit := ()
def PySem.W.Fast.tw7854132570931567108 : Unit := ()
def PySem.W.Fast.tw18299660768153304644 : Unit := ()
def PySem.W.Fast.tw9091789277652804228 : Unit := ()
def PySem.W.Fast.tw13485355823245684388 : Unit := ()
def PySem.W.Fast.tw3244733893555222180 : Unit := ()
def PySem.W.Fast.tw537146911633281732 : Unit := ()
def PySem.W.Fast.tw17058623000667450052 : Unit := ()
def PySem.W.Fast.tw17379023335562655460 : Unit := ()
def PySem.W.Fast.tw14663739292269493028 : Unit := ()
def PySem.W.Fast.tw11510704286231350116 : Unit := ()
def PySem.W.Fast.tw14596389129405324164 : Unit := ()
def PySem.W.Fast.tw11338458947918905316 : Unit := ()
def PySem.W.Fast.tw2327171037642392613 : Unit := ()
def PySem.W.Fast.tw2261731118418026533 : Unit := ()
def PySem.W.Fast.tw4694662885916588197 : Unit := ()
def PySem.W.Fast.tw1805813373621121445 : Unit := ()
def PySem.W.Fast.tw4901190639879698853 : Unit := ()
def PySem.W.Fast.tw1624745949534809573 : Unit := ()
def PySem.W.Fast.tw930600197001084453 : Unit := ()
def PySem.W.Fast.tw13556183116517973637 : Unit := ()
def PySem.W.Fast.tw6938232540168843013 : Unit := ()
def PySem.W.Fast.tw16239051588308033317 : Unit := ()
def PySem.W.Fast.tw62234004866876229 : Unit := ()
def PySem.W.Fast.tw14139133681648820101 : Unit := ()
def PySem.W.Fast.tw7063492478971379621 : Unit := ()
def PySem.W.Fast.tw6453131849997771717 : Unit := ()
def PySem.W.Fast.tw6432062750953706630 : Unit := ()
def PySem.W.Fast.tw10887215710251553958 : Unit := ()
def PySem.W.Fast.tw6943484509806398694 : Unit := ()
def PySem.W.Fast.tw1817862402015435110 : Unit := ()
def PySem.W.Fast.tw8719739946084164998 : Unit := ()
def PySem.W.Fast.tw1474195815274840486 : Unit := ()
def PySem.W.Fast.tw15471795229819035046 : Unit := ()
def PySem.W.Fast.tw14909284946941320774 : Unit := ()
def PySem.W.Fast.tw11622233044681765478 : Unit := ()
def PySem.W.Fast.tw16366686326674443974 : Unit := ()
def PySem.W.Fast.tw8685902738640346886 : Unit := ()
def PySem.W.Fast.tw16895071885814541126 : Unit := ()
def PySem.W.Fast.tw1090737641536733158 : Unit := ()
def PySem.W.Fast.tw12002193070618892262 : Unit := ()
def PySem.W.Fast.tw1319167556232103943 : Unit := ()
def PySem.W.Fast.tw1884685409123384359 : Unit := ()
def PySem.W.Fast.tw9471746730767252583 : Unit := ()
def PySem.W.Fast.tw11341838576964039815 : Unit := ()
def PySem.W.Fast.tw12216841722441565351 : Unit := ()
def PySem.W.Fast.tw10486251499202272487 : Unit := ()
def PySem.W.Fast.tw18439948660415744359 : Unit := ()
def PySem.W.Fast.tw13861999181171225031 : Unit := ()
def PySem.W.Fast.tw3837340913462993383 : Unit := ()
def PySem.W.Fast.tw10858556057831054855 : Unit := ()
def PySem.W.Fast.tw15885504293505442375 : Unit := ()
def PySem.W.Fast.tw12536326557642798663 : Unit := ()
def PySem.W.Fast.tw31233802883120711 : Unit := ()
def PySem.W.Fast.tw3843386135597660775 : Unit := ()
def PySem.W.Fast.tw16651243763951239911 : Unit := ()
def PySem.W.Fast.tw16477405876469600999 : Unit := ()
def PySem.W.Fast.tw8127967003865936775 : Unit := ()
def PySem.W.Fast.tw9712934910765061031 : Unit := ()
def PySem.W.Fast.tw5717440361027970056 : Unit := ()
def PySem.W.Fast.tw12640809986050334856 : Unit := ()
def PySem.W.Fast.tw2985180327540503688 : Unit := ()
def PySem.W.Fast.tw9775402971044922568 : Unit := ()
def PySem.W.Fast.tw1816102691006697672 : Unit := ()
def PySem.W.Fast.tw44176557148100808 : Unit := ()
def PySem.W.Fast.tw15044488912785858824 : Unit := ()
def PySem.W.Fast.tw16839781856641179944 : Unit := ()
def PySem.W.Fast.tw2082832908503509352 : Unit := ()
def PySem.W.Fast.tw5495588232500956584 : Unit := ()
def PySem.W.Fast.tw6789262421602713032 : Unit := ()
def PySem.W.Fast.tw11737086616294925896 : Unit := ()
def PySem.W.Fast.tw12448478212890444360 : Unit := ()
def PySem.W.Fast.tw4839019732691472968 : Unit := ()
def PySem.W.Fast.tw11990177136311770760 : Unit := ()
def PySem.W.Fast.tw15498980199857035912 : Unit := ()
def PySem.W.Fast.tw12623548929751171784 : Unit := ()
def PySem.W.Fast.tw14166270857720980168 : Unit := ()
def PySem.W.Fast.tw1214361125363774216 : Unit := ()
def PySem.W.Fast.tw9239524448682770184 : Unit := ()
def PySem.W.Fast.tw7414754299740096296 : Unit := ()
def PySem.W.Fast.tw3756648623990813544 : Unit := ()
def PySem.W.Fast.tw16321599824800387081 : Unit := ()
def PySem.W.Fast.tw6456743158618100745 : Unit := ()
def PySem.W.Fast.tw3125175557029379113 : Unit := ()
def PySem.W.Fast.tw18437932396267397193 : Unit := ()
def PySem.W.Fast.tw6896965713341161609 : Unit := ()
def PySem.W.Fast.tw14078516521459278057 : Unit := ()
def PySem.W.Fast.tw18287755502050540841 : Unit := ()
def PySem.W.Fast.tw7402720139971953993 : Unit := ()
def PySem.W.Fast.tw12025244012601713001 : Unit := ()
def PySem.W.Fast.tw15834064850107043241 : Unit := ()
def PySem.W.Fast.tw8351432280550206889 : Unit := ()
def PySem.W.Fast.tw7797495226331037129 : Unit := ()
def PySem.W.Fast.tw1818424368456547849 : Unit := ()
def PySem.W.Fast.tw6975208462531883561 : Unit := ()
def PySem.W.Fast.tw6132696722173136553 : Unit := ()
def PySem.W.Fast.tw2533338902559623913 : Unit := ()
def PySem.W.Fast.tw13682437663330086633 : Unit := ()
def PySem.W.Fast.tw11810459289524449001 : Unit := ()
def PySem.W.Fast.tw1858247570156662569 : Unit := ()
def PySem.W.Fast.tw5061446253550612329 : Unit := ()
def PySem.W.Fast.tw13387029771856130953 : Unit := ()
def PySem.W.Fast.tw4331424748539447209 : Unit := ()
def PySem.W.Fast.tw10578596046675300265 : Unit := ()
def PySem.W.Fast.tw10011337796844740810 : Unit := ()
def PySem.W.Fast.tw15862903728300182826 : Unit := ()
def PySem.W.Fast.tw961681171893784938 : Unit := ()
def PySem.W.Fast.tw1529774415086545290 : Unit := ()
def PySem.W.Fast.tw13215551925317035466 : Unit := ()
def PySem.W.Fast.tw17721834524672426442 : Unit := ()
def PySem.W.Fast.tw13089042228557489706 : Unit := ()
def PySem.W.Fast.tw14580940048231617066 : Unit := ()
def PySem.W.Fast.tw6951434907705383498 : Unit := ()
def PySem.W.Fast.tw14388886424300564042 : Unit := ()
def PySem.W.Fast.tw5014740459312135786 : Unit := ()
def PySem.W.Fast.tw7610236272436181674 : Unit := ()
def PySem.W.Fast.tw16632718441328840458 : Unit := ()
def PySem.W.Fast.tw2630974441515417386 : Unit := ()
def PySem.W.Fast.tw2793062475836957514 : Unit := ()
def PySem.W.Fast.tw5292327994112686954 : Unit := ()
def PySem.W.Fast.tw17732587510680406922 : Unit := ()
def PySem.W.Fast.tw10995520329435614251 : Unit := ()
def PySem.W.Fast.tw9154560302103192651 : Unit := ()
def PySem.W.Fast.tw11378393922055417099 : Unit := ()
def PySem.W.Fast.tw7309004979402069259 : Unit := ()
def PySem.W.Fast.tw4240303411115946283 : Unit := ()
def PySem.W.Fast.tw3113904620789533003 : Unit := ()
def PySem.W.Fast.tw17304050414426234187 : Unit := ()
def PySem.W.Fast.tw11745824263357459787 : Unit := ()
def PySem.W.Fast.tw9060638767865202027 : Unit := ()
def PySem.W.Fast.tw12269450829826324843 : Unit := ()
def PySem.W.Fast.tw8216081750134502827 : Unit := ()
def PySem.W.Fast.tw4575288230069980651 : Unit := ()
def PySem.W.Fast.tw11981138985760086507 : Unit := ()
def PySem.W.Fast.tw13556689747694551531 : Unit := ()
def PySem.W.Fast.tw15673234608103579147 : Unit := ()
def PySem.W.Fast.tw7398754760777866891 : Unit := ()
def PySem.W.Fast.tw14211136731452862155 : Unit := ()
def PySem.W.Fast.tw6336150744960327403 : Unit := ()
def PySem.W.Fast.tw4787458369999709035 : Unit := ()
def PySem.W.Fast.tw12584565737474480172 : Unit := ()
def PySem.W.Fast.tw9449891487762085964 : Unit := ()
def PySem.W.Fast.tw4340531305176369420 : Unit := ()
def PySem.W.Fast.tw11177247659710429516 : Unit := ()
def PySem.W.Fast.tw16810118648417959340 : Unit := ()
def PySem.W.Fast.tw6465544788502281740 : Unit := ()
def PySem.W.Fast.tw3320532380002127372 : Unit := ()
def PySem.W.Fast.tw357098369406309036 : Unit := ()
def PySem.W.Fast.tw4467709994685258412 : Unit := ()
def PySem.W.Fast.tw9502432097931767532 : Unit := ()
def PySem.W.Fast.tw6130834833657528044 : Unit := ()
def PySem.W.Fast.tw10337829218537389836 : Unit := ()
def PySem.W.Fast.tw18305958625691639628 : Unit := ()
def PySem.W.Fast.tw1142894402261683084 : Unit := ()
def PySem.W.Fast.tw9589125992813744108 : Unit := ()
def PySem.W.Fast.tw15868919395552737485 : Unit := ()
def PySem.W.Fast.tw6760807596611047693 : Unit := ()
def PySem.W.Fast.tw3047780583920623949 : Unit := ()
def PySem.W.Fast.tw8668524510848876909 : Unit := ()
def PySem.W.Fast.tw14078596867030562157 : Unit := ()
def PySem.W.Fast.tw14803939471621879181 : Unit := ()
def PySem.W.Fast.tw17912174080597683597 : Unit := ()
def PySem.W.Fast.tw6387962519196277165 : Unit := ()
def PySem.W.Fast.tw12374006817622590989 : Unit := ()
def PySem.W.Fast.tw17616040413464784429 : Unit := ()
def PySem.W.Fast.tw16596645594306065965 : Unit := ()
def PySem.W.Fast.tw8736543040391590477 : Unit := ()
def PySem.W.Fast.tw16434616911860568781 : Unit := ()
def PySem.W.Fast.tw4181503494728367021 : Unit := ()
def PySem.W.Fast.tw18340417597346928621 : Unit := ()
def PySem.W.Fast.tw6151949267626688493 : Unit := ()
def PySem.W.Fast.tw8782905840262209550 : Unit := ()
def PySem.W.Fast.tw2334052055291431950 : Unit := ()
def PySem.W.Fast.tw14678327274914714670 : Unit := ()
def PySem.W.Fast.tw10146616783575211118 : Unit := ()
def PySem.W.Fast.tw1384850689594930350 : Unit := ()
def PySem.W.Fast.tw8897538801995785454 : Unit := ()
def PySem.W.Fast.tw5614845174984611054 : Unit := ()
def PySem.W.Fast.tw2664353502386723118 : Unit := ()
def PySem.W.Fast.tw3968981271880831310 : Unit := ()
def PySem.W.Fast.tw1447860121270523246 : Unit := ()
def PySem.W.Fast.tw2014916265404227982 : Unit := ()
def PySem.W.Fast.tw15291430062978963918 : Unit := ()
def PySem.W.Fast.tw9408290724539569646 : Unit := ()
def PySem.W.Fast.tw2872245450904885902 : Unit := ()
def PySem.W.Fast.tw4252713376392266414 : Unit := ()
def PySem.W.Fast.tw4547791504943757006 : Unit := ()
def PySem.W.Fast.tw9910195183733078798 : Unit := ()
def PySem.W.Fast.tw8053970983985837934 : Unit := ()
def PySem.W.Fast.tw11256666401962911694 : Unit := ()
def PySem.W.Fast.tw5614629115414705102 : Unit := ()
def PySem.W.Fast.tw5894763934922128399 : Unit := ()
def PySem.W.Fast.tw501285141624215599 : Unit := ()
def PySem.W.Fast.tw282070829744836655 : Unit := ()
def PySem.W.Fast.tw5659251152085862447 : Unit := ()
def PySem.W.Fast.tw4915002942437883983 : Unit := ()
def PySem.W.Fast.tw15410490814097892463 : Unit := ()
def PySem.W.Fast.tw2121924544941865071 : Unit := ()
def PySem.W.Fast.tw2437098651059039471 : Unit := ()
def PySem.W.Fast.tw8512423901173191951 : Unit := ()
def PySem.W.Fast.tw2738558642561190159 : Unit := ()
def PySem.W.Fast.tw8019942140529235247 : Unit := ()
def PySem.W.Fast.tw1528132617215393231 : Unit := ()
def PySem.W.Fast.tw1980347374659761711 : Unit := ()
def PySem.W.Fast.tw3641382182856454831 : Unit := ()
def PySem.W.Fast.tw16127282562593928911 : Unit := ()
def PySem.W.Fast.tw8770130571216396015 : Unit := ()
def PySem.W.Fast.tw14679014752537701231 : Unit := ()
def PySem.W.Fast.tw8463095773893203855 : Unit := ()
def PySem.W.Fast.tw5428077739846910927 : Unit := ()
def PySem.W.Fast.tw5455222619850397808 : Unit := ()
def PySem.W.Fast.tw12147636142911707440 : Unit := ()
def PySem.W.Fast.tw17159869087138085168 : Unit := ()
def PySem.W.Fast.tw1754792980060825968 : Unit := ()
def PySem.W.Fast.tw8187785589730125200 : Unit := ()
def PySem.W.Fast.tw2211466538375512464 : Unit := ()
def PySem.W.Fast.tw12549763866238290352 : Unit := ()
def PySem.W.Fast.tw4444333074463316400 : Unit := ()
def PySem.W.Fast.tw4435159328061653520 : Unit := ()
def PySem.W.Fast.tw11298781917571688336 : Unit := ()
def PySem.W.Fast.tw1411989785142940592 : Unit := ()
def PySem.W.Fast.tw6498309775235908528 : Unit := ()
def PySem.W.Fast.tw2270083669227121616 : Unit := ()
def PySem.W.Fast.tw3869391249778383856 : Unit := ()
def PySem.W.Fast.tw17263279357256741937 : Unit := ()
def PySem.W.Fast.tw11826704898169118833 : Unit := ()
def PySem.W.Fast.tw17260848014298174609 : Unit := ()
def PySem.W.Fast.tw4832503266270336177 : Unit := ()
def PySem.W.Fast.tw15243954385899991281 : Unit := ()
def PySem.W.Fast.tw15567130183054807313 : Unit := ()
def PySem.W.Fast.tw11302908488766431505 : Unit := ()
def PySem.W.Fast.tw2832326180853272977 : Unit := ()
def PySem.W.Fast.tw12074824742320967121 : Unit := ()
def PySem.W.Fast.tw17077459139220880849 : Unit := ()
def PySem.W.Fast.tw14977500321718555217 : Unit := ()
def PySem.W.Fast.tw6502673079944812145 : Unit := ()
def PySem.W.Fast.tw7167515187915965041 : Unit := ()
def PySem.W.Fast.tw3971020742529169169 : Unit := ()
def PySem.W.Fast.tw13496973368148452145 : Unit := ()
def PySem.W.Fast.tw10791978078409443153 : Unit := ()
def PySem.W.Fast.tw3877603528842966897 : Unit := ()
def PySem.W.Fast.tw16910816670376262545 : Unit := ()
def PySem.W.Fast.tw6551732534933039025 : Unit := ()
def PySem.W.Fast.tw11100646096538526802 : Unit := ()
def PySem.W.Fast.tw12583393596432340082 : Unit := ()
def PySem.W.Fast.tw17906440704997965938 : Unit := ()
def PySem.W.Fast.tw2715800575432164530 : Unit := ()
def PySem.W.Fast.tw14424601245102791954 : Unit := ()
def PySem.W.Fast.tw7197686674870227346 : Unit := ()
def PySem.W.Fast.tw3525145192551483890 : Unit := ()
def PySem.W.Fast.tw8808153558389988882 : Unit := ()
def PySem.W.Fast.tw17718812050791158322 : Unit := ()
def PySem.W.Fast.tw11477930019702486674 : Unit := ()
def PySem.W.Fast.tw15289563424598080146 : Unit := ()
def PySem.W.Fast.tw10777629966237094578 : Unit := ()
def PySem.W.Fast.tw17053066860300193458 : Unit := ()
def PySem.W.Fast.tw13317804851800990514 : Unit := ()
def PySem.W.Fast.tw8394914317449568178 : Unit := ()
def PySem.W.Fast.tw7276558600170217394 : Unit := ()
def PySem.W.Fast.tw988572536568122322 : Unit := ()
def PySem.W.Fast.tw13587180438734101490 : Unit := ()
def PySem.W.Fast.tw439789906814604307 : Unit := ()
def PySem.W.Fast.tw18280255708703385619 : Unit := ()
def PySem.W.Fast.tw2533724662660662579 : Unit := ()
def PySem.W.Fast.tw1193905242959679795 : Unit := ()
def PySem.W.Fast.tw12058717076534612275 : Unit := ()
def PySem.W.Fast.tw216810755551152499 : Unit := ()
def PySem.W.Fast.tw4625774306269987219 : Unit := ()
def PySem.W.Fast.tw3591286764358935955 : Unit := ()
def PySem.W.Fast.tw16797296886855156115 : Unit := ()
def PySem.W.Fast.tw17913011068424209811 : Unit := ()
def PySem.W.Fast.tw12482144855285827027 : Unit := ()
def PySem.W.Fast.tw8772690136598394323 : Unit := ()
def PySem.W.Fast.tw17289462212691321427 : Unit := ()
def PySem.W.Fast.tw14359384160858382995 : Unit := ()
def PySem.W.Fast.tw8675970058427516563 : Unit := ()
def PySem.W.Fast.tw15167316900184989363 : Unit := ()
def PySem.W.Fast.tw17026178741863075635 : Unit := ()
def PySem.W.Fast.tw6772119625511012243 : Unit := ()
def PySem.W.Fast.tw17178642502750481428 : Unit := ()
def PySem.W.Fast.tw15617049679861533780 : Unit := ()
def PySem.W.Fast.tw2311975459623981172 : Unit := ()
def PySem.W.Fast.tw2816687479212439764 : Unit := ()
def PySem.W.Fast.tw13719477080493635924 : Unit := ()
def PySem.W.Fast.tw4802158581577757108 : Unit := ()
def PySem.W.Fast.tw12474528168181692852 : Unit := ()
def PySem.W.Fast.tw1832555680844361172 : Unit := ()
def PySem.W.Fast.tw7240152383007640020 : Unit := ()
def PySem.W.Fast.tw16365717696932185588 : Unit := ()
def PySem.W.Fast.tw8763559832194010644 : Unit := ()
def PySem.W.Fast.tw9182771662911242772 : Unit := ()
def PySem.W.Fast.tw13084398561525819956 : Unit := ()
def PySem.W.Fast.tw6262010271642846804 : Unit := ()
def PySem.W.Fast.tw5708834809528847988 : Unit := ()
def PySem.W.Fast.tw7657874430396085012 : Unit := ()
def PySem.W.Fast.tw12945339948257573684 : Unit := ()
def PySem.W.Fast.tw13989502239679362868 : Unit := ()
def PySem.W.Fast.tw4872754026152128468 : Unit := ()
def PySem.W.Fast.tw6932074364069175284 : Unit := ()
def PySem.W.Fast.tw15146921497837654004 : Unit := ()
def PySem.W.Fast.tw3067915120829381685 : Unit := ()
def PySem.W.Fast.tw15426587288076640341 : Unit := ()
def PySem.W.Fast.tw6298759102259750997 : Unit := ()
def PySem.W.Fast.tw7655257771532632181 : Unit := ()
def PySem.W.Fast.tw14722300918395518101 : Unit := ()
def PySem.W.Fast.tw10326970597283873045 : Unit := ()
def PySem.W.Fast.tw5740082858109122869 : Unit := ()
def PySem.W.Fast.tw16412545363316571445 : Unit := ()
def PySem.W.Fast.tw16483329065211436437 : Unit := ()
def PySem.W.Fast.tw262433714453830101 : Unit := ()
def PySem.W.Fast.tw6109848933746261493 : Unit := ()
def PySem.W.Fast.tw14108896863624100341 : Unit := ()
def PySem.W.Fast.tw3018362939811643957 : Unit := ()
def PySem.W.Fast.tw17920358013436564149 : Unit := ()
def PySem.W.Fast.tw13637749844243256021 : Unit := ()
def PySem.W.Fast.tw14908391047331865301 : Unit := ()
def PySem.W.Fast.tw12191696404596473589 : Unit := ()
def PySem.W.Fast.tw17177887466515951413 : Unit := ()
def PySem.W.Fast.tw7853150896081587061 : Unit := ()
def PySem.W.Fast.tw4323179979891807157 : Unit := ()
def PySem.W.Fast.tw3088672273028334549 : Unit := ()
def PySem.W.Fast.tw13022872677657022678 : Unit := ()
def PySem.W.Fast.tw16201737569971895574 : Unit := ()
def PySem.W.Fast.tw9522396288809837878 : Unit := ()
def PySem.W.Fast.tw420695472207941046 : Unit := ()
def PySem.W.Fast.tw4485890669509685750 : Unit := ()
def PySem.W.Fast.tw3286249114764169846 : Unit := ()
def PySem.W.Fast.tw1955504283481825046 : Unit := ()
def PySem.W.Fast.tw15136058553297227574 : Unit := ()
def PySem.W.Fast.tw2562603645780687734 : Unit := ()
def PySem.W.Fast.tw10654110175633117271 : Unit := ()
def PySem.W.Fast.tw16759431484117845111 : Unit := ()
def PySem.W.Fast.tw13384932218226794647 : Unit := ()
def PySem.W.Fast.tw2125159439052632247 : Unit := ()
def PySem.W.Fast.tw6345320431265231063 : Unit := ()
def PySem.W.Fast.tw10089572423328124151 : Unit := ()
def PySem.W.Fast.tw7948536243365496247 : Unit := ()
def PySem.W.Fast.tw2975919816036256183 : Unit := ()
def PySem.W.Fast.tw9676270639472448951 : Unit := ()
def PySem.W.Fast.tw3816143806975984087 : Unit := ()
def PySem.W.Fast.tw15559991912192255575 : Unit := ()
def PySem.W.Fast.tw9046202442274462423 : Unit := ()
def PySem.W.Fast.tw10042055527680240343 : Unit := ()
def PySem.W.Fast.tw3194187662045564663 : Unit := ()
def PySem.W.Fast.tw13931821627413075799 : Unit := ()
def PySem.W.Fast.tw3561822799024512919 : Unit := ()
def PySem.W.Fast.tw9059131613009680311 : Unit := ()
def PySem.W.Fast.tw1435227257547627479 : Unit := ()
def PySem.W.Fast.tw14980073506608278616 : Unit := ()
def PySem.W.Fast.tw11265355027114520664 : Unit := ()
def PySem.W.Fast.tw11873013311501849752 : Unit := ()
def PySem.W.Fast.tw12616630998536488312 : Unit := ()
def PySem.W.Fast.tw17869741119940253144 : Unit := ()
def PySem.W.Fast.tw14439885794900932088 : Unit := ()
def PySem.W.Fast.tw3095379792771579416 : Unit := ()
def PySem.W.Fast.tw1055035149124575800 : Unit := ()
def PySem.W.Fast.tw14714349730850576984 : Unit := ()
def PySem.W.Fast.tw11893999626514358872 : Unit := ()
def PySem.W.Fast.tw14665605728656365240 : Unit := ()
def PySem.W.Fast.tw9031103368271096504 : Unit := ()
def PySem.W.Fast.tw5040006509905055448 : Unit := ()
def PySem.W.Fast.tw2356588637778540376 : Unit := ()
def PySem.W.Fast.tw6629972235462789048 : Unit := ()
def PySem.W.Fast.tw7197676613965185049 : Unit := ()
def PySem.W.Fast.tw11427262423070784633 : Unit := ()
def PySem.W.Fast.tw2376360645249851577 : Unit := ()
def PySem.W.Fast.tw14849548558119130329 : Unit := ()
def PySem.W.Fast.tw4445540424500790553 : Unit := ()
def PySem.W.Fast.tw7962758469303632345 : Unit := ()
def PySem.W.Fast.tw8108018073413731833 : Unit := ()
def PySem.W.Fast.tw16310118295777384985 : Unit := ()
def PySem.W.Fast.tw7297652464728726233 : Unit := ()
def PySem.W.Fast.tw15592398805561236249 : Unit := ()
def PySem.W.Fast.tw17533869468966240121 : Unit := ()
def PySem.W.Fast.tw17332904683656083321 : Unit := ()
def PySem.W.Fast.tw4303950773531478969 : Unit := ()
def PySem.W.Fast.tw12620941645676747737 : Unit := ()
def PySem.W.Fast.tw13442021859774416986 : Unit := ()
def PySem.W.Fast.tw12041350721628101850 : Unit := ()
def PySem.W.Fast.tw7780114811106646266 : Unit := ()
def PySem.W.Fast.tw5353092511042438458 : Unit := ()
def PySem.W.Fast.tw8774494765610833306 : Unit := ()
def PySem.W.Fast.tw1849115728863488410 : Unit := ()
def PySem.W.Fast.tw6755764334821036474 : Unit := ()
def PySem.W.Fast.tw16359307495213869594 : Unit := ()
def PySem.W.Fast.tw5138268942221529690 : Unit := ()
def PySem.W.Fast.tw8195364300686114426 : Unit := ()
def PySem.W.Fast.tw15998746250845280954 : Unit := ()
def PySem.W.Fast.tw1588826956241958618 : Unit := ()
def PySem.W.Fast.tw9075063710331987674 : Unit := ()
def PySem.W.Fast.tw17900438057712054010 : Unit := ()
def PySem.W.Fast.tw16251688705814050714 : Unit := ()
def PySem.W.Fast.tw336281104994567098 : Unit := ()
def PySem.W.Fast.tw2342962671873455195 : Unit := ()
def PySem.W.Fast.tw10409662839235594491 : Unit := ()
def PySem.W.Fast.tw7288105167912200667 : Unit := ()
def PySem.W.Fast.tw3390060370139196891 : Unit := ()
def PySem.W.Fast.tw12041380911272044027 : Unit := ()
def PySem.W.Fast.tw7505098881079835163 : Unit := ()
def PySem.W.Fast.tw12935228908792950459 : Unit := ()
def PySem.W.Fast.tw11762009224928472795 : Unit := ()
def PySem.W.Fast.tw5847287832903275259 : Unit := ()
def PySem.W.Fast.tw17372945818627790587 : Unit := ()
def PySem.W.Fast.tw13207293219003558747 : Unit := ()
def PySem.W.Fast.tw6409163129585885115 : Unit := ()
def PySem.W.Fast.tw238271691491438523 : Unit := ()
def PySem.W.Fast.tw7224694314090705980 : Unit := ()
def PySem.W.Fast.tw5072034460651508828 : Unit := ()
def PySem.W.Fast.tw873852323706521724 : Unit := ()
def PySem.W.Fast.tw1554827388119204028 : Unit := ()
def PySem.W.Fast.tw17759272572569157852 : Unit := ()
def PySem.W.Fast.tw11431556981062003068 : Unit := ()
def PySem.W.Fast.tw14419097685716557244 : Unit := ()
def PySem.W.Fast.tw3329131680146154972 : Unit := ()
def PySem.W.Fast.tw7925090727222556220 : Unit := ()
def PySem.W.Fast.tw13908677752996428348 : Unit := ()
def PySem.W.Fast.tw5483483488620030556 : Unit := ()
def PySem.W.Fast.tw4572887128669448860 : Unit := ()
def PySem.W.Fast.tw6842520160893558428 : Unit := ()
def PySem.W.Fast.tw309688934900203164 : Unit := ()
def PySem.W.Fast.tw9800513188915225308 : Unit := ()
def PySem.W.Fast.tw967722634631395036 : Unit := ()
def PySem.W.Fast.tw2872700482921632540 : Unit := ()
def PySem.W.Fast.tw16781612491349605212 : Unit := ()
def PySem.W.Fast.tw2125767638584049500 : Unit := ()
def PySem.W.Fast.tw10870536122704217948 : Unit := ()
def PySem.W.Fast.tw9082083774842490748 : Unit := ()
def PySem.W.Fast.tw16045924615671142268 : Unit := ()
def PySem.W.Fast.tw9775443205544895356 : Unit := ()
def PySem.W.Fast.tw13625788368509452349 : Unit := ()
def PySem.W.Fast.tw6392191052279606333 : Unit := ()
def PySem.W.Fast.tw17029437221427016765 : Unit := ()
def PySem.W.Fast.tw17137753188910934173 : Unit := ()
def PySem.W.Fast.tw2932148850040401117 : Unit := ()
def PySem.W.Fast.tw3742408423837099293 : Unit := ()
def PySem.W.Fast.tw10512779249549473085 : Unit := ()
def PySem.W.Fast.tw7446947146509312381 : Unit := ()
def PySem.W.Fast.tw9141819251004365341 : Unit := ()
def PySem.W.Fast.tw18276081388092229181 : Unit := ()
def PySem.W.Fast.tw14713041024552020541 : Unit := ()
def PySem.W.Fast.tw12411778681677433405 : Unit := ()
def PySem.W.Fast.tw17942040087232222813 : Unit := ()
def PySem.W.Fast.tw17849905744381864605 : Unit := ()
def PySem.W.Fast.tw6134725847568048925 : Unit := ()
def PySem.W.Fast.tw16166809287906021181 : Unit := ()
def PySem.W.Fast.tw1899792347278778173 : Unit := ()
def PySem.W.Fast.tw497076889804388221 : Unit := ()
def PySem.W.Fast.tw14670512631313302397 : Unit := ()
def PySem.W.Fast.tw16559282174647291837 : Unit := ()
def PySem.W.Fast.tw15171822831519522878 : Unit := ()
def PySem.W.Fast.tw2083320536499960990 : Unit := ()
def PySem.W.Fast.tw16848860211349391582 : Unit := ()
def PySem.W.Fast.tw7954775724393213150 : Unit := ()
def PySem.W.Fast.tw6499942053723306206 : Unit := ()
def PySem.W.Fast.tw6355827054317181182 : Unit := ()
def PySem.W.Fast.tw14161788201066876254 : Unit := ()
def PySem.W.Fast.tw3849517618595109470 : Unit := ()
def PySem.W.Fast.tw15012761246822067966 : Unit := ()
def PySem.W.Fast.tw467976813672647486 : Unit := ()
def PySem.W.Fast.tw16050753596780284766 : Unit := ()
def PySem.W.Fast.tw12387750657457950590 : Unit := ()
def PySem.W.Fast.tw7336698269101926302 : Unit := ()
def PySem.W.Fast.tw9113835298745059294 : Unit := ()
def PySem.W.Fast.tw2270827163649260575 : Unit := ()
def PySem.W.Fast.tw987832952341187743 : Unit := ()
def PySem.W.Fast.tw2029677578185674175 : Unit := ()
def PySem.W.Fast.tw5222215748856195583 : Unit := ()
def PySem.W.Fast.tw4200836848168617471 : Unit := ()
def PySem.W.Fast.tw10472242018984695327 : Unit := ()
def PySem.W.Fast.tw13762930778085353023 : Unit := ()
def PySem.W.Fast.tw14644291640796565087 : Unit := ()
def PySem.W.Fast.tw9054312531402312415 : Unit := ()
def PySem.W.Fast.tw946056883260335903 : Unit := ()
def PySem.W.Fast.tw13517970930282980223 : Unit := ()
def PySem.W.Fast.tw16607009302610626527 : Unit := ()
def PySem.W.Fast.tw5509663101959801711 : Unit := ()
def PySem.W.Fast.tw9521862861319576017 : Unit := ()
def PySem.W.Fast.tw2950963586102176631 : Unit := ()
open PySem PySem.W PyProof.Rows
theorem My.pre_of (args : List WData) (h : PySem.Challenge.rw_latepackets_s01_answers.pre args = true) : ∃ ns : List Int, args = [.list (ns.map .int)] ∧ ns.length ≤ 30000 ∧ My.Asked ns := by
  obtain ⟨a, e, hask⟩ := os_pre_some h
  obtain ⟨ns, e1, e2, hl, hb⟩ := My.ints_of (least := 0) (most := 30000) (lo := 0) (hi := 4294967295) e
  subst e1 e2
  exact ⟨ns, rfl, hl, hask, fun y hy => (hb y hy).2⟩
theorem My.post_of (ns : List Int) (h : PySem.Challenge.rw_latepackets_s01_answers.pre [.list (ns.map .int)] = true) : PySem.Challenge.rw_latepackets_s01_answers.post [.list (ns.map .int)] (.list ((PyQl48.answers ns).map .int)) = true := by
  obtain ⟨a, e, hask⟩ := os_pre_some h
  obtain ⟨ns', e1, e2, hl, hb⟩ := My.ints_of (least := 0) (most := 30000) (lo := 0) (hi := 4294967295) e
  have e3 : ns = ns' := by
    have h1 := WData.list.inj (List.cons.inj e1).1
    have h2 : ∀ (a b : List Int), a.map WData.int = b.map WData.int → a = b := by
      intro a
      induction a with
      | nil =>
        intro b hb
        cases b with
        | nil => rfl
        | cons _ _ => cases hb
      | cons x r ih =>
        intro b hb
        cases b with
        | nil => cases hb
        | cons y q =>
          obtain ⟨g1, g2⟩ := List.cons.inj hb
          rw [WData.int.inj g1, ih q g2]
    exact h2 _ _ h1
  subst e3 e2
  exact os_post e (same_self _)
set_option maxRecDepth 100000 in
set_option maxHeartbeats 0 in
theorem PySem.Challenge.cw_latepackets_s01_answers_holds : PySem.Challenge.rw_latepackets_s01_answers.Holds := by
  w_on; k_headS; (case hw => exact ⟨[.list [.int 0, .int 0, .int 1]], by decide +kernel, by decide +kernel⟩)
  k_fillS
  refine LpHead.walk_ofS (r := PySem.Challenge.rw_latepackets_s01_answers) (n := 30000) (k := 9) (x := "calls") (sp := My.sp_answers) (Asked := My.Asked) (res := PyQl48.answers) My.pre_of My.post_of (by decide) rfl ⟨rfl, by decide, by decide⟩ (fun w h Y => PySem.W.kIn_of Y) ?F ?S
  case S =>
    intro K H a ns hl hask hO hS
    exact ⟨a, ns, rfl, hS, hl, hask.2, hask.1, fun r H' h => ⟨r, rfl, h⟩⟩
  case F =>
    intro w mg fa h KX G hmg
    refine' My.fin hmg (My.txt_mk KX G ?aC_Counting ?aC_Hearing ?aC_Packet ?aC_Part ?aC_Waiting ?aC_Receiver ?aC_Desk ?a0 ?l0 ?d0 ?k0 ?a1 ?l1 ?d1 ?k1 ?a2 ?l2 ?d2 ?k2 ?a3 ?l3 ?d3 ?k3 ?a4 ?l4 ?d4 ?k4 ?a5 ?i5 ?l5 ?d5 ?k5 ?a6 ?i6 ?l6 ?d6 ?k6 ?a7 ?i7 ?l7 ?d7 ?k7 ?a8 ?i8 ?l8 ?d8 ?k8 ?a9 ?i9 ?l9 ?d9 ?k9 ?a10 ?i10 ?l10 ?d10 ?k10 ?a11 ?i11 ?l11 ?d11 ?k11 ?a12 ?i12 ?l12 ?d12 ?k12 ?a13 ?l13 ?d13 ?k13 ?a14 ?l14 ?d14 ?k14 ?a15 ?l15 ?d15 ?k15 ?a16 ?l16 ?d16 ?k16 ?a17 ?l17 ?d17 ?k17 ?a18 ?l18 ?d18 ?k18 ?a19 ?i19 ?l19 ?d19 ?k19 ?a20 ?i20 ?l20 ?d20 ?k20 ?a21 ?i21 ?l21 ?d21 ?k21 ?a22 ?i22 ?l22 ?d22 ?k22 ?a23 ?l23 ?d23 ?k23 ?a24 ?l24 ?d24 ?k24 ?a25 ?i25 ?l25 ?d25 ?k25 ?a26 ?i26 ?l26 ?d26 ?k26 ?a27 ?i27 ?l27 ?d27 ?k27 ?a28 ?i28 ?l28 ?d28 ?k28 ?a29 ?i29 ?l29 ?d29 ?k29 ?a30 ?i30 ?l30 ?d30 ?k30 ?a31 ?i31 ?l31 ?d31 ?k31 ?a32 ?l32 ?d32 ?k32 ?a33 ?l33 ?d33 ?k33 ?a34 ?l34 ?d34 ?k34 ?a35 ?l35 ?d35 ?k35 ?a36 ?l36 ?d36 ?k36 ?a37 ?l37 ?d37 ?k37 ?a38 ?l38 ?d38 ?k38 ?a39 ?l39 ?d39 ?k39 ?a40 ?l40 ?d40 ?k40 ?a41 ?i41 ?l41 ?d41 ?k41 ?a42 ?i42 ?l42 ?d42 ?k42 ?a43 ?i43 ?l43 ?d43 ?k43 ?a44 ?i44 ?l44 ?d44 ?k44 ?a45 ?i45 ?l45 ?d45 ?k45 ?a46 ?i46 ?l46 ?d46 ?k46 ?a47 ?i47 ?l47 ?d47 ?k47 ?a48 ?i48 ?l48 ?d48 ?k48 ?a49 ?i49 ?l49 ?d49 ?k49 ?a50 ?i50 ?l50 ?d50 ?k50 ?a51 ?i51 ?l51 ?d51 ?k51 ?a52 ?i52 ?l52 ?d52 ?k52 ?a53 ?i53 ?l53 ?d53 ?k53 ?a54 ?i54 ?l54 ?d54 ?k54 ?a55 ?i55 ?l55 ?d55 ?k55 ?a56 ?i56 ?l56 ?d56 ?k56 ?a57 ?i57 ?l57 ?d57 ?k57 ?a58 ?l58 ?d58 ?k58 ?a59 ?i59 ?l59 ?d59 ?k59 ?a60 ?i60 ?l60 ?d60 ?k60 ?a61 ?i61 ?l61 ?d61 ?k61 ?a62 ?i62 ?l62 ?d62 ?k62 ?a63 ?i63 ?l63 ?d63 ?k63 ?a64 ?i64 ?l64 ?d64 ?k64 ?a65 ?i65 ?l65 ?d65 ?k65 ?a66 ?i66 ?l66 ?d66 ?k66 ?a67 ?l67 ?d67 ?k67 ?pg_Counting ?hd_Counting ?po_Counting ?sa_Counting ?mk_Counting ?kc_Counting ?na_Counting_first ?na_Counting_greatest ?na_Counting_came ?na_Counting_jitter ?na_Counting_way ?na_Counting_told_expected ?na_Counting_told_came ?pg_Hearing ?hd_Hearing ?po_Hearing ?sa_Hearing ?mk_Hearing ?kc_Hearing ?na_Hearing_middle ?na_Hearing_heard_at ?na_Hearing_goodbye ?pg_Packet ?hd_Packet ?po_Packet ?sa_Packet ?mk_Packet ?kc_Packet ?na_Packet_mark ?na_Packet_kind ?na_Packet_number ?na_Packet_stamp ?na_Packet_source ?na_Packet_carried ?pg_Part ?hd_Part ?po_Part ?sa_Part ?mk_Part ?kc_Part ?na_Part_octets ?na_Part_kind ?na_Part_entries ?pg_Waiting ?hd_Waiting ?po_Waiting ?sa_Waiting ?mk_Waiting ?kc_Waiting ?na_Waiting_due ?na_Waiting_kept ?pg_Receiver ?hd_Receiver ?po_Receiver ?sa_Receiver ?mk_Receiver ?kc_Receiver ?na_Receiver_own ?na_Receiver_depth ?na_Receiver_source ?na_Receiver_awaited ?na_Receiver_counting ?na_Receiver_waiting ?na_Receiver_hearing ?pg_Desk ?hd_Desk ?po_Desk ?sa_Desk ?mk_Desk ?kc_Desk ?na_Desk_calls ?na_Desk_place ?na_Desk_receiver ?gd_LEAST_LENGTHS ?ld_LEAST_LENGTHS ?eh_LEAST_LENGTHS_0 ?lt_LEAST_LENGTHS_0 ?eh_LEAST_LENGTHS_1 ?lt_LEAST_LENGTHS_1 ?eh_LEAST_LENGTHS_2 ?lt_LEAST_LENGTHS_2 ?eh_LEAST_LENGTHS_3 ?lt_LEAST_LENGTHS_3 ?eh_LEAST_LENGTHS_4 ?lt_LEAST_LENGTHS_4 ?sm_LEAST_LENGTHS ?g_MOST_BYTES ?g_VERSION ?g_PADDING ?g_FOUR_BYTES ?g_NUMBERS ?g_FAR_AHEAD ?g_FAR_BEHIND ?g_MOST_SHARE ?g_LEAST_MISSING ?g_MOST_MISSING ?g_HEAD_LENGTH ?g_EXTENSION ?g_OTHER_SOURCES ?g_MARK ?g_SENDER_REPORT ?g_RECEIVER_REPORT ?g_GOODBYE ?g_LEAST_LENGTH ?g_ENTRIES ?g_MOST_WAITING ?g_MOST_CARRIED ?g_KEPT ?g_COUNTED ?g_NOT_BELIEVED ?g_NO_PACKET ?g_OTHER_SOURCE ?g_NOT_THERE_YET ?g_LOST ?g_MOST_TOO_SMALL ?g_PARTS_NOT_RIGHT ?g_NONE_HEARD_OF ?g_THREE_BYTES ?g_RP_BEGIN ?g_RP_RECEIVE ?g_RP_TAKE ?g_RP_REPORT ?g_RP_HEARD ?g_RP_TOLD ?g_LEAST_DEPTH ?g_MOST_DEPTH ?g_BEGUN ?g_DEPTH_REFUSED ?n_any ?n_len ?n_max ?n_min ?n_range)
    (case aC_Counting => k_is)
    (case aC_Hearing => k_is)
    (case aC_Packet => k_is)
    (case aC_Part => k_is)
    (case aC_Waiting => k_is)
    (case aC_Receiver => k_is)
    (case aC_Desk => k_is)
    (case a0 => k_is)
    (case l0 => k_is)
    (case d0 => k_is)
    (case k0 => k_is)
    (case a1 => k_is)
    (case l1 => k_is)
    (case d1 => k_is)
    (case k1 => k_is)
    (case a2 => k_is)
    (case l2 => k_is)
    (case d2 => k_is)
    (case k2 => k_is)
    (case a3 => k_is)
    (case l3 => k_is)
    (case d3 => k_is)
    (case k3 => k_is)
    (case a4 => k_is)
    (case l4 => k_is)
    (case d4 => k_is)
    (case k4 => k_is)
    (case a5 => k_is)
    (case i5 => k_is)
    (case l5 => k_is)
    (case d5 => k_is)
    (case k5 => k_is)
    (case a6 => k_is)
    (case i6 => k_is)
    (case l6 => k_is)
    (case d6 => k_is)
    (case k6 => k_is)
    (case a7 => k_is)
    (case i7 => k_is)
    (case l7 => k_is)
    (case d7 => k_is)
    (case k7 => k_is)
    (case a8 => k_is)
    (case i8 => k_is)
    (case l8 => k_is)
    (case d8 => k_is)
    (case k8 => k_is)
    (case a9 => k_is)
    (case i9 => k_is)
    (case l9 => k_is)
    (case d9 => k_is)
    (case k9 => k_is)
    (case a10 => k_is)
    (case i10 => k_is)
    (case l10 => k_is)
    (case d10 => k_is)
    (case k10 => k_is)
    (case a11 => k_is)
    (case i11 => k_is)
    (case l11 => k_is)
    (case d11 => k_is)
    (case k11 => k_is)
    (case a12 => k_is)
    (case i12 => k_is)
    (case l12 => k_is)
    (case d12 => k_is)
    (case k12 => k_is)
    (case a13 => k_is)
    (case l13 => k_is)
    (case d13 => k_is)
    (case k13 => k_is)
    (case a14 => k_is)
    (case l14 => k_is)
    (case d14 => k_is)
    (case k14 => k_is)
    (case a15 => k_is)
    (case l15 => k_is)
    (case d15 => k_is)
    (case k15 => k_is)
    (case a16 => k_is)
    (case l16 => k_is)
    (case d16 => k_is)
    (case k16 => k_is)
    (case a17 => k_is)
    (case l17 => k_is)
    (case d17 => k_is)
    (case k17 => k_is)
    (case a18 => k_is)
    (case l18 => k_is)
    (case d18 => k_is)
    (case k18 => k_is)
    (case a19 => k_is)
    (case i19 => k_is)
    (case l19 => k_is)
    (case d19 => k_is)
    (case k19 => k_is)
    (case a20 => k_is)
    (case i20 => k_is)
    (case l20 => k_is)
    (case d20 => k_is)
    (case k20 => k_is)
    (case a21 => k_is)
    (case i21 => k_is)
    (case l21 => k_is)
    (case d21 => k_is)
    (case k21 => k_is)
    (case a22 => k_is)
    (case i22 => k_is)
    (case l22 => k_is)
    (case d22 => k_is)
    (case k22 => k_is)
    (case a23 => k_is)
    (case l23 => k_is)
    (case d23 => k_is)
    (case k23 => k_is)
    (case a24 => k_is)
    (case l24 => k_is)
    (case d24 => k_is)
    (case k24 => k_is)
    (case a25 => k_is)
    (case i25 => k_is)
    (case l25 => k_is)
    (case d25 => k_is)
    (case k25 => k_is)
    (case a26 => k_is)
    (case i26 => k_is)
    (case l26 => k_is)
    (case d26 => k_is)
    (case k26 => k_is)
    (case a27 => k_is)
    (case i27 => k_is)
    (case l27 => k_is)
    (case d27 => k_is)
    (case k27 => k_is)
    (case a28 => k_is)
    (case i28 => k_is)
    (case l28 => k_is)
    (case d28 => k_is)
    (case k28 => k_is)
    (case a29 => k_is)
    (case i29 => k_is)
    (case l29 => k_is)
    (case d29 => k_is)
    (case k29 => k_is)
    (case a30 => k_is)
    (case i30 => k_is)
    (case l30 => k_is)
    (case d30 => k_is)
    (case k30 => k_is)
    (case a31 => k_is)
    (case i31 => k_is)
    (case l31 => k_is)
    (case d31 => k_is)
    (case k31 => k_is)
    (case a32 => k_is)
    (case l32 => k_is)
    (case d32 => k_is)
    (case k32 => k_is)
    (case a33 => k_is)
    (case l33 => k_is)
    (case d33 => k_is)
    (case k33 => k_is)
    (case a34 => k_is)
    (case l34 => k_is)
    (case d34 => k_is)
    (case k34 => k_is)
    (case a35 => k_is)
    (case l35 => k_is)
    (case d35 => k_is)
    (case k35 => k_is)
    (case a36 => k_is)
    (case l36 => k_is)
    (case d36 => k_is)
    (case k36 => k_is)
    (case a37 => k_is)
    (case l37 => k_is)
    (case d37 => k_is)
    (case k37 => k_is)
    (case a38 => k_is)
    (case l38 => k_is)
    (case d38 => k_is)
    (case k38 => k_is)
    (case a39 => k_is)
    (case l39 => k_is)
    (case d39 => k_is)
    (case k39 => k_is)
    (case a40 => k_is)
    (case l40 => k_is)
    (case d40 => k_is)
    (case k40 => k_is)
    (case a41 => k_is)
    (case i41 => k_is)
    (case l41 => k_is)
    (case d41 => k_is)
    (case k41 => k_is)
    (case a42 => k_is)
    (case i42 => k_is)
    (case l42 => k_is)
    (case d42 => k_is)
    (case k42 => k_is)
    (case a43 => k_is)
    (case i43 => k_is)
    (case l43 => k_is)
    (case d43 => k_is)
    (case k43 => k_is)
    (case a44 => k_is)
    (case i44 => k_is)
    (case l44 => k_is)
    (case d44 => k_is)
    (case k44 => k_is)
    (case a45 => k_is)
    (case i45 => k_is)
    (case l45 => k_is)
    (case d45 => k_is)
    (case k45 => k_is)
    (case a46 => k_is)
    (case i46 => k_is)
    (case l46 => k_is)
    (case d46 => k_is)
    (case k46 => k_is)
    (case a47 => k_is)
    (case i47 => k_is)
    (case l47 => k_is)
    (case d47 => k_is)
    (case k47 => k_is)
    (case a48 => k_is)
    (case i48 => k_is)
    (case l48 => k_is)
    (case d48 => k_is)
    (case k48 => k_is)
    (case a49 => k_is)
    (case i49 => k_is)
    (case l49 => k_is)
    (case d49 => k_is)
    (case k49 => k_is)
    (case a50 => k_is)
    (case i50 => k_is)
    (case l50 => k_is)
    (case d50 => k_is)
    (case k50 => k_is)
    (case a51 => k_is)
    (case i51 => k_is)
    (case l51 => k_is)
    (case d51 => k_is)
    (case k51 => k_is)
    (case a52 => k_is)
    (case i52 => k_is)
    (case l52 => k_is)
    (case d52 => k_is)
    (case k52 => k_is)
    (case a53 => k_is)
    (case i53 => k_is)
    (case l53 => k_is)
    (case d53 => k_is)
    (case k53 => k_is)
    (case a54 => k_is)
    (case i54 => k_is)
    (case l54 => k_is)
    (case d54 => k_is)
    (case k54 => k_is)
    (case a55 => k_is)
    (case i55 => k_is)
    (case l55 => k_is)
    (case d55 => k_is)
    (case k55 => k_is)
    (case a56 => k_is)
    (case i56 => k_is)
    (case l56 => k_is)
    (case d56 => k_is)
    (case k56 => k_is)
    (case a57 => k_is)
    (case i57 => k_is)
    (case l57 => k_is)
    (case d57 => k_is)
    (case k57 => k_is)
    (case a58 => k_is)
    (case l58 => k_is)
    (case d58 => k_is)
    (case k58 => k_is)
    (case a59 => k_is)
    (case i59 => k_is)
    (case l59 => k_is)
    (case d59 => k_is)
    (case k59 => k_is)
    (case a60 => k_is)
    (case i60 => k_is)
    (case l60 => k_is)
    (case d60 => k_is)
    (case k60 => k_is)
    (case a61 => k_is)
    (case i61 => k_is)
    (case l61 => k_is)
    (case d61 => k_is)
    (case k61 => k_is)
    (case a62 => k_is)
    (case i62 => k_is)
    (case l62 => k_is)
    (case d62 => k_is)
    (case k62 => k_is)
    (case a63 => k_is)
    (case i63 => k_is)
    (case l63 => k_is)
    (case d63 => k_is)
    (case k63 => k_is)
    (case a64 => k_is)
    (case i64 => k_is)
    (case l64 => k_is)
    (case d64 => k_is)
    (case k64 => k_is)
    (case a65 => k_is)
    (case i65 => k_is)
    (case l65 => k_is)
    (case d65 => k_is)
    (case k65 => k_is)
    (case a66 => k_is)
    (case i66 => k_is)
    (case l66 => k_is)
    (case d66 => k_is)
    (case k66 => k_is)
    (case a67 => k_is)
    (case l67 => k_is)
    (case d67 => k_is)
    (case k67 => k_is)
    (case pg_Counting => k_is)
    (case hd_Counting => k_is)
    (case po_Counting => k_is)
    (case sa_Counting => k_is)
    (case mk_Counting => k_is)
    (case kc_Counting => k_is)
    (case na_Counting_first => k_is)
    (case na_Counting_greatest => k_is)
    (case na_Counting_came => k_is)
    (case na_Counting_jitter => k_is)
    (case na_Counting_way => k_is)
    (case na_Counting_told_expected => k_is)
    (case na_Counting_told_came => k_is)
    (case pg_Hearing => k_is)
    (case hd_Hearing => k_is)
    (case po_Hearing => k_is)
    (case sa_Hearing => k_is)
    (case mk_Hearing => k_is)
    (case kc_Hearing => k_is)
    (case na_Hearing_middle => k_is)
    (case na_Hearing_heard_at => k_is)
    (case na_Hearing_goodbye => k_is)
    (case pg_Packet => k_is)
    (case hd_Packet => k_is)
    (case po_Packet => k_is)
    (case sa_Packet => k_is)
    (case mk_Packet => k_is)
    (case kc_Packet => k_is)
    (case na_Packet_mark => k_is)
    (case na_Packet_kind => k_is)
    (case na_Packet_number => k_is)
    (case na_Packet_stamp => k_is)
    (case na_Packet_source => k_is)
    (case na_Packet_carried => k_is)
    (case pg_Part => k_is)
    (case hd_Part => k_is)
    (case po_Part => k_is)
    (case sa_Part => k_is)
    (case mk_Part => k_is)
    (case kc_Part => k_is)
    (case na_Part_octets => k_is)
    (case na_Part_kind => k_is)
    (case na_Part_entries => k_is)
    (case pg_Waiting => k_is)
    (case hd_Waiting => k_is)
    (case po_Waiting => k_is)
    (case sa_Waiting => k_is)
    (case mk_Waiting => k_is)
    (case kc_Waiting => k_is)
    (case na_Waiting_due => k_is)
    (case na_Waiting_kept => k_is)
    (case pg_Receiver => k_is)
    (case hd_Receiver => k_is)
    (case po_Receiver => k_is)
    (case sa_Receiver => k_is)
    (case mk_Receiver => k_is)
    (case kc_Receiver => k_is)
    (case na_Receiver_own => k_is)
    (case na_Receiver_depth => k_is)
    (case na_Receiver_source => k_is)
    (case na_Receiver_awaited => k_is)
    (case na_Receiver_counting => k_is)
    (case na_Receiver_waiting => k_is)
    (case na_Receiver_hearing => k_is)
    (case pg_Desk => k_is)
    (case hd_Desk => k_is)
    (case po_Desk => k_is)
    (case sa_Desk => k_is)
    (case mk_Desk => k_is)
    (case kc_Desk => k_is)
    (case na_Desk_calls => k_is)
    (case na_Desk_place => k_is)
    (case na_Desk_receiver => k_is)
    (case gd_LEAST_LENGTHS => k_is)
    (case ld_LEAST_LENGTHS => k_is)
    (case eh_LEAST_LENGTHS_0 => rfl)
    (case lt_LEAST_LENGTHS_0 => k_is)
    (case eh_LEAST_LENGTHS_1 => rfl)
    (case lt_LEAST_LENGTHS_1 => k_is)
    (case eh_LEAST_LENGTHS_2 => rfl)
    (case lt_LEAST_LENGTHS_2 => k_is)
    (case eh_LEAST_LENGTHS_3 => rfl)
    (case lt_LEAST_LENGTHS_3 => k_is)
    (case eh_LEAST_LENGTHS_4 => rfl)
    (case lt_LEAST_LENGTHS_4 => k_is)
    (case sm_LEAST_LENGTHS => rfl)
    (case g_MOST_BYTES => k_is)
    (case g_VERSION => k_is)
    (case g_PADDING => k_is)
    (case g_FOUR_BYTES => k_is)
    (case g_NUMBERS => k_is)
    (case g_FAR_AHEAD => k_is)
    (case g_FAR_BEHIND => k_is)
    (case g_MOST_SHARE => k_is)
    (case g_LEAST_MISSING => k_is)
    (case g_MOST_MISSING => k_is)
    (case g_HEAD_LENGTH => k_is)
    (case g_EXTENSION => k_is)
    (case g_OTHER_SOURCES => k_is)
    (case g_MARK => k_is)
    (case g_SENDER_REPORT => k_is)
    (case g_RECEIVER_REPORT => k_is)
    (case g_GOODBYE => k_is)
    (case g_LEAST_LENGTH => k_is)
    (case g_ENTRIES => k_is)
    (case g_MOST_WAITING => k_is)
    (case g_MOST_CARRIED => k_is)
    (case g_KEPT => k_is)
    (case g_COUNTED => k_is)
    (case g_NOT_BELIEVED => k_is)
    (case g_NO_PACKET => k_is)
    (case g_OTHER_SOURCE => k_is)
    (case g_NOT_THERE_YET => k_is)
    (case g_LOST => k_is)
    (case g_MOST_TOO_SMALL => k_is)
    (case g_PARTS_NOT_RIGHT => k_is)
    (case g_NONE_HEARD_OF => k_is)
    (case g_THREE_BYTES => k_is)
    (case g_RP_BEGIN => k_is)
    (case g_RP_RECEIVE => k_is)
    (case g_RP_TAKE => k_is)
    (case g_RP_REPORT => k_is)
    (case g_RP_HEARD => k_is)
    (case g_RP_TOLD => k_is)
    (case g_LEAST_DEPTH => k_is)
    (case g_MOST_DEPTH => k_is)
    (case g_BEGUN => k_is)
    (case g_DEPTH_REFUSED => k_is)
    (case n_any => k_is)
    (case n_len => k_is)
    (case n_max => k_is)
    (case n_min => k_is)
    (case n_range => k_is)
#print axioms PySem.Challenge.cw_latepackets_s01_answers_holds
