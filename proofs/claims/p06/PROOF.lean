import PyProof.Rows.All
import Wide.All
import OpenK.AllK
import Wide.FinOn
import Lean
import PyProof.EqAt
import PyProof.EqKinds
import PyProof.TupleCall
import PyProof.NeKinds
import PyProof.Rows.StrNews
import PyProof.Rows.StrJoin2
import PyProof.Rows.SumAny
import PyProof.ListStr
import PyProof.StrLawsIdx
import PyProof.StrLawsChain
import PyProof.StrLawsFrom
import PyProof.FitsReplace
import PyProof.LongRange
import KE.KRevIter
import PyProof.ListRange
import PySem.Challenge.RW_gapbench_k06_whole_undone_to_nothing
set_option Elab.async false
set_option linter.all false
set_option maxRecDepth 100000
namespace L2
open PySem PySem.Spec PyProof.Rows

/-- a key: an int or a str -/
abbrev Key := Sum Int Str
def keyIs : Key → Value → Bool
  | .inl k, v => Value.isInt k v
  | .inr x, v => Value.isStrOf x v
def keyH (w : World) : Key → Int
  | .inl k => hashInt k
  | .inr x => hashStr w x
theorem keyIs_shape : ∀ {k : Key} {v : Value}, keyIs k v = true → (∃ i t, k = Sum.inl i ∧ v = Value.int i t) ∨ (∃ x t, k = Sum.inr x ∧ v = Value.str x t)
  | .inl i, v, h => by
    obtain ⟨t, e⟩ := Value.isInt_shape (k := i) (v := v) h
    exact .inl ⟨i, t, rfl, e⟩
  | .inr x, v, h => by
    obtain ⟨t, e⟩ := Value.isStrOf_shape (x := x) (v := v) h
    exact .inr ⟨x, t, rfl, e⟩
theorem keyIs_int (i : Int) (t : Tok) : keyIs (.inl i) (.int i t) = true := by simp [keyIs, Value.isInt]
theorem keyIs_str (x : Str) (t : Tok) : keyIs (.inr x) (.str x t) = true := by simp [keyIs, Value.isStrOf]
theorem key_ll (a b : Int) : decide ((Sum.inl a : Key) = Sum.inl b) = (a == b) := by
  by_cases e : a = b
  · subst e; simp
  · have h : ¬ (Sum.inl a : Key) = Sum.inl b := fun q => e (Sum.inl.inj q)
    rw [decide_eq_false h]
    exact (beq_eq_false_iff_ne.mpr e).symm
theorem key_rr (a b : Str) : decide ((Sum.inr a : Key) = Sum.inr b) = decide (a = b) := by
  by_cases e : a = b
  · subst e; simp
  · have h : ¬ (Sum.inr a : Key) = Sum.inr b := fun q => e (Sum.inr.inj q)
    rw [decide_eq_false h, decide_eq_false e]
theorem key_lr (a : Int) (b : Str) : decide ((Sum.inl a : Key) = Sum.inr b) = false := decide_eq_false (fun q => nomatch q)
theorem key_rl (a : Str) (b : Int) : decide ((Sum.inr a : Key) = Sum.inl b) = false := decide_eq_false (fun q => nomatch q)

def mixKind (prog : Program) (w : World) : PySem.KeyKind prog w Key where
  is := keyIs
  hash := keyH w
  inj := fun v a b ha hb => by
    rcases keyIs_shape ha with ⟨i, t, rfl, rfl⟩ | ⟨x, t, rfl, rfl⟩
    · rcases keyIs_shape hb with ⟨j, u, rfl, e⟩ | ⟨y, u, rfl, e⟩
      · injection e with e1 _; rw [e1]
      · exact nomatch e
    · rcases keyIs_shape hb with ⟨j, u, rfl, e⟩ | ⟨y, u, rfl, e⟩
      · exact nomatch e
      · injection e with e1 _; rw [e1]
  byValue := fun k v h => by
    rcases keyIs_shape h with ⟨i, t, rfl, rfl⟩ | ⟨x, t, rfl, rfl⟩ <;> rfl
  pyHash := fun hv h => by
    rcases keyIs_shape hv with ⟨i, t, rfl, rfl⟩ | ⟨x, t, rfl, rfl⟩
    · exact wpAny_pyHash_int h
    · exact wpAny_pyHash_str h
  eqBool := fun hu hv h => by
    rcases keyIs_shape hu with ⟨i, t, rfl, rfl⟩ | ⟨x, t, rfl, rfl⟩
    · rcases keyIs_shape hv with ⟨j, u, rfl, rfl⟩ | ⟨y, u, rfl, rfl⟩
      · rw [key_ll] at h; exact wpAny_eqBool_int h
      · rw [key_lr] at h; exact SeqAt.EqAt.int_str i t y u _ _ _ _ h
    · rcases keyIs_shape hv with ⟨j, u, rfl, rfl⟩ | ⟨y, u, rfl, rfl⟩
      · rw [key_rl] at h; exact SeqAt.EqAt.str_int x t j u _ _ _ _ h
      · rw [key_rr] at h; exact wpAny_eqBool_str h
  «strs» := fun k x t v h => by
    rcases keyIs_shape h with ⟨i, u, rfl, e⟩ | ⟨y, u, rfl, e⟩
    · exact nomatch e
    · injection e with e1 _
      subst e1
      cases v <;> rfl

theorem mixKind_is (prog : Program) (w : World) (k : Key) (v : Value) : (mixKind prog w).is k v = keyIs k v := rfl
theorem mixKind_int (prog : Program) (w : World) (i : Int) (t : Tok) : (mixKind prog w).is (.inl i) (.int i t) = true := keyIs_int i t
theorem mixKind_str (prog : Program) (w : World) (x : Str) (t : Tok) : (mixKind prog w).is (.inr x) (.str x t) = true := keyIs_str x t
end L2

namespace L2
open PySem PySem.Spec PyProof.Rows

/-- a value, without the heap -/
inductive V where
  | non | bl (b : Bool) | int (i : Int) | str (x : Str) | byt (b : Array UInt8) | flt (b : UInt64) | ref (a : Addr) | ty (n : String)
  deriving DecidableEq

def RelV : V → Value → Prop
  | .non, u => u = Value.none
  | .bl b, u => u = Value.bool b
  | .int i, u => ∃ t, u = Value.int i t
  | .str x, u => ∃ t, u = Value.str x t
  | .byt b, u => ∃ t, u = Value.bytes b t
  | .flt b, u => ∃ t, u = Value.float b t
  | .ref a, u => u = Value.ref a
  | .ty n, u => u = Value.type n

abbrev Vals : List V → List Value → Prop := Paired RelV
theorem Vals.length {xs : List V} {us : List Value} (r : Vals xs us) : xs.length = us.length := Paired.length r
theorem Vals.get : ∀ {xs : List V} {us : List Value} {i : Nat} {x : V}, Vals xs us → xs[i]? = some x → ∃ u, us[i]? = some u ∧ RelV x u
  | _, _, _, _, .nil, e => by simp at e
  | _, _, 0, _, .cons r _, e => by simp at e; subst e; exact ⟨_, rfl, r⟩
  | _, _, i + 1, x, .cons _ t, e => by
    obtain ⟨u, h1, h2⟩ := Vals.get (i := i) (x := x) t (by simpa using e)
    exact ⟨u, by simpa using h1, h2⟩
theorem Vals.set {x : V} {u : Value} (r : RelV x u) : ∀ {xs : List V} {us : List Value} (i : Nat), Vals xs us → Vals (xs.set i x) (us.set i u)
  | _, _, _, .nil => .nil
  | _, _, 0, .cons _ t => .cons r t
  | _, _, i + 1, .cons q t => .cons q (Vals.set r i t)
theorem Vals.append : ∀ {xs ys : List V} {us ws : List Value}, Vals xs us → Vals ys ws → Vals (xs ++ ys) (us ++ ws)
  | _, _, _, _, .nil, s => s
  | _, _, _, _, .cons r t, s => .cons r (Vals.append t s)
theorem Vals.take : ∀ {xs : List V} {us : List Value} (n : Nat), Vals xs us → Vals (xs.take n) (us.take n)
  | _, _, 0, _ => .nil
  | _, _, _ + 1, .nil => .nil
  | _, _, n + 1, .cons r t => .cons r (Vals.take n t)
theorem Vals.drop : ∀ {xs : List V} {us : List Value} (n : Nat), Vals xs us → Vals (xs.drop n) (us.drop n)
  | _, _, 0, r => r
  | _, _, _ + 1, .nil => .nil
  | _, _, n + 1, .cons _ t => Vals.drop n t
theorem Vals.none_of : ∀ {xs : List V} {us : List Value} {i : Nat}, Vals xs us → xs[i]? = none → us[i]? = none := fun {xs us i} r e => by
  have h1 := r.length
  have h2 : xs.length ≤ i := List.getElem?_eq_none_iff.mp e
  exact List.getElem?_eq_none_iff.mpr (by omega)

def RelO : Option V → Option Value → Prop
  | some v, some u => RelV v u
  | none, none => True
  | _, _ => False
def KV {κ : Type} : List (κ × V) → List (κ × Value) → Prop := Paired fun (p : κ × V) (q : κ × Value) => p.1 = q.1 ∧ RelV p.2 q.2

/-- a key of a dict (00_mix): an int or a text -/
def kV : Key → V
  | .inl i => .int i
  | .inr x => .str x

/-- what stands at a tracked address -/
inductive HO where
  /-- a list -/
  | lst (xs : List V)
  /-- a tuple (never changes) -/
  | tup (xs : List V)
  /-- a dict whose keys are ints and texts; one whose keys are tuples of ints and texts (the empty one is both) -/
  | dK (kvs : List (Key × V)) | dT (kvs : List (List Key × V))
  /-- a set of ints: its members, its size -/
  | set (S : Int → Bool) (n : Nat)
  /-- an instance of the class at C, its dict at dx, its attributes -/
  | ins (C dx : Addr) (fs : List (Str × V))
  /-- the dict of the instance at x -/
  | own (x : Addr)
  /-- the dict of an exception -/
  | xd (fs : List (Str × V))
  /-- a bound method, f of x -/
  | met (f x : Addr)
  /-- a range object lo, lo + 1, .. below hi -/
  | rng (lo hi : Int)
  /-- a thing that is known to the object (the script; a dict while a loop walks it): read, never written while it is so -/
  | frz (o : Obj) (u : HO)
  /-- a code object's table -/
  | tbl (ps : Array Value)
  /-- any other thing, by what is true of its one object (a def of one's own: SetO a S n := HO.ext fun h => ..) -/
  | ext (φ : Heap → Prop)

abbrev Hp := Addr → Option HO
def upd (H : Hp) (a : Addr) (o : HO) : Hp := fun b => if b = a then some o else H b
theorem upd_same {H : Hp} {a : Addr} {o : HO} : upd H a o a = some o := by unfold upd; rw [if_pos rfl]
theorem upd_ne {H : Hp} {a b : Addr} {o : HO} (h : b ≠ a) : upd H a o b = H b := by unfold upd; rw [if_neg h]
theorem upd_upd {H : Hp} {a : Addr} {o u : HO} : upd (upd H a o) a u = upd H a u := by
  funext b; unfold upd; split <;> rfl
/-- two objects of different content stand apart -/
theorem ne_of {H : Hp} {a b : Addr} {o u : HO} (h : H a = some o) (h' : H b = some u) (d : o ≠ u) : a ≠ b := by
  intro e; subst e; rw [h] at h'; exact d (Option.some.inj h')
theorem ne_of_none {H : Hp} {a b : Addr} {o : HO} (h : H a = some o) (h' : H b = none) : a ≠ b := by
  intro e; subst e; rw [h] at h'; cases h'

section
variable (P : Program) (w : World)
def ObjOk (H : Hp) (h : Heap) (a : Addr) : HO → Prop
  | .lst xs => xs.length ≤ sizeLine ∧ ∃ (its : List Value) (n : Nat), Vals xs its ∧ h.get? a = some { cls := .type "list", data := .seq its.toArray n }
  | .tup xs => xs.length ≤ sizeLine ∧ ∃ its : List Value, Vals xs its ∧ IsTup h a its.toArray
  | .dK kvs => kvs.length ≤ sizeLine ∧ (a == sysModules) = false ∧ ∃ vs, KV kvs vs ∧ h.DictOf (mixKind P w) a vs
  | .dT kvs => kvs.length ≤ sizeLine ∧ (a == sysModules) = false ∧ ∃ xs : List (List Key × Addr × Value),
      Paired (fun (p : List Key × V) (q : List Key × Addr × Value) => p.1 = q.1 ∧ H q.2.1 = some (.tup (p.1.map kV)) ∧ RelV p.2 q.2.2) kvs xs ∧
      ∃ o es ep, h.get? a = some o ∧ o.ExactDict ∧ o.data = .dict es ep ∧ es.toList = xs.map (entryOfKey (tupleKind (mixKind P w))) ∧ (xs.map (·.1)).Nodup
  | .set S n => h.SetOf (intKind P w) a S n
  | .ins C dx fs => H dx = some (.own a) ∧ fs.length ≤ 1000 ∧ dx ≠ a ∧ h.get? a = some (PySem.W.instObj C dx) ∧
      ∃ mA, h.Ns1 dx mA ∧ (∀ f, RelO (fs.lookup f) (mA f)) ∧ PySem.Within mA (fs.map (·.1))
  | .own _ => ∃ o, h.get? a = some o
  | .xd fs => ∃ mA, h.Ns1 a mA ∧ ∀ f, RelO (fs.lookup f) (mA f)
  | .rng lo hi => ∃ t u v, h.get? a = some { cls := .type "range", data := .fields #[.int lo t, .int hi u, .int 1 v] }
  | .frz o u => h.get? a = some o ∧ ObjOk H h a u
  | .tbl ps => h.get? a = some { cls := .none, data := .fields ps }
  | .met f x => h.get? a = some (PySem.W.methodObj (.ref f) (.ref x))
  | .ext φ => φ h ∧ (∃ o, h.get? a = some o) ∧ ∀ h1 h2 : Heap, φ h1 → (∀ o, h1.get? a = some o → h2.get? a = some o) → φ h2
/-- the abstract heap is held -/
def HOk (H : Hp) (h : Heap) : Prop := ∀ a o, H a = some o → ObjOk P w H h a o
end

section
variable {P : Program} {w : World} {H H' : Hp} {h h' : Heap} {a : Addr} {o : HO}
theorem ObjOk.lt (x : ObjOk P w H h a o) : a < h.objs.size := by
  cases o with
  | lst xs => obtain ⟨_, _, _, _, e⟩ := x; exact Heap.lt_size e
  | tup xs => obtain ⟨_, _, _, p⟩ := x; exact p.lt
  | dK kvs => obtain ⟨_, _, _, _, o, _, _, e, _⟩ := x; exact Heap.lt_size e
  | dT kvs => obtain ⟨_, _, _, _, o, _, _, e, _⟩ := x; exact Heap.lt_size e
  | set S n => obtain ⟨o, _, _, _, e, _⟩ := x; exact Heap.lt_size e
  | ins C dx fs => obtain ⟨_, _, _, e, _⟩ := x; exact Heap.lt_size e
  | own y => obtain ⟨_, e⟩ := x; exact Heap.lt_size e
  | xd fs => obtain ⟨_, ⟨_, _, _, e, _⟩, _⟩ := x; exact Heap.lt_size e
  | rng lo hi => obtain ⟨_, _, _, e⟩ := x; exact Heap.lt_size e
  | frz ob u => obtain ⟨e, _⟩ := x; exact Heap.lt_size e
  | tbl ps => exact Heap.lt_size (show h.get? a = some _ from x)
  | met f y => exact Heap.lt_size (show h.get? a = some _ from x)
  | ext φ => obtain ⟨_, ⟨_, e⟩, _⟩ := x; exact Heap.lt_size e
theorem Paired.mapP {α β : Type} {F G : α → β → Prop} : ∀ {l₁ : List α} {l₂ : List β}, Paired F l₁ l₂ → (∀ a b, F a b → G a b) → Paired G l₁ l₂
  | _, _, .nil, _ => .nil
  | _, _, .cons r t, f => .cons (f _ _ r) (Paired.mapP t f)
theorem Paired.imp' {α β : Type} {F G : α → β → Prop} (f : ∀ a b, F a b → G a b) {l₁ : List α} {l₂ : List β} (r : Paired F l₁ l₂) : Paired G l₁ l₂ := Paired.mapP r f
/-- what an object's description leans on: its own object, its own dict, the tuples -/
theorem ObjOk.stay (x : ObjOk P w H h a o) (k : ∀ b u, (b = a ∨ H b = some (.own a)) → h.get? b = some u → h'.get? b = some u)
    (ho : ∀ b, H b = some (.own a) → H' b = some (.own a)) (ht : ∀ b xs, H b = some (.tup xs) → H' b = some (.tup xs)) : ObjOk P w H' h' a o := by
  induction o with
  | lst xs => obtain ⟨z, its, n, r, e⟩ := x; exact ⟨z, its, n, r, k _ _ (.inl rfl) e⟩
  | tup xs => obtain ⟨z, its, r, ob, e, c⟩ := x; exact ⟨z, its, r, ob, k _ _ (.inl rfl) e, c⟩
  | dK kvs => obtain ⟨z, y, vs, r, ob, es, ep, e, c⟩ := x; exact ⟨z, y, vs, r, ob, es, ep, k _ _ (.inl rfl) e, c⟩
  | dT kvs =>
    obtain ⟨z, y, xs, r, ob, es, ep, e, c⟩ := x
    exact ⟨z, y, xs, Paired.mapP r fun p q z => ⟨z.1, ht _ _ z.2.1, z.2.2⟩, ob, es, ep, k _ _ (.inl rfl) e, c⟩
  | set S n => obtain ⟨ob, es, ep, t, e, c⟩ := x; exact ⟨ob, es, ep, t, k _ _ (.inl rfl) e, c⟩
  | ins C dx fs =>
    obtain ⟨d, z, ne, e, mA, ⟨od, es, ep, e2, c⟩, r⟩ := x
    exact ⟨ho _ d, z, ne, k _ _ (.inl rfl) e, mA, ⟨od, es, ep, k _ _ (.inr d) e2, c⟩, r⟩
  | own y => obtain ⟨ob, e⟩ := x; exact ⟨ob, k _ _ (.inl rfl) e⟩
  | xd fs => obtain ⟨mA, ⟨od, es, ep, e, c⟩, r⟩ := x; exact ⟨mA, ⟨od, es, ep, k _ _ (.inl rfl) e, c⟩, r⟩
  | rng lo hi => obtain ⟨t, u, v, e⟩ := x; exact ⟨t, u, v, k _ _ (.inl rfl) e⟩
  | frz ob u ih => obtain ⟨e, q⟩ := x; exact ⟨k _ _ (.inl rfl) e, ih q⟩
  | tbl ps =>
    have e : h.get? a = some { cls := .none, data := .fields ps } := x
    show h'.get? a = some { cls := .none, data := .fields ps }
    exact k a _ (.inl rfl) e
  | met f y =>
    have e : h.get? a = some (PySem.W.methodObj (.ref f) (.ref y)) := x
    show h'.get? a = some (PySem.W.methodObj (.ref f) (.ref y))
    exact k a _ (.inl rfl) e
  | ext φ => obtain ⟨p, ⟨o, e⟩, st⟩ := x; exact ⟨st _ _ p fun o q => k _ _ (.inl rfl) q, ⟨o, k _ _ (.inl rfl) e⟩, st⟩
theorem HOk.lt (x : HOk P w H h) (e : H a = some o) : a < h.objs.size := (x a o e).lt
theorem HOk.fresh (x : HOk P w H h) (e : h.objs.size ≤ a) : H a = none := by
  cases q : H a with
  | none => rfl
  | some u => exact absurd (Nat.lt_of_lt_of_le (x.lt q) e) (Nat.lt_irrefl _)
/-- every object of the heap is kept -/
theorem HOk.kept (x : HOk P w H h) (k : ∀ b u, h.get? b = some u → h'.get? b = some u) : HOk P w H h' := fun a o e =>
  (x a o e).stay (fun b u _ q => k b u q) (fun _ q => q) fun _ _ q => q
/-- a new object is laid and tracked -/
theorem HOk.laid (x : HOk P w H h) (k : ∀ b u, h.get? b = some u → h'.get? b = some u) (hp : h.objs.size ≤ a) (new : ObjOk P w (upd H a o) h' a o) : HOk P w (upd H a o) h' := fun b u e => by
  have hn := x.fresh hp
  by_cases hb : b = a
  · subst hb; rw [upd_same] at e; cases e; exact new
  · rw [upd_ne hb] at e
    exact (x b u e).stay (fun c v _ q => k c v q) (fun c q => by rw [upd_ne (ne_of_none q hn)]; exact q) fun c xs q => by rw [upd_ne (ne_of_none q hn)]; exact q
end

/-- what may be read as u: it is u, or a known u -/
def Rd (H : Hp) (a : Addr) (u : HO) : Prop := H a = some u ∨ ∃ o, H a = some (.frz o u)
theorem Rd.of {H : Hp} {a : Addr} {u : HO} (h : H a = some u) : Rd H a u := .inl h
theorem Rd.ok {P : Program} {w : World} {H : Hp} {h : Heap} {a : Addr} {u : HO} (r : Rd H a u) (x : HOk P w H h) : ObjOk P w H h a u := by
  rcases r with r | ⟨o, r⟩
  · exact x a u r
  · obtain ⟨_, q⟩ := x a _ r
    exact q
/-- what may be written -/
def Mut : Option HO → Prop
  | some (.lst _) => True
  | some (.dK _) => True
  | some (.dT _) => True
  | some (.set _ _) => True
  | some (.ins _ _ _) => True
  | some (.ext _) => True
  | _ => False
section
variable {P : Program} {w : World} {H : Hp} {h h' : Heap} {x e : Addr} {o' : HO}
/-- the object at e is changed: x itself, or the dict of the instance x -/
theorem HOk.write (ok : HOk P w H h) (mu : Mut (H x)) (he : e = x ∨ H e = some (.own x)) (k : ∀ b u, b ≠ e → h.get? b = some u → h'.get? b = some u) (heo : ∃ u, h'.get? e = some u)
    (new : ObjOk P w (upd H x o') h' x o') : HOk P w (upd H x o') h' := fun b u q => by
  have nown : ∀ c y, H c = some (.own y) → c ≠ x := fun c y r z => by subst z; rw [r] at mu; exact mu
  have ntup : ∀ c xs, H c = some (.tup xs) → c ≠ x := fun c xs r z => by subst z; rw [r] at mu; exact mu
  by_cases hb : b = x
  · subst hb; rw [upd_same] at q; cases q; exact new
  · rw [upd_ne hb] at q
    by_cases hbe : b = e
    · have q' : H b = some (.own x) := by
        rcases he with z | z
        · exact absurd (hbe.trans z) hb
        · rw [hbe]; exact z
      rw [q] at q'; cases q'
      obtain ⟨v, hv⟩ := heo
      exact ⟨v, by rw [hbe]; exact hv⟩
    · refine (ok b u q).stay (fun c v hc r => k c v ?_ r) (fun c r => by rw [upd_ne (nown c b r)]; exact r) fun c xs r => by rw [upd_ne (ntup c xs r)]; exact r
      rcases hc with rfl | hc
      · exact hbe
      · rintro rfl
        rcases he with z | z
        · exact nown c b hc z
        · rw [hc] at z; cases z; exact hb rfl
end

/-! ### kept unless tracked; of the frames at fs (the callers') the slots may change (an exception that passes writes there); of the records at ex (iterators) nothing is said -/
structure Un (fs ex : List Addr) (H H' : Hp) (h h' : Heap) : Prop where
  keep : ∀ b o, h.get? b = some o → H b = none → b ∉ fs → b ∉ ex → h'.get? b = some o
  slot : ∀ b o, h.get? b = some o → H b = none → b ∈ fs → b ∉ ex → ∃ sl, h'.get? b = some { o with slots := sl }
  free : ∀ b o, h.get? b = some o → H b = none → b ∉ ex → H' b = none
  there : ∀ b o, h.get? b = some o → b ∉ ex → ∃ o', h'.get? b = some o'
  tups : ∀ b xs, H b = some (.tup xs) → H' b = some (.tup xs)
  frzs : ∀ b o u, H b = some (.frz o u) → H' b = some (.frz o u)
  tbls : ∀ b ps, H b = some (.tbl ps) → ∃ more, H' b = some (.tbl (ps ++ more))
section
variable {fs fs' ex ex' : List Addr} {H H1 H2 : Hp} {h h1 h2 h' : Heap} {a x e : Addr} {o : HO}
theorem Un.any (u : Un fs ex H H1 h h1) {b : Addr} {ob : Obj} (q : h.get? b = some ob) (n : H b = none) (hx : b ∉ ex) : ∃ sl, h1.get? b = some { ob with slots := sl } := by
  by_cases hb : b ∈ fs
  · exact u.slot b ob q n hb hx
  · exact ⟨ob.slots, u.keep b ob q n hb hx⟩
theorem Un.trans (a : Un fs ex H H1 h h1) (b : Un fs ex H1 H2 h1 h2) : Un fs ex H H2 h h2 where
  keep := fun c ob q n hc hx => b.keep c ob (a.keep c ob q n hc hx) (a.free c ob q n hx) hc hx
  slot := fun c ob q n hc hx => by
    obtain ⟨sl, e1⟩ := a.slot c ob q n hc hx
    obtain ⟨sl', e2⟩ := b.slot c _ e1 (a.free c ob q n hx) hc hx
    exact ⟨sl', e2⟩
  free := fun c ob q n hx => by
    obtain ⟨o', e1⟩ := a.there c ob q hx
    exact b.free c o' e1 (a.free c ob q n hx) hx
  there := fun c ob q hx => by
    obtain ⟨o', e1⟩ := a.there c ob q hx
    exact b.there c o' e1 hx
  tups := fun c xs q => b.tups c xs (a.tups c xs q)
  frzs := fun c ob xs q => b.frzs c ob xs (a.frzs c ob xs q)
  tbls := fun c ps q => by
    obtain ⟨m1, e1⟩ := a.tbls c ps q
    obtain ⟨m2, e2⟩ := b.tbls c _ e1
    exact ⟨m1 ++ m2, by rw [e2, Array.append_assoc]⟩
theorem Un.kept (k : ∀ b u, h.get? b = some u → h'.get? b = some u) : Un fs ex H H h h' :=
  ⟨fun b ob q _ _ _ => k b ob q, fun b ob q _ _ _ => ⟨ob.slots, k b ob q⟩, fun _ _ _ n _ => n, fun b ob q _ => ⟨ob, k b ob q⟩, fun _ _ q => q, fun _ _ _ q => q, fun _ ps q => ⟨#[], by rw [q]; simp⟩⟩
theorem Un.refl : Un fs ex H H h h := Un.kept fun _ _ q => q
theorem Un.laid (k : ∀ b u, h.get? b = some u → h'.get? b = some u) (hp : h.objs.size ≤ a) (hn : H a = none) : Un fs ex H (upd H a o) h h' where
  keep := fun b u q _ _ _ => k b u q
  slot := fun b u q _ _ _ => ⟨u.slots, k b u q⟩
  free := fun b u q n _ => by rw [upd_ne (Nat.ne_of_lt (Nat.lt_of_lt_of_le (Heap.lt_size q) hp))]; exact n
  there := fun b u q _ => ⟨u, k b u q⟩
  tups := fun b xs q => by rw [upd_ne (ne_of_none q hn)]; exact q
  frzs := fun b u xs q => by rw [upd_ne (ne_of_none q hn)]; exact q
  tbls := fun b ps q => ⟨#[], by rw [upd_ne (ne_of_none q hn), q]; simp⟩
theorem Un.write (mu : Mut (H x)) (he : e = x ∨ H e = some (.own x)) (k : ∀ b u, b ≠ e → h.get? b = some u → h'.get? b = some u) (heo : ∃ u, h'.get? e = some u) : Un fs ex H (upd H x o) h h' := by
  have hx : ∀ b, H b = none → b ≠ x := fun b n z => by subst z; rw [n] at mu; exact mu
  have hb : ∀ b, H b = none → b ≠ e := fun b n z => by
    subst z
    rcases he with r | r
    · exact hx b n r
    · rw [n] at r; cases r
  have hm : ∀ b u, H b = some u → ¬ Mut (some u) → b ≠ x := fun b u q nm z => by subst z; rw [q] at mu; exact nm mu
  refine ⟨fun b u q n _ _ => k b u (hb b n) q, fun b u q n _ _ => ⟨u.slots, k b u (hb b n) q⟩, fun b u q n _ => by rw [upd_ne (hx b n)]; exact n, fun b u q _ => ?_,
    fun b xs q => by rw [upd_ne (hm b _ q fun z => z)]; exact q, fun b u xs q => by rw [upd_ne (hm b _ q fun z => z)]; exact q, fun b ps q => ⟨#[], by rw [upd_ne (hm b _ q fun z => z), q]; simp⟩⟩
  by_cases hbe : b = e
  · subst hbe; exact heo
  · exact ⟨u, k b u hbe q⟩
theorem Un.mono (u : Un fs ex H H1 h h1) (hs : ∀ b ∈ fs, b ∈ fs') (hx : ∀ b ∈ ex, b ∈ ex') : Un fs' ex' H H1 h h1 :=
  ⟨fun b ob q n hb he => u.keep b ob q n (fun z => hb (hs b z)) fun z => he (hx b z), fun _ _ q n _ he => u.any q n fun z => he (hx _ z), fun b ob q n he => u.free b ob q n fun z => he (hx b z), fun b ob q he => u.there b ob q fun z => he (hx b z), u.tups, u.frzs, u.tbls⟩
end

/-! ### the heap without what is tracked -/
def trk (h : Heap) (H : Hp) : List Addr := (List.range h.objs.size).filter fun a => (H a).isSome
def hidT (h : Heap) (H : Hp) : Heap := PySem.W.hideAll h (trk h H)
theorem hidT_size (h : Heap) (H : Hp) : (hidT h H).objs.size = h.objs.size := PySem.W.hideAll_size _ _
theorem hidT_get {h : Heap} {H : Hp} {b : Addr} {o : Obj} (e : h.get? b = some o) (n : H b = none) : (hidT h H).get? b = some o :=
  PySem.W.hideAll_get _ e fun hm => by
    have q : (H b).isSome = true := (List.mem_filter.mp hm).2
    rw [n] at q; simp at q
theorem of_hidT {h : Heap} {H : Hp} {b : Addr} {o : Obj} (e : (hidT h H).get? b = some o) : h.get? b = some o ∧ H b = none := by
  have e' : h.get? b = some o := PySem.W.of_hideAll (trk h H) e
  refine ⟨e', ?_⟩
  cases q : H b with
  | none => rfl
  | some x =>
    have hm : b ∈ trk h H := List.mem_filter.mpr ⟨List.mem_range.mpr (Heap.lt_size e'), by simp [q]⟩
    have z : (hidT h H).get? b = none := PySem.W.hideAll_none (trk h H) hm
    rw [z] at e; cases e

/-! ### OpenK's ledger, filled with every new object but one -/
def allNews (g h : Heap) (L : Addr) : List (Addr × Obj) := (List.range h.objs.size).filterMap fun a => if a = L ∨ (g.get? a).isSome = true then none else (h.get? a).map fun o => (a, o)
theorem mem_allNews {g h : Heap} {L a : Addr} {o : Obj} (h1 : a ≠ L) (h2 : g.get? a = none) (h3 : h.get? a = some o) : (a, o) ∈ allNews g h L :=
  List.mem_filterMap.mpr ⟨a, List.mem_range.mpr (Heap.lt_size h3), by simp [h1, h2, h3]⟩
theorem of_mem_allNews {g h : Heap} {L : Addr} {p : Addr × Obj} (hp : p ∈ allNews g h L) : p.1 ≠ L ∧ g.get? p.1 = none ∧ h.get? p.1 = some p.2 := by
  obtain ⟨b, _, e⟩ := List.mem_filterMap.mp hp
  split at e
  · cases e
  · rename_i hn
    cases q : h.get? b with
    | none => rw [q] at e; simp at e
    | some u =>
      rw [q] at e
      simp only [Option.map_some, Option.some.injEq] at e
      subst e
      refine ⟨fun z => hn (.inl z), ?_, q⟩
      show g.get? b = none
      cases r : g.get? b with
      | none => rfl
      | some v => exact (hn (.inr (by simp [r]))).elim
def rest (g h : Heap) (L d : Addr) : List (Addr × Obj) := (allNews g h L).filter fun p => decide (p.1 ≠ d)
theorem rest_ne {g h : Heap} {L d : Addr} : ∀ p ∈ rest g h L d, p.1 ≠ d := fun p hp => of_decide_eq_true (List.mem_filter.mp hp).2
theorem mem_rest {g h : Heap} {L d a : Addr} {o : Obj} (h1 : a ≠ L) (h2 : g.get? a = none) (h3 : h.get? a = some o) (h4 : a ≠ d) : (a, o) ∈ rest g h L d :=
  List.mem_filter.mpr ⟨mem_allNews h1 h2 h3, decide_eq_true h4⟩
theorem news_all {g h : Heap} {L : Addr} : News g L h (allNews g h L) := fun p hp => let ⟨a, b, c⟩ := of_mem_allNews hp; ⟨c, a, b⟩
theorem news_at {g h : Heap} {L d : Addr} {o : Obj} (h1 : d ≠ L) (h2 : g.get? d = none) (h3 : h.get? d = some o) : News g L h ((d, o) :: rest g h L d) := fun p hp => by
  rcases List.mem_cons.mp hp with rfl | hp
  · exact ⟨h3, h1, h2⟩
  · exact news_all p (List.mem_filter.mp hp).1
/-- behind a rule that changed d alone: all else but the frame is kept -/
theorem kept_of_news {g h h' : Heap} {L d : Addr} {m : Str → Option Value} (k : ∀ b o, g.get? b = some o → h.get? b = some o) (F : Fr g L h' m) (N : News g L h' (rest g h L d)) :
    ∀ b o, b ≠ L → b ≠ d → h.get? b = some o → h'.get? b = some o := fun b o h1 h2 e => by
  cases q : g.get? b with
  | some u =>
    have := k b u q
    rw [e] at this; cases this
    exact F.keep b _ q
  | none => exact (N (b, o) (mem_rest h1 q e h2)).1
end L2

namespace L2
open PySem PySem.Spec PyProof.Rows

/-- the module's facts, over the base: the heap at the law's entry without what is tracked there -/
structure Mod (K : PySem.W.Frag) (mg : Str → Option Value) (base : Heap) : Prop where
  kin : K.In base
  glob : base.Ns mainGlobals mg
  blt : ∃ mb, base.Ns builtinsNs mb ∧ ∀ x : Str, x ≠ "__name__" → mb x = bootBuiltins x
  nolimit : base.NoLimit

/-- the context: a def's body (or a comprehension's block) running. base: fixed through the whole law; s₀, H₀: the entry; outer: the frames whose slots others may change (a def's callers); stack: all frames that run;
   ex: iterators that were made ahead of the entry and are walked here (a comprehension's); fn: the names whose cells were made at the entry (a def: all; a comprehension's block: its own); calm: not within an except suite; pn: pins that every state bears; xe: what is wanted of an exception that leaves the code -/
structure Cx where
  prog : Program
  w : World
  K : PySem.W.Frag
  mg : Str → Option Value
  base : Heap
  A : Around
  N : List Str
  s₀ : Shared
  H₀ : Hp
  env : Env
  outer : List Env
  stack : List Env
  ex : List Addr
  fn : Str → Bool
  calm : Bool
  pn : List (Addr × Obj)
  xe : Value → Shared → Prop
/-- the callers' frames -/
def frs (l : List Env) : List Addr := l.filterMap (·.frame)
abbrev Cx.fs (X : Cx) : List Addr := frs X.outer

def Vis (sc : Scope) (x : Str) : Prop := sc.names.lookup x = some .local ∨ sc.names.lookup x = some .cell ∨ sc.names.lookup x = some .free
def Loc (sc : Scope) (x : Str) : Prop := sc.names.lookup x = some .local ∨ sc.names.lookup x = some .cell
def Look (env : Env) (h : Heap) (m : Str → Option Value) (x : Str) (u : Value) : Prop :=
  (env.kindOf x = some .local ∧ m x = some u) ∨ ((env.kindOf x = some .cell ∨ env.kindOf x = some .free) ∧ ∃ c, env.cells.lookup x = some c ∧ h.IsCell c (some u))

structure Cx.Ok (X : Cx) : Prop where
  mod : Mod X.K X.mg X.base
  kind : X.env.scope.kind = .function
  glob : X.env.globals = mainGlobals
  blt : X.env.builtins = builtinsNs
  above : X.s₀.heap.objs.size ≤ X.env.locals
  inj : ∀ x y c, X.env.cells.lookup x = some c → X.env.cells.lookup y = some c → x = y
  has : ∀ x, (X.env.kindOf x = some .cell ∨ X.env.kindOf x = some .free) → ∃ c, X.env.cells.lookup x = some c
  cab : ∀ x c, X.fn x = true → X.env.cells.lookup x = some c → X.s₀.heap.objs.size ≤ c
  hd : X.calm = true → X.A.handled = none
  frames : X.A.frames = some X.stack
  stk : X.stack = X.outer ∨ (X.stack = X.env :: X.outer ∧ X.env.frame = some X.env.locals)
  exf : ∀ b ∈ X.ex, b ≠ X.env.locals ∧ ∀ x c, X.env.cells.lookup x = some c → c ≠ b
  bs : ∀ b o, X.base.get? b = some o → X.s₀.heap.get? b = some o ∧ X.H₀ b = none
  bsz : X.base.objs.size ≤ X.s₀.heap.objs.size
  noex : ∀ b o, X.base.get? b = some o → b ∉ X.ex
  exfs : ∀ b ∈ X.ex, b ∉ X.fs
  funs : X.s₀.heap.FunFrames X.base X.outer
  frf : ∀ b ∈ X.fs, X.H₀ b = none

structure Inv (X : Cx) (pins : List (Addr × Obj)) (σ : List (Option V)) (H : Hp) (s : Shared) : Prop where
  ok : X.Ok
  os : s.os = X.s₀.os
  bare : AllBare s.gens
  base : Un X.fs X.ex X.H₀ H X.s₀.heap s.heap
  loc : ∃ m, s.heap.Ns X.env.locals m ∧ ∀ (i : Nat) (x : Str) (v : V), X.N[i]? = some x → σ[i]? = some (some v) → Vis X.env.scope x → ∃ u, RelV v u ∧ Look X.env s.heap m x u
  cell : ∀ x c, X.env.cells.lookup x = some c → ∃ v, s.heap.IsCell c v
  free : H X.env.locals = none
  freeC : ∀ x c, X.env.cells.lookup x = some c → H c = none
  pin : ∀ p ∈ X.pn ++ pins, s.heap.get? p.1 = some p.2 ∧ H p.1 = none ∧ p.1 ≠ X.env.locals ∧ p.1 ∉ X.fs ∧ ∀ v, p.2.data ≠ .cell v
  hok : HOk X.prog X.w H s.heap
  len : σ.length = X.N.length

section
variable {X : Cx} {pins : List (Addr × Obj)} {σ : List (Option V)} {H H' : Hp} {s : Shared} {h' : Heap}

theorem Cx.Ok.nofr (ok : X.Ok) {b : Addr} {o : Obj} (e : X.base.get? b = some o) : b ∉ X.fs := fun hb => by
  have := (ok.funs.mem hb).1
  rw [e] at this; cases this
theorem Inv.bs (I : Inv X pins σ H s) : ∀ b o, X.base.get? b = some o → s.heap.get? b = some o ∧ H b = none := fun b o e =>
  ⟨I.base.keep b o (I.ok.bs b o e).1 (I.ok.bs b o e).2 (I.ok.nofr e) (I.ok.noex b o e), I.base.free b o (I.ok.bs b o e).1 (I.ok.bs b o e).2 (I.ok.noex b o e)⟩
theorem Inv.bk (I : Inv X pins σ H s) : ∀ b o, X.base.get? b = some o → s.heap.get? b = some o := fun b o e => (I.bs b o e).1
theorem Inv.mod (I : Inv X pins σ H s) : Mod X.K X.mg X.base := I.ok.mod
theorem Inv.kIn (I : Inv X pins σ H s) : X.K.In s.heap := I.ok.mod.kin.keeps I.bk
theorem Inv.nolimit (I : Inv X pins σ H s) : s.heap.NoLimit := I.ok.mod.nolimit.keeps I.bk
/-- the frame over the base: for OpenK's rules (K.In X.base is I.mod.kin) -/
theorem Inv.fr (I : Inv X pins σ H s) : ∃ m, Fr X.base X.env.locals s.heap m :=
  let ⟨m, hn, _⟩ := I.loc
  ⟨m, hn, I.bk, Nat.le_trans I.ok.bsz I.ok.above⟩
theorem Inv.lt (I : Inv X pins σ H s) : X.env.locals < s.heap.objs.size := let ⟨_, hn, _⟩ := I.loc; hn.lt
theorem Inv.sz (I : Inv X pins σ H s) : X.s₀.heap.objs.size ≤ s.heap.objs.size := Nat.le_trans I.ok.above (Nat.le_of_lt I.lt)
theorem Inv.nofs (I : Inv X pins σ H s) {a : Addr} (h : s.heap.objs.size ≤ a) : a ∉ X.fs := fun hb => by
  obtain ⟨_, o, ho, _⟩ := I.ok.funs.mem hb
  exact absurd (Nat.lt_of_lt_of_le (Heap.lt_size ho) (Nat.le_trans I.sz h)) (Nat.lt_irrefl _)
theorem Inv.cne (I : Inv X pins σ H s) : ∀ x c, X.env.cells.lookup x = some c → c ≠ X.env.locals := fun x c e z => by
  obtain ⟨v, o, ho, hd⟩ := I.cell x c e
  obtain ⟨m, ⟨o', es, ep, ho', hd', _⟩, _⟩ := I.loc
  rw [z, ho'] at ho; cases ho; rw [hd'] at hd; cases hd
theorem Inv.funs (I : Inv X pins σ H s) : s.heap.FunFrames X.base X.outer := by
  have all : ∀ (l : List Env), (∀ b ∈ frs l, b ∈ X.fs) → X.s₀.heap.FunFrames X.base l → s.heap.FunFrames X.base l := by
    intro l
    induction l with
    | nil => intro _ _; trivial
    | cons env r ih =>
      intro hs hl
      obtain ⟨hk, ⟨L, o, hf, hn, ho, hd⟩, hr⟩ := hl
      have hL : L ∈ X.fs := hs L (by unfold frs; rw [List.filterMap_cons, hf]; exact List.mem_cons_self)
      obtain ⟨sl, e⟩ := I.base.slot L o ho (I.ok.frf L hL) hL fun z => I.ok.exfs L z hL
      exact ⟨hk, ⟨L, _, hf, hn, e, hd⟩, ih (fun b hb => hs b (by unfold frs; rw [List.filterMap_cons, hf]; exact List.mem_cons_of_mem _ hb)) hr⟩
  exact all X.outer (fun _ hb => hb) I.ok.funs

/-- the frames that run, for a call -/
theorem Inv.stack (I : Inv X pins σ H s) : s.heap.FunFrames X.base X.stack := by
  rcases I.ok.stk with e | ⟨e, hf⟩
  · rw [e]; exact I.funs
  · rw [e]
    obtain ⟨m, hn, _⟩ := I.loc
    refine .cons (by rw [I.ok.kind]; decide) hf hn ?_ I.funs
    exact Heap.get?_none_of_le (Nat.le_trans I.ok.bsz I.ok.above)
theorem Inv.stkSub (I : Inv X pins σ H s) : ∀ b ∈ frs X.stack, b ∈ X.env.locals :: X.fs := fun b hb => by
  rcases I.ok.stk with e | ⟨e, hf⟩
  · rw [e] at hb; exact List.mem_cons_of_mem _ hb
  · rw [e] at hb
    unfold frs at hb
    rw [List.filterMap_cons, hf] at hb
    exact hb
theorem Inv.stkFree (I : Inv X pins σ H s) : ∀ b ∈ frs X.stack, H b = none := fun b hb => by
  rcases List.mem_cons.mp (I.stkSub b hb) with e | hb
  · rw [e]; exact I.free
  · obtain ⟨_, o, ho, _⟩ := I.ok.funs.mem hb
    exact I.base.free b o ho (I.ok.frf b hb) fun z => I.ok.exfs b z hb

/-- THE STEP: the untracked objects but the frame and the records at ch are kept (the callers' frames up to slots), the frame's map is kept, the new abstract heap is held -/
theorem Inv.step {g' : Array GenState} {t' : Nat} {d' : Drawn} {ch : List Addr} (I : Inv X pins σ H s)
    (hch : ∀ b ∈ ch, (b ∈ X.ex ∨ X.s₀.heap.objs.size ≤ b) ∧ b ≠ X.env.locals ∧ (∀ x c, X.env.cells.lookup x = some c → c ≠ b) ∧ ∀ p ∈ X.pn ++ pins, p.1 ≠ b)
    (keep : ∀ b o, b ≠ X.env.locals → b ∉ X.fs → b ∉ ch → s.heap.get? b = some o → H b = none → h'.get? b = some o)
    (slot : ∀ b o, b ≠ X.env.locals → b ∈ X.fs → b ∉ ch → s.heap.get? b = some o → H b = none → ∃ sl, h'.get? b = some { o with slots := sl }) (free : ∀ b o, b ∉ ch → s.heap.get? b = some o → H b = none → H' b = none)
    (there : ∀ b o, b ∉ ch → s.heap.get? b = some o → ∃ o', h'.get? b = some o')
    (tups : ∀ b xs, H b = some (.tup xs) → H' b = some (.tup xs)) (frzs : ∀ b o u, H b = some (.frz o u) → H' b = some (.frz o u)) (tbls : ∀ b ps, H b = some (.tbl ps) → ∃ more, H' b = some (.tbl (ps ++ more)))
    (ns : ∀ m, s.heap.Ns X.env.locals m → h'.Ns X.env.locals m) (hok : HOk X.prog X.w H' h') (hg : AllBare g') :
    Inv X pins σ H' { s with heap := h', gens := g', drawn := d', toks := t' } := by
  have neL : ∀ b o, X.s₀.heap.get? b = some o → b ≠ X.env.locals := fun b o e => Nat.ne_of_lt (Nat.lt_of_lt_of_le (Heap.lt_size e) I.ok.above)
  have neC : ∀ b o, X.s₀.heap.get? b = some o → b ∉ X.ex → b ∉ ch := fun b o e hx hb => by
    rcases (hch b hb).1 with z | z
    · exact hx z
    · exact absurd (Nat.lt_of_lt_of_le (Heap.lt_size e) z) (Nat.lt_irrefl _)
  have cellK : ∀ x c, X.env.cells.lookup x = some c → ∀ v, s.heap.IsCell c v → h'.IsCell c v := fun x c e v ⟨o, ho, hd⟩ => by
    have nch : c ∉ ch := fun z => (hch c z).2.2.1 x c e rfl
    by_cases hc : c ∈ X.fs
    · obtain ⟨sl, q⟩ := slot c o (I.cne x c e) hc nch ho (I.freeC x c e)
      exact ⟨_, q, hd⟩
    · exact ⟨o, keep c o (I.cne x c e) hc nch ho (I.freeC x c e), hd⟩
  refine ⟨I.ok, I.os, hg, ⟨fun b o e n hb hx => ?_, fun b o e n hb hx => ?_, fun b o e n hx => ?_, fun b o e hx => ?_, fun b xs e => tups b xs (I.base.tups b xs e), fun b o xs e => frzs b o xs (I.base.frzs b o xs e), fun b ps e => ?_⟩, ?_, fun x c e => ?_, ?_, fun x c e => ?_, fun p hp => ?_, hok, I.len⟩
  · exact keep b o (neL b o e) hb (neC b o e hx) (I.base.keep b o e n hb hx) (I.base.free b o e n hx)
  · obtain ⟨sl, e1⟩ := I.base.slot b o e n hb hx
    obtain ⟨sl', e2⟩ := slot b _ (neL b o e) hb (neC b o e hx) e1 (I.base.free b o e n hx)
    exact ⟨sl', e2⟩
  · obtain ⟨o', e1⟩ := I.base.there b o e hx
    exact free b o' (neC b o e hx) e1 (I.base.free b o e n hx)
  · obtain ⟨o', e1⟩ := I.base.there b o e hx
    exact there b o' (neC b o e hx) e1
  · obtain ⟨m1, e1⟩ := I.base.tbls b ps e
    obtain ⟨m2, e2⟩ := tbls b _ e1
    exact ⟨m1 ++ m2, by rw [e2, Array.append_assoc]⟩
  · obtain ⟨m, hn, hl⟩ := I.loc
    refine ⟨m, ns m hn, fun i x v e1 e2 e3 => ?_⟩
    obtain ⟨u, r, l⟩ := hl i x v e1 e2 e3
    refine ⟨u, r, ?_⟩
    rcases l with l | ⟨k, c, e, z⟩
    · exact .inl l
    · exact .inr ⟨k, c, e, cellK x c e _ z⟩
  · obtain ⟨v, z⟩ := I.cell x c e
    exact ⟨v, cellK x c e v z⟩
  · obtain ⟨m, ⟨o, _, _, ho, _⟩, _⟩ := I.loc
    exact free _ o (fun z => (hch _ z).2.1 rfl) ho I.free
  · obtain ⟨v, o, ho, hd⟩ := I.cell x c e
    exact free c o (fun z => (hch c z).2.2.1 x c e rfl) ho (I.freeC x c e)
  · obtain ⟨e, n, ne, nf, d⟩ := I.pin p hp
    have nch : p.1 ∉ ch := fun z => (hch p.1 z).2.2.2 p hp rfl
    exact ⟨keep p.1 p.2 ne nf nch e n, free p.1 p.2 nch e n, ne, nf, d⟩
/-- .. where the frame's own object is kept too -/
theorem Inv.un {t' : Nat} (I : Inv X pins σ H s) (u : Un X.fs [] H H' s.heap h') (hok : HOk X.prog X.w H' h') : Inv X pins σ H' { s with heap := h', toks := t' } := by
  obtain ⟨m, ⟨o, es, ep, ho, r⟩, _⟩ := id I.loc
  obtain ⟨sl, hL⟩ := u.any ho I.free (by simp)
  exact I.step (g' := s.gens) (d' := s.drawn) (ch := []) (fun _ z => nomatch z) (fun b o _ hb _ e n => u.keep b o e n hb (by simp)) (fun b o _ hb _ e n => u.slot b o e n hb (by simp)) (fun b o _ e n => u.free b o e n (by simp)) (fun b o _ e => u.there b o e (by simp)) u.tups u.frzs u.tbls (fun m' hm => by
    obtain ⟨o', es', ep', ho', r'⟩ := hm
    rw [ho] at ho'; cases ho'
    exact ⟨_, es', ep', hL, r'⟩) hok I.bare
/-- behind a call (or a comprehension's block): the slots of this frame may have changed too, the records at ch may have turned -/
theorem Inv.call {g' : Array GenState} {t' : Nat} {d' : Drawn} {ch : List Addr} (I : Inv X pins σ H s) (u : Un (frs X.stack) ch H H' s.heap h') (hok : HOk X.prog X.w H' h') (hg : AllBare g')
    (hch : ∀ b ∈ ch, (b ∈ X.ex ∨ X.s₀.heap.objs.size ≤ b) ∧ b ≠ X.env.locals ∧ (∀ x c, X.env.cells.lookup x = some c → c ≠ b) ∧ ∀ p ∈ X.pn ++ pins, p.1 ≠ b) :
    Inv X pins σ H' { s with heap := h', gens := g', drawn := d', toks := t' } := by
  obtain ⟨m, ⟨o, es, ep, ho, r⟩, _⟩ := id I.loc
  obtain ⟨sl, hL⟩ := u.any ho I.free fun z => (hch _ z).2.1 rfl
  exact I.step (ch := ch) hch (fun b o hL hb hc e n => u.keep b o e n (fun z => (List.mem_cons.mp (I.stkSub b z)).elim hL hb) hc) (fun b o _ _ hc e n => u.any e n hc) (fun b o hc e n => u.free b o e n hc) (fun b o hc e => u.there b o e hc) u.tups u.frzs u.tbls (fun m' hm => by
    obtain ⟨o', es', ep', ho', r'⟩ := hm
    rw [ho] at ho'; cases ho'
    exact ⟨_, es', ep', hL, r'⟩) hok hg
/-- an untracked record of ours (an iterator) has turned -/
theorem Inv.turned {t' : Nat} {it : Addr} (I : Inv X pins σ H s) (k : ∀ b o, b ≠ it → s.heap.get? b = some o → h'.get? b = some o) (hn : H it = none) (hL : it ≠ X.env.locals)
    (h1 : it ∈ X.ex ∨ X.s₀.heap.objs.size ≤ it) (h2 : ∀ x c, X.env.cells.lookup x = some c → c ≠ it) (h3 : ∀ p ∈ X.pn ++ pins, p.1 ≠ it) : Inv X pins σ H { s with heap := h', toks := t' } := by
  have nit : ∀ b u, H b = some u → b ≠ it := fun b u e z => by rw [z, hn] at e; cases e
  refine I.step (g' := s.gens) (d' := s.drawn) (ch := [it]) (fun b hb => ?_) (fun b o _ _ hc e _ => k b o (fun z => hc (by simp [z])) e) (fun b o _ _ hc e _ => ⟨o.slots, k b o (fun z => hc (by simp [z])) e⟩) (fun _ _ _ _ n => n)
    (fun b o hc e => ⟨o, k b o (fun z => hc (by simp [z])) e⟩) (fun _ _ e => e) (fun _ _ _ e => e) (fun b ps e => ⟨#[], by rw [e]; simp⟩) (fun m hm => ?_) (fun b u e => ?_) I.bare
  · have e : b = it := by simpa using hb
    subst e
    exact ⟨h1, hL, h2, h3⟩
  · obtain ⟨o, es, ep, ho, r⟩ := hm
    exact ⟨o, es, ep, k _ o (Ne.symm hL) ho, r⟩
  · refine (I.hok b u e).stay (fun c v hc q => k c v ?_ q) (fun _ q => q) fun _ _ q => q
    rcases hc with z | z
    · rw [z]; exact nit b u e
    · exact nit c _ z
theorem Inv.tok (I : Inv X pins σ H s) (t : Nat) : Inv X pins σ H { s with toks := t } := I.un (h' := s.heap) (t' := t) Un.refl I.hok
/-- all objects kept -/
theorem Inv.kept {t' : Nat} (I : Inv X pins σ H s) (k : ∀ b u, s.heap.get? b = some u → h'.get? b = some u) : Inv X pins σ H { s with heap := h', toks := t' } := I.un (Un.kept k) (I.hok.kept k)
/-- a new object laid and tracked -/
theorem Inv.laid {a : Addr} {o : HO} {t' : Nat} (I : Inv X pins σ H s) (k : ∀ b u, s.heap.get? b = some u → h'.get? b = some u) (hp : s.heap.objs.size ≤ a) (new : ObjOk X.prog X.w (upd H a o) h' a o) :
    Inv X pins σ (upd H a o) { s with heap := h', toks := t' } := I.un (Un.laid k hp (I.hok.fresh hp)) (I.hok.laid k hp new)
/-- an object written -/
theorem Inv.write {x e : Addr} {o : HO} {t' : Nat} (I : Inv X pins σ H s) (mu : Mut (H x)) (he : e = x ∨ H e = some (.own x)) (k : ∀ b u, b ≠ e → s.heap.get? b = some u → h'.get? b = some u) (heo : ∃ u, h'.get? e = some u)
    (new : ObjOk X.prog X.w (upd H x o) h' x o) : Inv X pins σ (upd H x o) { s with heap := h', toks := t' } := I.un (Un.write mu he k heo) (I.hok.write mu he k heo new)
/-- forgetting slots, pins -/
theorem Inv.weak {σ' : List (Option V)} (I : Inv X pins σ H s) (hl : σ'.length = σ.length) (w : ∀ (i : Nat) v, σ'[i]? = some (some v) → σ[i]? = some (some v)) : Inv X pins σ' H s :=
  ⟨I.ok, I.os, I.bare, I.base, let ⟨m, hn, hl'⟩ := I.loc; ⟨m, hn, fun i x v e1 e2 e3 => hl' i x v e1 (w i v e2) e3⟩, I.cell, I.free, I.freeC, I.pin, I.hok, hl.trans I.len⟩
theorem Inv.pins_of {pins' : List (Addr × Obj)} (I : Inv X pins σ H s) (h : ∀ p ∈ pins', s.heap.get? p.1 = some p.2 ∧ H p.1 = none ∧ p.1 ≠ X.env.locals ∧ p.1 ∉ X.fs ∧ ∀ v, p.2.data ≠ .cell v) : Inv X pins' σ H s :=
  ⟨I.ok, I.os, I.bare, I.base, I.loc, I.cell, I.free, I.freeC, fun p hp => (List.mem_append.mp hp).elim (fun z => I.pin p (List.mem_append_left _ z)) (h p), I.hok, I.len⟩

theorem nodup_ix {N : List Str} (hN : N.Nodup) {i j : Nat} {x : Str} (a : N[i]? = some x) (b : N[j]? = some x) : i = j := by
  obtain ⟨h1, e1⟩ := List.getElem?_eq_some_iff.mp a
  obtain ⟨h2, e2⟩ := List.getElem?_eq_some_iff.mp b
  exact (List.getElem_inj hN).mp (e1.trans e2.symm)

/-- a name is stored; what changed -/
theorem store_ok2 {M : Model} {A : Around} {E : Value → Shared → Prop} {i : Nat} {x : Str} {v : V} {u : Value} {Q : Unit → Shared → Prop} (I : Inv X pins σ H s) (hN : X.N.Nodup) (hi : X.N[i]? = some x) (hx : Loc X.env.scope x) (r : RelV v u)
    (h : ∀ s', Inv X pins (σ.set i (some v)) H s' → (∃ a, Heap.SameBut a s.heap s'.heap ∧ (a = X.env.locals ∨ X.env.cells.lookup x = some a)) → Q () s') (hf : X.fn x = true ∨ X.env.scope.names.lookup x = some .local := by first | exact .inl rfl | exact .inr rfl | assumption) : wpAny M A (storeName X.env x u) Q E s := by
  obtain ⟨m, hn, hl⟩ := id I.loc
  have hcls : (X.env.scope.kind == .class || (X.env.scope.kind == .module && X.env.locals != X.env.globals)) = false := by rw [I.ok.kind]; rfl
  have hiσ : i < σ.length := by rw [I.len]; exact (List.getElem?_eq_some_iff.mp hi).1
  have cne := I.cne
  have tracked : ∀ {a : Addr} {h' : Heap}, (∃ o, s.heap.get? a = some o ∧ H a = none) → Heap.SameBut a s.heap h' → HOk X.prog X.w H h' := fun {a h'} ha hs b ob e => by
    obtain ⟨_, _, hfree⟩ := ha
    refine (I.hok b ob e).stay (fun c w' hc q => (hs.2 c ?_).trans q) (fun _ q => q) fun _ _ q => q
    rintro rfl
    rcases hc with rfl | hc
    · rw [hfree] at e; cases e
    · rw [hfree] at hc; cases hc
  rcases hx with hk | hk
  · refine wpAny_storeName_local hk hn (fun h' hn' hs => ?_) hcls
    obtain ⟨oL, _, _, hoL, _⟩ := id hn
    refine h _ ⟨I.ok, I.os, I.bare, ⟨fun b o e n hb hx => ?_, fun b o e n hb hx => ?_, I.base.free, fun b o e hx => ?_, I.base.tups, I.base.frzs, I.base.tbls⟩, ⟨_, hn', fun j y v' e1 e2 e3 => ?_⟩, fun y c e => ?_, I.free, I.freeC, fun p hp => ?_, tracked ⟨oL, hoL, I.free⟩ hs, by simpa using I.len⟩ ⟨_, hs, .inl rfl⟩
    · exact (hs.2 b (Nat.ne_of_lt (Nat.lt_of_lt_of_le (Heap.lt_size e) I.ok.above))).trans (I.base.keep b o e n hb hx)
    · obtain ⟨sl, e1⟩ := I.base.slot b o e n hb hx
      exact ⟨sl, (hs.2 b (Nat.ne_of_lt (Nat.lt_of_lt_of_le (Heap.lt_size e) I.ok.above))).trans e1⟩
    · obtain ⟨o', e1⟩ := I.base.there b o e hx
      exact ⟨o', (hs.2 b (Nat.ne_of_lt (Nat.lt_of_lt_of_le (Heap.lt_size e) I.ok.above))).trans e1⟩
    · by_cases hj : j = i
      · subst hj
        rw [hi] at e1; cases e1
        rw [List.getElem?_set_self hiσ] at e2
        cases e2
        exact ⟨u, r, .inl ⟨hk, by simp⟩⟩
      · rw [List.getElem?_set_ne (Ne.symm hj)] at e2
        obtain ⟨u', r', q⟩ := hl j y v' e1 e2 e3
        refine ⟨u', r', ?_⟩
        rcases q with ⟨k, e⟩ | ⟨k, c, e, z⟩
        · refine .inl ⟨k, ?_⟩
          have : y ≠ x := fun e => hj (nodup_ix hN e1 (e ▸ hi))
          simp [this, e]
        · exact .inr ⟨k, c, e, z.sameBut hs (cne y c e)⟩
    · obtain ⟨w', z⟩ := I.cell y c e
      exact ⟨w', z.sameBut hs (cne y c e)⟩
    · obtain ⟨e, n, ne, nf, d⟩ := I.pin p hp
      exact ⟨(hs.2 p.1 ne).trans e, n, ne, nf, d⟩
  · have hfn : X.fn x = true := by
      rcases hf with z | z
      · exact z
      · rw [z] at hk; cases hk
    obtain ⟨c, hc⟩ := I.ok.has x (.inl hk)
    obtain ⟨w', z⟩ := I.cell x c hc
    refine wpAny_storeName_cell I.ok.kind hk hc z (fun h' hc' hs => ?_)
    obtain ⟨oc, hoc, hocd⟩ := id z
    refine h { s with heap := h' } ⟨I.ok, I.os, I.bare, ⟨fun b o e n hb hx => ?_, fun b o e n hb hx => ?_, I.base.free, fun b o e hx => ?_, I.base.tups, I.base.frzs, I.base.tbls⟩, ⟨m, hn.sameBut hs (Ne.symm (cne x c hc)), fun j y v' e1 e2 e3 => ?_⟩, fun y c' e => ?_, I.free, I.freeC, fun p hp => ?_, tracked ⟨oc, hoc, I.freeC x c hc⟩ hs, by simpa using I.len⟩ ⟨c, hs, .inr hc⟩
    · exact (hs.2 b (Nat.ne_of_lt (Nat.lt_of_lt_of_le (Heap.lt_size e) (I.ok.cab x c hfn hc)))).trans (I.base.keep b o e n hb hx)
    · obtain ⟨sl, e1⟩ := I.base.slot b o e n hb hx
      exact ⟨sl, (hs.2 b (Nat.ne_of_lt (Nat.lt_of_lt_of_le (Heap.lt_size e) (I.ok.cab x c hfn hc)))).trans e1⟩
    · obtain ⟨o', e1⟩ := I.base.there b o e hx
      exact ⟨o', (hs.2 b (Nat.ne_of_lt (Nat.lt_of_lt_of_le (Heap.lt_size e) (I.ok.cab x c hfn hc)))).trans e1⟩
    · by_cases hj : j = i
      · subst hj
        rw [hi] at e1; cases e1
        rw [List.getElem?_set_self hiσ] at e2
        cases e2
        exact ⟨u, r, .inr ⟨.inl hk, c, hc, hc'⟩⟩
      · rw [List.getElem?_set_ne (Ne.symm hj)] at e2
        obtain ⟨u', r', q⟩ := hl j y v' e1 e2 e3
        refine ⟨u', r', ?_⟩
        rcases q with q | ⟨k, c', e, z'⟩
        · exact .inl q
        · refine .inr ⟨k, c', e, z'.sameBut hs ?_⟩
          rintro rfl
          exact hj (nodup_ix hN e1 (I.ok.inj _ _ _ e hc ▸ hi))
    · by_cases hcc : c' = c
      · subst hcc; exact ⟨_, hc'⟩
      · obtain ⟨w2, z2⟩ := I.cell y c' e
        exact ⟨w2, z2.sameBut hs hcc⟩
    · obtain ⟨e, n, ne, nf, d⟩ := I.pin p hp
      refine ⟨(hs.2 p.1 ?_).trans e, n, ne, nf, d⟩
      intro q
      rw [q, hoc] at e
      have q' : oc = p.2 := Option.some.inj e
      exact d w' (by rw [← q']; exact hocd)
theorem store_ok {M : Model} {A : Around} {E : Value → Shared → Prop} {i : Nat} {x : Str} {v : V} {u : Value} {Q : Unit → Shared → Prop} (I : Inv X pins σ H s) (hN : X.N.Nodup) (hi : X.N[i]? = some x) (hx : Loc X.env.scope x) (r : RelV v u)
    (h : ∀ s', Inv X pins (σ.set i (some v)) H s' → Q () s') (hf : X.fn x = true ∨ X.env.scope.names.lookup x = some .local := by first | exact .inl rfl | exact .inr rfl | assumption) : wpAny M A (storeName X.env x u) Q E s :=
  store_ok2 I hN hi hx r (fun s' I' _ => h s' I') hf
/-- behind a call or a block, the state as it is -/
theorem Inv.call' {s' : Shared} {ch : List Addr} (I : Inv X pins σ H s) (ho : s'.os = s.os) (u : Un (frs X.stack) ch H H' s.heap s'.heap) (hok : HOk X.prog X.w H' s'.heap) (hg : AllBare s'.gens)
    (hch : ∀ b ∈ ch, (b ∈ X.ex ∨ X.s₀.heap.objs.size ≤ b) ∧ b ≠ X.env.locals ∧ (∀ x c, X.env.cells.lookup x = some c → c ≠ b) ∧ ∀ p ∈ X.pn ++ pins, p.1 ≠ b) : Inv X pins σ H' s' := by
  obtain ⟨h', g', d', t', o'⟩ := s'
  have e : o' = s.os := ho
  subst e
  exact I.call (g' := g') (t' := t') (d' := d') u hok hg hch
end

/-! ### the judgements -/
/-- an exception: its class, its own dict's address (where it has one), the abstract heap behind it -/
abbrev XK := Value → Option Addr → Hp → Prop
abbrev St := List (Option V)
abbrev VK := V → Hp → Prop
/-- an expression's reading; a test's; an argument list's -/
abbrev TE := St → Hp → VK → Prop
abbrev TT := St → Hp → (Bool → Hp → Prop) → Prop
abbrev TA := St → Hp → (List V → Hp → Prop) → Prop
/-- what is wanted behind a statement -/
structure Ends where
  nx : St → Hp → Prop
  rt : VK
  bk : St → Hp → Prop := fun _ _ => False
  ct : St → Hp → Prop := fun _ _ => False
abbrev TS := Ends → St → Hp → Prop

def EP (X : Cx) (pins : List (Addr × Obj)) (σ : St) (Q : VK) (u : Value) (s' : Shared) : Prop := ∃ v H', Inv X pins σ H' s' ∧ RelV v u ∧ Q v H'
def TP (X : Cx) (pins : List (Addr × Obj)) (σ : St) (Q : Bool → Hp → Prop) (b : Bool) (s' : Shared) : Prop := ∃ H', Inv X pins σ H' s' ∧ Q b H'
def AP (X : Cx) (pins : List (Addr × Obj)) (σ : St) (Q : List V → Hp → Prop) (us : List Value) (s' : Shared) : Prop := ∃ vs H', Inv X pins σ H' s' ∧ Vals vs us ∧ Q vs H'
def SP (X : Cx) (pins : List (Addr × Obj)) (D : Ends) (f : Flow) (s' : Shared) : Prop :=
  match f with
  | .next => ∃ σ' H', Inv X pins σ' H' s' ∧ D.nx σ' H'
  | .brk => ∃ σ' H', Inv X pins σ' H' s' ∧ D.bk σ' H'
  | .cont => ∃ σ' H', Inv X pins σ' H' s' ∧ D.ct σ' H'
  | .ret u => ∃ v σ' H', Inv X pins σ' H' s' ∧ RelV v u ∧ D.rt v H'

def PE (X : Cx) (e : Expr) (t : TE) : Prop :=
  ∀ (pins : List (Addr × Obj)) (s : Shared) (σ : St) (H : Hp) (Q : VK), Inv X pins σ H s → t σ H Q → wpAny (model X.prog X.w) X.A (eval e X.env) (EP X pins σ Q) X.xe s
def PT (X : Cx) (e : Expr) (t : TT) : Prop :=
  ∀ (pins : List (Addr × Obj)) (s : Shared) (σ : St) (H : Hp) (Q : Bool → Hp → Prop), Inv X pins σ H s → t σ H Q → wpAny (model X.prog X.w) X.A (isTrue e X.env (eval e X.env)) (TP X pins σ Q) X.xe s
/-- a test whatever its 'whole' is (and, or) -/
def PW (X : Cx) (e : Expr) (t : TT) : Prop :=
  ∀ (whole : Sem Value) (pins : List (Addr × Obj)) (s : Shared) (σ : St) (H : Hp) (Q : Bool → Hp → Prop), Inv X pins σ H s → t σ H Q → wpAny (model X.prog X.w) X.A (isTrue e X.env whole) (TP X pins σ Q) X.xe s
theorem PW.pt {X : Cx} {e : Expr} {t : TT} (h : PW X e t) : PT X e t := h _
/-- an argument list (no star), from the left -/
def PA (X : Cx) (es : List Expr) (t : TA) : Prop :=
  ∀ (pos : Pos) (pins : List (Addr × Obj)) (s : Shared) (σ : St) (H : Hp) (Q : List V → Hp → Prop), Inv X pins σ H s → t σ H Q → wpAny (model X.prog X.w) X.A (spliced (backTo pos (starEach es X.env))) (AP X pins σ Q) X.xe s
def PS (X : Cx) (st : Stmt) (t : TS) : Prop :=
  ∀ (pins : List (Addr × Obj)) (s : Shared) (σ : St) (H : Hp) (D : Ends), Inv X pins σ H s → t D σ H → wpAny (model X.prog X.w) X.A (exec st X.env) (SP X pins D) X.xe s
def PSs (X : Cx) (st : List Stmt) (t : TS) : Prop :=
  ∀ (pins : List (Addr × Obj)) (s : Shared) (σ : St) (H : Hp) (D : Ends), Inv X pins σ H s → t D σ H → wpAny (model X.prog X.w) X.A (execs st X.env) (SP X pins D) X.xe s
/-- weaken the end -/
theorem thn {α : Type} {t : Sem α} {Q Q' : α → Shared → Prop} {M : Model} {A : Around} {E : Value → Shared → Prop} {s : Shared} (h : wpAny M A t Q E s) (hQ : ∀ a s, Q a s → Q' a s) : wpAny M A t Q' E s := wpAny_mono h hQ fun _ _ x => x
end L2

namespace L2
open PySem PySem.Spec PyProof.Rows
section
variable {X : Cx}

/-- two expressions in a row -/
theorem bin {a b : Expr} {ta tb : TE} (ha : PE X a ta) (hb : PE X b tb) {pins : List (Addr × Obj)} {s : Shared} {σ : St} {H : Hp} {R : V → V → Hp → Prop} (I : Inv X pins σ H s) (h : ta σ H fun x H1 => tb σ H1 fun y H2 => R x y H2)
    {α : Type} {Q : α → Shared → Prop} {f : Value → Value → Sem α}
    (hf : ∀ v u s2 x y H2, Inv X pins σ H2 s2 → RelV x v → RelV y u → R x y H2 → wpAny (model X.prog X.w) X.A (f v u) Q X.xe s2) :
    wpAny (model X.prog X.w) X.A (eval a X.env) (fun v s₁ => wpAny (model X.prog X.w) X.A (eval b X.env) (fun u s₂ => wpAny (model X.prog X.w) X.A (f v u) Q X.xe s₂) X.xe s₁) X.xe s := by
  refine thn (ha pins s σ H _ I h) fun v s1 ⟨x, H1, I1, r1, q1⟩ => ?_
  refine thn (hb pins s1 σ H1 _ I1 q1) fun u s2 ⟨y, H2, I2, r2, q2⟩ => ?_
  exact hf v u s2 x y H2 I2 r1 r2 q2

/-! ### names and constants -/
def tVar (i : Nat) : TE := fun σ H Q => ∃ v, σ[i]? = some (some v) ∧ Q v H
def tC (v : V) : TE := fun _ H Q => Q v H
theorem pe_var {i : Nat} {x : Str} {pos : Pos} (hN : X.N[i]? = some x) (hv : Vis X.env.scope x) (hd : (x == ("__debug__" : Str)) = false := by decide) (hcd : (x == ("__classdict__" : Str)) = false := by decide) : PE X (.Name x pos) (tVar i) := by
  intro pins s σ H Q I h
  obtain ⟨v, e, h⟩ := h
  obtain ⟨m, hn, hl⟩ := I.loc
  obtain ⟨u, r, l⟩ := hl i x v hN e hv
  have fin : EP X pins σ Q u s := ⟨v, H, I, r, h⟩
  rcases l with ⟨hk, hm⟩ | ⟨hk, c, hc, hcell⟩
  · exact wpAny_Name (wpAny_loadName_local I.ok.kind hk hn hm fin) hd
  · rcases hk with hk | hk
    · exact wpAny_Name (wpAny_loadName_cell I.ok.kind hk hc hcell fin) hd
    · exact wpAny_Name (wpAny_loadName_free I.ok.kind hk hc hcell fin hcd) hd
theorem pe_int {i j pos} : PE X (.Constant (.int i) j pos) (tC (.int i)) := fun _ _ _ H _ I h => wpAny_Constant_int ⟨.int i, H, I.tok _, ⟨_, rfl⟩, h⟩
theorem pe_bl {b j pos} : PE X (.Constant (.bool b) j pos) (tC (.bl b)) := fun _ _ _ H _ I h => Constant_bool ⟨.bl b, H, I, rfl, h⟩
theorem pe_non {j pos} : PE X (.Constant .none j pos) (tC .non) := fun _ _ _ H _ I h => Constant_none ⟨.non, H, I, rfl, h⟩
theorem pe_str {x j pos} : PE X (.Constant (.str x) j pos) (tC (.str x)) := fun _ _ _ H _ I h => Calls.Constant_str ⟨.str x, H, I.tok _, ⟨_, rfl⟩, h⟩

/-- a global name of the def -/
def Gl (X : Cx) (x : Str) : Prop := X.env.kindOf x = some .globalImplicit
theorem ld_glob {E : Value → Shared → Prop} {pins : List (Addr × Obj)} {s : Shared} {σ : St} {H : Hp} {x : Str} {u : Value} {pos : Pos} {Q : Value → Shared → Prop} (I : Inv X pins σ H s) (hg : Gl X x) (hm : X.mg x = some u) (h : Q u s)
    (hd : (x == ("__debug__" : Str)) = false := by decide) : wpAny (model X.prog X.w) X.A (eval (.Name x pos) X.env) Q E s :=
  Calls.Name_function_global I.ok.kind hg (Calls.loadGlobal_global (by rw [I.ok.glob]; exact I.mod.glob.keeps I.bk) hm h) hd
theorem ld_blt {E : Value → Shared → Prop} {pins : List (Addr × Obj)} {s : Shared} {σ : St} {H : Hp} {x : Str} {u : Value} {pos : Pos} {Q : Value → Shared → Prop} (I : Inv X pins σ H s) (hg : Gl X x) (hm : X.mg x = none) (hv : bootBuiltins x = some u) (h : Q u s)
    (hn : x ≠ "__name__" := by decide) (hd : (x == ("__debug__" : Str)) = false := by decide) : wpAny (model X.prog X.w) X.A (eval (.Name x pos) X.env) Q E s := by
  obtain ⟨mb, h1, h2⟩ := I.mod.blt
  exact Calls.Name_function_global I.ok.kind hg (Calls.loadGlobal_builtin (by rw [I.ok.glob]; exact I.mod.glob.keeps I.bk) hm (by rw [I.ok.blt]; exact h1.keeps I.bk) ((h2 x hn).trans hv) h) hd
/-- a module's constant, a class, a function, as a value -/
theorem pe_glob {x : Str} {v : V} {u : Value} {pos : Pos} (hg : Gl X x) (hm : X.mg x = some u) (r : RelV v u) (hd : (x == ("__debug__" : Str)) = false := by decide) : PE X (.Name x pos) (tC v) :=
  fun _ _ _ H _ I h => ld_glob I hg hm ⟨v, H, I, r, h⟩ hd
theorem pe_bltn {x : Str} {v : V} {u : Value} {pos : Pos} (hg : Gl X x) (hm : X.mg x = none) (hv : bootBuiltins x = some u) (r : RelV v u) (hn : x ≠ "__name__" := by decide) (hd : (x == ("__debug__" : Str)) = false := by decide) : PE X (.Name x pos) (tC v) :=
  fun _ _ _ H _ I h => ld_blt I hg hm hv ⟨v, H, I, r, h⟩ hn hd

/-! ### arithmetic -/
/-- two ints -/
def t2I (ta tb : TE) (k : Int → Int → Hp → Prop) : St → Hp → Prop := fun σ H => ta σ H fun x H1 => tb σ H1 fun y H2 => ∃ i j, x = .int i ∧ y = .int j ∧ k i j H2
def tAdd (ta tb : TE) : TE := fun σ H Q => t2I ta tb (fun i j H2 => Q (.int (i + j)) H2) σ H
def tSub (ta tb : TE) : TE := fun σ H Q => t2I ta tb (fun i j H2 => Q (.int (i - j)) H2) σ H
/-- the left factor below 2^64 -/
def tMul (ta tb : TE) : TE := fun σ H Q => t2I ta tb (fun i j H2 => (-(2 ^ 64) < i ∧ i < 2 ^ 64) ∧ Q (.int (i * j)) H2) σ H
variable {a b : Expr} {ta tb : TE} {pos : Pos}
theorem pe_add (ha : PE X a ta) (hb : PE X b tb) : PE X (.BinOp a .Add b pos) (tAdd ta tb) := by
  intro pins s σ H Q I h
  refine wpAny_BinOp (bin ha hb I h fun v u s2 x y H2 I2 rx ry q => ?_)
  obtain ⟨i, j, rfl, rfl, q⟩ := q
  obtain ⟨t, rfl⟩ := rx
  obtain ⟨t', rfl⟩ := ry
  exact add_int ⟨.int _, H2, I2.tok _, ⟨_, rfl⟩, q⟩
theorem pe_sub (ha : PE X a ta) (hb : PE X b tb) : PE X (.BinOp a .Sub b pos) (tSub ta tb) := by
  intro pins s σ H Q I h
  refine wpAny_BinOp (bin ha hb I h fun v u s2 x y H2 I2 rx ry q => ?_)
  obtain ⟨i, j, rfl, rfl, q⟩ := q
  obtain ⟨t, rfl⟩ := rx
  obtain ⟨t', rfl⟩ := ry
  exact sub_int ⟨.int _, H2, I2.tok _, ⟨_, rfl⟩, q⟩
theorem pe_mul (ha : PE X a ta) (hb : PE X b tb) : PE X (.BinOp a .Mult b pos) (tMul ta tb) := by
  intro pins s σ H Q I h
  refine wpAny_BinOp (bin ha hb I h fun v u s2 x y H2 I2 rx ry q => ?_)
  obtain ⟨i, j, rfl, rfl, ⟨q1, q2⟩, q⟩ := q
  obtain ⟨t, rfl⟩ := rx
  obtain ⟨t', rfl⟩ := ry
  exact mul_int ⟨.int _, H2, I2.tok _, ⟨_, rfl⟩, q⟩ (.of_left (intBits_le_64 q1 q2))

/-! ### comparisons -/
def PC (X : Cx) (op : CmpOp) (a b : Expr) (t : TE) : Prop :=
  ∀ (pins : List (Addr × Obj)) (s : Shared) (σ : St) (H : Hp) (Q : VK), Inv X pins σ H s → t σ H Q →
    wpAny (model X.prog X.w) X.A (eval a X.env) (fun v s₁ => wpAny (model X.prog X.w) X.A (eval b X.env) (fun u s₂ => wpAny (model X.prog X.w) X.A (compareOp op v u) (EP X pins σ Q) X.xe s₂) X.xe s₁) X.xe s
theorem nobehind (b : Expr) {op : CmpOp} (h : op ≠ .In) (h2 : op ≠ .NotIn) : behindInMarks op b = false := by
  have e1 : (op == CmpOp.In) = false := by cases op <;> first | rfl | exact absurd rfl h
  have e2 : (op == CmpOp.NotIn) = false := by cases op <;> first | rfl | exact absurd rfl h2
  cases b <;> simp [behindInMarks, e1, e2]
def tCmp (p : Int → Int → Bool) (ta tb : TE) : TE := fun σ H Q => t2I ta tb (fun i j H2 => Q (.bl (p i j)) H2) σ H
abbrev tLt : TE → TE → TE := tCmp fun i j => decide (i < j)
abbrev tLe : TE → TE → TE := tCmp fun i j => decide (i ≤ j)
abbrev tGt : TE → TE → TE := tCmp fun i j => decide (j < i)
abbrev tGe : TE → TE → TE := tCmp fun i j => decide (j ≤ i)
abbrev tEqI : TE → TE → TE := tCmp fun i j => decide (i = j)
abbrev tNeI : TE → TE → TE := tCmp fun i j => !decide (i = j)
/-- a comparison of two ints, by its rule -/
theorem pc_int {op : CmpOp} {p : Int → Int → Bool} (ha : PE X a ta) (hb : PE X b tb)
    (rule : ∀ (i j : Int) (t u : Tok) (Q : Value → Shared → Prop) (s : Shared), Q (.bool (p i j)) s → wpAny (model X.prog X.w) X.A (compareOp op (.int i t) (.int j u)) Q X.xe s) : PC X op a b (tCmp p ta tb) := by
  intro pins s σ H Q I h
  refine bin ha hb I h fun v u s2 x y H2 I2 rx ry q => ?_
  obtain ⟨i, j, rfl, rfl, q⟩ := q
  obtain ⟨t, rfl⟩ := rx
  obtain ⟨t', rfl⟩ := ry
  exact rule i j t t' _ s2 ⟨.bl _, H2, I2, rfl, q⟩
theorem pc_lt (ha : PE X a ta) (hb : PE X b tb) : PC X .Lt a b (tLt ta tb) := pc_int ha hb fun _ _ _ _ _ _ h => lt_int h
theorem pc_le (ha : PE X a ta) (hb : PE X b tb) : PC X .LtE a b (tLe ta tb) := pc_int ha hb fun _ _ _ _ _ _ h => le_int h
theorem pc_gt (ha : PE X a ta) (hb : PE X b tb) : PC X .Gt a b (tGt ta tb) := pc_int ha hb fun _ _ _ _ _ _ h => gt_int h
theorem pc_ge (ha : PE X a ta) (hb : PE X b tb) : PC X .GtE a b (tGe ta tb) := pc_int ha hb fun _ _ _ _ _ _ h => ge_int h
theorem pc_eqI (ha : PE X a ta) (hb : PE X b tb) : PC X .Eq a b (tEqI ta tb) := pc_int ha hb fun _ _ _ _ _ _ h => eq_int (by rw [Bool.beq_eq_decide_eq]; exact h)
theorem pc_neI (ha : PE X a ta) (hb : PE X b tb) : PC X .NotEq a b (tNeI ta tb) := pc_int ha hb fun _ _ _ _ _ _ h => ne_int (by rw [bne, Bool.beq_eq_decide_eq]; exact h)
/-- is None -/
def tIsN (ta : TE) : TE := fun σ H Q => ta σ H fun x H1 => Q (.bl (decide (x = .non))) H1
def tNotN (ta : TE) : TE := fun σ H Q => ta σ H fun x H1 => Q (.bl (!decide (x = .non))) H1
theorem RelV.none_iff {x : V} {v : Value} (r : RelV x v) : (v == Value.none) = decide (x = .non) := by
  cases x with
  | non => cases r; rfl
  | bl _ => cases r; rfl
  | int _ => obtain ⟨t, rfl⟩ := r; rfl
  | str _ => obtain ⟨t, rfl⟩ := r; rfl
  | byt _ => obtain ⟨t, rfl⟩ := r; rfl
  | flt _ => obtain ⟨t, rfl⟩ := r; rfl
  | ref _ => cases r; rfl
  | ty _ => cases r; rfl
theorem pc_isN {j pos'} (ha : PE X a ta) : PC X .Is a (.Constant .none j pos') (tIsN ta) := by
  intro pins s σ H Q I h
  refine thn (ha pins s σ H _ I h) fun v s1 ⟨x, H1, I1, r1, q1⟩ => ?_
  exact Constant_none (is_none_gen ⟨.bl _, H1, I1, by rw [r1.none_iff]; rfl, q1⟩)
theorem pc_notN {j pos'} (ha : PE X a ta) : PC X .IsNot a (.Constant .none j pos') (tNotN ta) := by
  intro pins s σ H Q I h
  refine thn (ha pins s σ H _ I h) fun v s1 ⟨x, H1, I1, r1, q1⟩ => ?_
  exact Constant_none (isnot_none_gen ⟨.bl _, H1, I1, by rw [r1.none_iff]; rfl, q1⟩)
/-- a comparison as a value, as a test -/
def tB (t : TE) : TT := fun σ H Q => t σ H fun x H1 => ∃ c, x = .bl c ∧ Q c H1
theorem pe_cmp {op : CmpOp} {t : TE} (h : PC X op a b t) (h1 : behindInMarks op b = false := by first | exact nobehind _ (by decide) (by decide) | rfl) : PE X (.Compare a [op] [b] pos) t := fun pins s σ H Q I hw => wpAny_Compare1 (h pins s σ H Q I hw) h1
theorem pt_cmp {op : CmpOp} {t : TE} (h : PC X op a b t) (h1 : behindInMarks op b = false := by first | exact nobehind _ (by decide) (by decide) | rfl) : PT X (.Compare a [op] [b] pos) (tB t) := by
  intro pins s σ H Q I hw
  refine wpAny_isTrue_Compare1 (thn (h pins s σ H _ I hw) fun v s1 h1 => thn h1 fun u s2 h2 => thn h2 fun c s3 ⟨x, H1, I1, r1, q1⟩ => ?_) h1
  obtain ⟨d, rfl, q⟩ := q1
  cases r1
  exact wpAny_truthy_bool ⟨H1, I1, q⟩
/-- an expression whose value is a bool, as a test -/
theorem pt_val {e : Expr} {t : TE} (h : PE X e t) (he : ∀ whole, isTrue e X.env whole = (do let v ← whole; standAt e.pos; holding [v] (truthy v)) := by intro _; rfl) : PT X e (tB t) := by
  intro pins s σ H Q I hw
  refine isTrue_plain (thn (h pins s σ H _ I hw) fun v s1 ⟨x, H1, I1, r1, q1⟩ => ?_) (he _)
  obtain ⟨d, rfl, q⟩ := q1
  cases r1
  exact wpAny_truthy_bool ⟨H1, I1, q⟩

/-! ### and, or, not -/
variable {tA tB' : TT} {rest : List Expr}
def tAnd (t u : TT) : TT := fun σ H Q => t σ H fun c H1 => if c = true then u σ H1 Q else Q false H1
def tOr (t u : TT) : TT := fun σ H Q => t σ H fun c H1 => if c = true then Q true H1 else u σ H1 Q
def tNot (t : TT) : TT := fun σ H Q => t σ H fun c H1 => Q (!c) H1
theorem pw_and1 (ha : PT X a tA) : PW X (.BoolOp .And [a] pos) tA := by
  intro wh pins s σ H Q I h
  refine isTrue_and (thn (ha pins s σ H Q I h) fun c s1 e => ?_)
  cases c with
  | true => exact isTrue_and_nil e
  | false => exact e
theorem pw_or1 (ha : PT X a tA) : PW X (.BoolOp .Or [a] pos) tA := by
  intro wh pins s σ H Q I h
  refine isTrue_or (thn (ha pins s σ H Q I h) fun c s1 e => ?_)
  cases c with
  | false => exact isTrue_or_nil e
  | true => exact e
theorem pw_and (ha : PT X a tA) (hb : PW X (.BoolOp .And (b :: rest) pos) tB') : PW X (.BoolOp .And (a :: b :: rest) pos) (tAnd tA tB') := by
  intro wh pins s σ H Q I h
  refine isTrue_and (thn (ha pins s σ H _ I h) fun c s1 ⟨H1, I1, q1⟩ => ?_)
  cases c with
  | true => exact hb wh pins s1 σ H1 Q I1 q1
  | false => exact ⟨H1, I1, q1⟩
theorem pw_or (ha : PT X a tA) (hb : PW X (.BoolOp .Or (b :: rest) pos) tB') : PW X (.BoolOp .Or (a :: b :: rest) pos) (tOr tA tB') := by
  intro wh pins s σ H Q I h
  refine isTrue_or (thn (ha pins s σ H _ I h) fun c s1 ⟨H1, I1, q1⟩ => ?_)
  cases c with
  | true => exact ⟨H1, I1, q1⟩
  | false => exact hb wh pins s1 σ H1 Q I1 q1
theorem pt_not (ha : PT X a tA) : PT X (.UnaryOp .Not a pos) (tNot tA) := by
  intro pins s σ H Q I h
  exact isTrue_not (ha pins s σ H (fun c H1 => Q (!c) H1) I h)
/-- .. as values (bools) -/
def tAndV (ta tb : TE) : TE := fun σ H Q => ta σ H fun x H1 => ∃ c, x = .bl c ∧ if c = true then tb σ H1 Q else Q (.bl false) H1
def tOrV (ta tb : TE) : TE := fun σ H Q => ta σ H fun x H1 => ∃ c, x = .bl c ∧ if c = true then Q (.bl true) H1 else tb σ H1 Q
def tNotV (ta : TE) : TE := fun σ H Q => ta σ H fun x H1 => ∃ c, x = .bl c ∧ Q (.bl (!c)) H1
theorem pe_one {op} {t : TE} (h : PE X a t) : PE X (.BoolOp op [a] pos) t := fun pins s σ H Q I hw => BoolOp_one (h pins s σ H Q I hw)
theorem pe_and (ha : PE X a ta) (hb : PE X (.BoolOp .And (b :: rest) pos) tb) : PE X (.BoolOp .And (a :: b :: rest) pos) (tAndV ta tb) := by
  intro pins s σ H Q I h
  refine BoolOp_and (thn (ha pins s σ H _ I h) fun v s1 ⟨x, H1, I1, r1, q1⟩ => ?_)
  obtain ⟨c, rfl, q1⟩ := q1
  cases r1
  refine wpAny_truthy_bool ?_
  cases c with
  | true => exact hb pins s1 σ H1 Q I1 q1
  | false => exact ⟨.bl false, H1, I1, rfl, q1⟩
theorem pe_or (ha : PE X a ta) (hb : PE X (.BoolOp .Or (b :: rest) pos) tb) : PE X (.BoolOp .Or (a :: b :: rest) pos) (tOrV ta tb) := by
  intro pins s σ H Q I h
  refine BoolOp_or (thn (ha pins s σ H _ I h) fun v s1 ⟨x, H1, I1, r1, q1⟩ => ?_)
  obtain ⟨c, rfl, q1⟩ := q1
  cases r1
  refine wpAny_truthy_bool ?_
  cases c with
  | false => exact hb pins s1 σ H1 Q I1 q1
  | true => exact ⟨.bl true, H1, I1, rfl, q1⟩
theorem pe_not (ha : PE X a ta) : PE X (.UnaryOp .Not a pos) (tNotV ta) := by
  intro pins s σ H Q I h
  refine UnaryOp_ (thn (ha pins s σ H _ I h) fun v s1 ⟨x, H1, I1, r1, q1⟩ => ?_)
  obtain ⟨c, rfl, q1⟩ := q1
  cases r1
  exact not_of (wpAny_truthy_bool ⟨.bl (!c), H1, I1, rfl, q1⟩)
/-- a if t else b -/
def tIf (t : TT) (ta tb : TE) : TE := fun σ H Q => t σ H fun c H1 => if c = true then ta σ H1 Q else tb σ H1 Q
theorem pe_ifExp {c : Expr} (hc : PT X c tA) (ha : PE X a ta) (hb : PE X b tb) : PE X (.IfExp c a b pos) (tIf tA ta tb) := by
  intro pins s σ H Q I h
  refine wpAny_IfExp (thn (hc pins s σ H _ I h) fun d s1 ⟨H1, I1, q1⟩ => ?_)
  cases d with
  | true => exact ha pins s1 σ H1 Q I1 q1
  | false => exact hb pins s1 σ H1 Q I1 q1
end
end L2

namespace L2
open PySem PySem.Spec PyProof.Rows

/-! ### a list, a tuple that is read: tracked, frozen, or an object of the module -/
def SqL (K : PySem.W.Frag) (H : Hp) (a : Addr) (xs : List V) : Prop :=
  Rd H a (.lst xs) ∨
    ∃ (o : Obj) (its : Array Value) (n : Nat), K.lookup a = some o ∧ o.cls = .type "list" ∧ o.dict = none ∧ o.data = .seq its n ∧ its.size ≤ sizeLine ∧ Vals xs its.toList
def SqT (K : PySem.W.Frag) (H : Hp) (a : Addr) (xs : List V) : Prop :=
  Rd H a (.tup xs) ∨
    ∃ (o : Obj) (its : Array Value) (n : Nat), K.lookup a = some o ∧ o.cls = .type "tuple" ∧ o.data = .seq its n ∧ its.size ≤ sizeLine ∧ Vals xs its.toList
def absV : Value → Option V
  | .none => some .non
  | .bool b => some (.bl b)
  | .int i _ => some (.int i)
  | .str x _ => some (.str x)
  | .bytes b _ => some (.byt b)
  | .float b _ => some (.flt b)
  | .ref a => some (.ref a)
  | .type n => some (.ty n)
  | _ => none
theorem RelV.abs {x : V} {u : Value} (r : RelV x u) : absV u = some x := by
  cases x with
  | non => cases r; rfl
  | bl _ => cases r; rfl
  | int _ => obtain ⟨t, rfl⟩ := r; rfl
  | str _ => obtain ⟨t, rfl⟩ := r; rfl
  | byt _ => obtain ⟨t, rfl⟩ := r; rfl
  | flt _ => obtain ⟨t, rfl⟩ := r; rfl
  | ref _ => cases r; rfl
  | ty _ => cases r; rfl
theorem RelV.inj {x y : V} {u : Value} (r : RelV x u) (q : RelV y u) : x = y := Option.some.inj (r.abs.symm.trans q.abs)
theorem Vals.inj : ∀ {xs ys : List V} {us : List Value}, Vals xs us → Vals ys us → xs = ys
  | _, _, _, .nil, .nil => rfl
  | _, _, _, .cons r t, .cons r' t' => by rw [r.inj r', Vals.inj t t']
section
variable {X : Cx} {pins : List (Addr × Obj)} {σ : St} {H : Hp} {s : Shared} {a : Addr} {xs ys : List V}
theorem SqL.of {K : PySem.W.Frag} (h : H a = some (.lst xs)) : SqL K H a xs := .inl (.inl h)
theorem SqT.of {K : PySem.W.Frag} (h : H a = some (.tup xs)) : SqT K H a xs := .inl (.inl h)
theorem Inv.list (I : Inv X pins σ H s) (h : SqL X.K H a xs) : ∃ its : List Value, Vals xs its ∧ PlainL s.heap a its.toArray ∧ xs.length ≤ sizeLine := by
  rcases h with h | ⟨o, its, n, hk, hc, hd, hs, hz, r⟩
  · obtain ⟨z, its, n, r, e⟩ := h.ok I.hok
    exact ⟨its, r, ⟨_, n, e, rfl, rfl, rfl⟩, z⟩
  · refine ⟨its.toList, r, ⟨o, n, I.kIn a o hk, hc, hd, by simpa using hs⟩, ?_⟩
    have e := r.length
    simp only [Array.length_toList] at e
    omega
theorem Inv.tuple (I : Inv X pins σ H s) (h : SqT X.K H a xs) : ∃ its : List Value, Vals xs its ∧ IsTup s.heap a its.toArray ∧ xs.length ≤ sizeLine := by
  rcases h with h | ⟨o, its, n, hk, hc, hs, hz, r⟩
  · obtain ⟨z, its, r, p⟩ := h.ok I.hok
    exact ⟨its, r, p, z⟩
  · refine ⟨its.toList, r, ⟨o, I.kIn a o hk, hc, n, by simpa using hs⟩, ?_⟩
    have e := r.length
    simp only [Array.length_toList] at e
    omega
theorem Inv.list_inj (I : Inv X pins σ H s) (h : SqL X.K H a xs) (h' : SqL X.K H a ys) : xs = ys := by
  obtain ⟨its, r, ⟨o, n, e, _, _, d⟩, _⟩ := I.list h
  obtain ⟨its', r', ⟨o', n', e', _, _, d'⟩, _⟩ := I.list h'
  rw [e] at e'; cases e'
  rw [d] at d'
  injection d' with d1 _
  have : its = its' := by simpa using congrArg Array.toList d1
  subst this
  exact r.inj r'
theorem Inv.tuple_inj (I : Inv X pins σ H s) (h : SqT X.K H a xs) (h' : SqT X.K H a ys) : xs = ys := by
  obtain ⟨its, r, ⟨o, e, _, n, d⟩, _⟩ := I.tuple h
  obtain ⟨its', r', ⟨o', e', _, n', d'⟩, _⟩ := I.tuple h'
  rw [e] at e'; cases e'
  rw [d] at d'
  injection d' with d1 _
  have : its = its' := by simpa using congrArg Array.toList d1
  subst this
  exact r.inj r'
end

/-! ### another wish about exceptions -/
abbrev Cx.wish (X : Cx) (E : Value → Shared → Prop) : Cx := { X with xe := E }
/-- no exception leaves -/
abbrev Cx.nox (X : Cx) : Cx := X.wish fun _ _ => False
theorem Cx.Ok.wish {X : Cx} (ok : X.Ok) (E : Value → Shared → Prop) : (X.wish E).Ok :=
  ⟨ok.mod, ok.kind, ok.glob, ok.blt, ok.above, ok.inj, ok.has, ok.cab, ok.hd, ok.frames, ok.stk, ok.exf, ok.bs, ok.bsz, ok.noex, ok.exfs, ok.funs, ok.frf⟩
theorem Cx.Ok.unwish {X : Cx} {E : Value → Shared → Prop} (ok : (X.wish E).Ok) : X.Ok :=
  ⟨ok.mod, ok.kind, ok.glob, ok.blt, ok.above, ok.inj, ok.has, ok.cab, ok.hd, ok.frames, ok.stk, ok.exf, ok.bs, ok.bsz, ok.noex, ok.exfs, ok.funs, ok.frf⟩
section
variable {X : Cx} {pins : List (Addr × Obj)} {σ : St} {H : Hp} {s : Shared} {E : Value → Shared → Prop}
theorem Inv.wish (I : Inv X pins σ H s) (E : Value → Shared → Prop) : Inv (X.wish E) pins σ H s := ⟨I.ok.wish E, I.os, I.bare, I.base, I.loc, I.cell, I.free, I.freeC, I.pin, I.hok, I.len⟩
theorem Inv.unwish (I : Inv (X.wish E) pins σ H s) : Inv X pins σ H s := ⟨I.ok.unwish, I.os, I.bare, I.base, I.loc, I.cell, I.free, I.freeC, I.pin, I.hok, I.len⟩
theorem SP.unwish {D : Ends} {f : Flow} {s' : Shared} (h : SP (X.wish E) pins D f s') : SP X pins D f s' := by
  cases f with
  | next => obtain ⟨σ', H', I, q⟩ := h; exact ⟨σ', H', I.unwish, q⟩
  | brk => obtain ⟨σ', H', I, q⟩ := h; exact ⟨σ', H', I.unwish, q⟩
  | cont => obtain ⟨σ', H', I, q⟩ := h; exact ⟨σ', H', I.unwish, q⟩
  | ret u => obtain ⟨v, σ', H', I, r, q⟩ := h; exact ⟨v, σ', H', I.unwish, r, q⟩
theorem PE.nox {e : Expr} {t : TE} (h : PE X.nox e t) : PE X e t := fun pins s σ H Q I hw =>
  wpAny_mono (h pins s σ H Q (I.wish _) hw) (fun _ _ ⟨v, H', I', r, q⟩ => ⟨v, H', I'.unwish, r, q⟩) fun _ _ z => False.elim z
theorem PT.nox {e : Expr} {t : TT} (h : PT X.nox e t) : PT X e t := fun pins s σ H Q I hw =>
  wpAny_mono (h pins s σ H Q (I.wish _) hw) (fun _ _ ⟨H', I', q⟩ => ⟨H', I'.unwish, q⟩) fun _ _ z => False.elim z
theorem PSs.nox {st : List Stmt} {t : TS} (h : PSs X.nox st t) : PSs X st t := fun pins s σ H D I hw =>
  wpAny_mono (h pins s σ H D (I.wish _) hw) (fun _ _ q => q.unwish) fun _ _ z => False.elim z
end

/-! ### blocks and small statements -/
section
variable {X : Cx} {st : Stmt} {rest : List Stmt} {t u : TS} {e : Expr} {te : TE} {pos : Pos}
def tNext : TS := fun D σ H => D.nx σ H
def tSeq (t u : TS) : TS := fun D σ H => t { D with nx := u D } σ H
theorem pss_nil : PSs X [] tNext := fun _ _ σ H _ I h => wpAny_execs_nil ⟨σ, H, I, h⟩
theorem pss_cons (h1 : PS X st t) (h2 : PSs X rest u) : PSs X (st :: rest) (tSeq t u) := by
  intro pins s σ H D I h
  refine wpAny_execs_cons (thn (h1 pins s σ H { D with nx := u D } I h) fun f s1 q => ?_)
  cases f with
  | next =>
    obtain ⟨σ', H', I', q⟩ := q
    exact h2 pins s1 σ' H' D I' q
  | ret v => exact q
  | brk => exact q
  | cont => exact q
theorem pss_one (h1 : PS X st t) : PSs X [st] t := by
  intro pins s σ H D I h
  refine wpAny_execs_cons (thn (h1 pins s σ H D I h) fun f s1 q => ?_)
  cases f with
  | next => exact wpAny_execs_nil q
  | ret v => exact q
  | brk => exact q
  | cont => exact q
def tBreak : TS := fun D σ H => D.bk σ H
def tCont : TS := fun D σ H => D.ct σ H
theorem ps_pass : PS X (.Pass pos) tNext := fun _ _ σ H _ I h => wpAny_Pass ⟨σ, H, I, h⟩
theorem ps_break : PS X (.Break pos) tBreak := fun _ _ σ H _ I h => wpAny_Break ⟨σ, H, I, h⟩
theorem ps_continue : PS X (.Continue pos) tCont := fun _ _ σ H _ I h => wpAny_Continue ⟨σ, H, I, h⟩
/-- in a def's body nothing is shown -/
theorem Inv.quiet {pins : List (Addr × Obj)} {σ : St} {H : Hp} {s : Shared} (I : Inv X pins σ H s) : interactive X.env = false := by simp [interactive, I.ok.kind]
/-- a docstring -/
theorem ps_doc {x j pos pos'} : PS X (.Expr (.Constant (.str x) j pos) pos') tNext := fun _ s σ H _ I h => wpAny_Expr (Calls.Constant_str (show SP X _ _ .next { s with toks := s.toks + 1 } from ⟨σ, H, I.tok _, h⟩)) I.quiet
/-- an expression whose value is dropped -/
def tDrop (te : TE) : TS := fun D σ H => te σ H fun _ H1 => D.nx σ H1
theorem ps_expr (he : PE X e te) (hs : swapsWith e none pos.line X.env = pure false := by rfl) : PS X (.Expr e pos) (tDrop te) := by
  intro pins s σ H D I h
  exact wpAny_Expr_any (thn (he pins s σ H _ I h) fun v s1 ⟨x, H1, I1, r1, q1⟩ => ⟨σ, H1, I1, q1⟩) I.quiet hs
def tRet (te : TE) : TS := fun D σ H => te σ H D.rt
theorem ps_ret (he : PE X e te) : PS X (.Return (some e) pos) (tRet te) := by
  intro pins s σ H D I h
  exact wpAny_Return_some (thn (he pins s σ H _ I h) fun v s1 ⟨x, H1, I1, r1, q1⟩ => ⟨x, σ, H1, I1, r1, q1⟩)
def tRetN : TS := fun D _ H => D.rt .non H
theorem ps_retN : PS X (.Return none pos) tRetN := fun _ _ σ H _ I h => wpAny_Return_none ⟨.non, σ, H, I, rfl, h⟩
def tIfS (c : TT) (t u : TS) : TS := fun D σ H => c σ H fun b H1 => if b = true then t D σ H1 else u D σ H1
theorem ps_if {c : Expr} {a b : List Stmt} {tc : TT} (hc : PT X c tc) (ha : PSs X a t) (hb : PSs X b u) : PS X (.If c a b pos) (tIfS tc t u) := by
  intro pins s σ H D I h
  refine wpAny_If (thn (hc pins s σ H _ I h) fun d s1 ⟨H1, I1, q1⟩ => ?_)
  cases d with
  | true => exact ha pins s1 σ H1 D I1 q1
  | false => exact hb pins s1 σ H1 D I1 q1
/-- code that the proof never comes to -/
def tNever : TS := fun _ _ _ => False
theorem ps_never : PS X st tNever := fun _ _ _ _ _ _ h => h.elim
theorem pss_never {sts : List Stmt} : PSs X sts tNever := fun _ _ _ _ _ _ h => h.elim
end

/-! ### targets -/
abbrev TG := V → St → Hp → (St → Hp → Prop) → Prop
abbrev TGs := List V → St → Hp → (St → Hp → Prop) → Prop
def PG (X : Cx) (target : Expr) (t : TG) : Prop :=
  ∀ (pins : List (Addr × Obj)) (s : Shared) (σ : St) (H : Hp) (v : V) (u : Value) (Q : St → Hp → Prop), Inv X pins σ H s → RelV v u → t v σ H Q →
    wpAny (model X.prog X.w) X.A (assign target X.env u) (fun _ s' => ∃ σ' H', Inv X pins σ' H' s' ∧ Q σ' H') X.xe s
/-- several targets, one after another -/
def PGs (X : Cx) (ts : List Expr) (t : TGs) : Prop :=
  ∀ (pins : List (Addr × Obj)) (s : Shared) (σ : St) (H : Hp) (vs : List V) (us : List Value) (Q : St → Hp → Prop), Inv X pins σ H s → Vals vs us → t vs σ H Q →
    wpAny (model X.prog X.w) X.A (assignInOrder ((assignEach ts X.env).map (·.2)) us) (fun _ s' => ∃ σ' H', Inv X pins σ' H' s' ∧ Q σ' H') X.xe s
/-- o[i] = v, by values -/
abbrev TSet := V → V → V → Hp → (Hp → Prop) → Prop
def PSet (X : Cx) (t : TSet) : Prop :=
  ∀ (pins : List (Addr × Obj)) (s : Shared) (σ : St) (H : Hp) (o i v : V) (ov iv u : Value) (Q : Hp → Prop), Inv X pins σ H s → RelV o ov → RelV i iv → RelV v u → t o i v H Q →
    wpAny (model X.prog X.w) X.A (setItem ov iv u) (fun _ s' => ∃ H', Inv X pins σ H' s' ∧ Q H') X.xe s
/-- a op= b, by values -/
abbrev TIp := V → V → Hp → VK → Prop
def PIp (X : Cx) (op : Operator) (t : TIp) : Prop :=
  ∀ (pins : List (Addr × Obj)) (s : Shared) (σ : St) (H : Hp) (x y : V) (v u : Value) (Q : VK), Inv X pins σ H s → RelV x v → RelV y u → t x y H Q →
    wpAny (model X.prog X.w) X.A (inplaceOp op v u) (EP X pins σ Q) X.xe s
section
variable {X : Cx} {pos : Pos}
def gName (i : Nat) : TG := fun v σ H Q => Q (σ.set i (some v)) H
theorem pg_name {i : Nat} {x : Str} (hN : X.N.Nodup) (hi : X.N[i]? = some x) (hx : Loc X.env.scope x) (hf : X.fn x = true ∨ X.env.scope.names.lookup x = some .local := by first | exact .inl rfl | exact .inr rfl | assumption) : PG X (.Name x pos) (gName i) := by
  intro pins s σ H v u Q I r h
  exact wpAny_assign_Name (store_ok I hN hi hx r (fun s' I' => ⟨_, H, I', h⟩) hf)
def gNil : TGs := fun vs σ H Q => vs = [] ∧ Q σ H
def gCons (t : TG) (u : TGs) : TGs := fun vs σ H Q => ∃ v r, vs = v :: r ∧ t v σ H fun σ' H' => u r σ' H' Q
theorem pgs_nil : PGs X [] gNil := by
  intro pins s σ H vs us Q I r h
  obtain ⟨e, h⟩ := h
  subst e
  cases r
  exact assignInOrder_nil ⟨σ, H, I, h⟩
theorem pgs_cons {e : Expr} {es : List Expr} {t : TG} {u : TGs} (h1 : PG X e t) (h2 : PGs X es u)
    (hs : (assignEach (e :: es) X.env).map (·.2) = assign e X.env :: (assignEach es X.env).map (·.2) := by rfl) : PGs X (e :: es) (gCons t u) := by
  intro pins s σ H vs us Q I r h
  obtain ⟨v, vr, e1, h⟩ := h
  subst e1
  cases r with
  | cons r rr =>
    rw [hs]
    refine assignInOrder_cons (thn (h1 pins s σ H _ _ _ I r h) fun _ s1 ⟨σ1, H1, I1, q1⟩ => ?_)
    exact h2 pins s1 σ1 H1 _ _ Q I1 rr q1
/-- (a, b, ..) = a tuple of that length -/
def gTup (K : PySem.W.Frag) (n : Nat) (t : TGs) : TG := fun v σ H Q => ∃ a xs, v = .ref a ∧ SqT K H a xs ∧ xs.length = n ∧ t xs σ H Q
theorem pg_tup {es : List Expr} {k : Nat} {t : TGs} {n : Nat} (hc : X.calm = true) (h : PGs X es t)
    (hn : (assignEach es X.env).length = n := by rfl) (hst : (assignEach es X.env).findIdx? (·.1) = none := by rfl) : PG X (.Tuple es k pos) (gTup X.K n t) := by
  intro pins s σ H v u Q I r hw
  obtain ⟨a, xs, e1, hq, hl, hw⟩ := hw
  subst e1
  cases r
  obtain ⟨its, rv, ht, hz⟩ := I.tuple hq
  refine assign_Tuple_tuple (I.ok.hd hc) ht (by simp [hn, ← hl, rv.length]) hst fun h' hx => ?_
  have I1 : Inv X pins σ H { s with heap := h' } := I.kept (t' := s.toks) fun b o e => hx b o (Nat.ne_of_lt (Heap.lt_size e)) e
  exact h pins _ σ H xs _ Q I1 (by simpa using rv) hw
/-- o[i] = .. -/
def gSub (to ti : TE) (t : TSet) : TG := fun v σ H Q => to σ H fun o H1 => ti σ H1 fun i H2 => t o i v H2 fun H3 => Q σ H3
theorem pg_sub {o i : Expr} {to ti : TE} {t : TSet} (ho : PE X o to) (hi : PE X i ti) (hs : PSet X t)
    (ha : ∀ v, assign (.Subscript o i pos) X.env v = (do
      let ov ← holding [v] (eval o X.env)
      let iv ← holding [v, ov] (eval i X.env)
      standAt pos
      holding [v, ov, iv] (setItem ov iv v)
      release [v, ov, iv] []) := by intro _; rfl) : PG X (.Subscript o i pos) (gSub to ti t) := by
  intro pins s σ H v u Q I r h
  rw [ha]
  refine wpAny_bind (wpAny_holding (thn (ho pins s σ H _ I h) fun ov s1 ⟨x, H1, I1, r1, q1⟩ => ?_))
  refine wpAny_bind (wpAny_holding (thn (hi pins s1 σ H1 _ I1 q1) fun iv s2 ⟨y, H2, I2, r2, q2⟩ => ?_))
  refine wpAny_bind (wpAny_standAt (wpAny_bind (wpAny_holding (thn (hs pins s2 σ H2 x y v ov iv u _ I2 r1 r2 r q2) fun _ s3 ⟨H3, I3, q3⟩ => ?_))))
  exact wpAny_release ⟨σ, H3, I3, q3⟩
/-- target = value -/
def tAsg (te : TE) (g : TG) : TS := fun D σ H => te σ H fun x H1 => g x σ H1 D.nx
theorem ps_asg {tg e : Expr} {te : TE} {g : TG} (he : PE X e te) (hg : PG X tg g) (hs : swapsWithSole [tg] e pos.line X.env = pure false := by rfl) (hw : swappedStores [tg] e X.env = pure none := by rfl)
    (h1 : (assignEach [tg] X.env).map (·.2) = [assign tg X.env] := by rfl) : PS X (.Assign [tg] e pos) (tAsg te g) := by
  intro pins s σ H D I h
  refine wpAny_Assign_stores (thn (he pins s σ H _ I h) fun v s1 ⟨x, H1, I1, r1, q1⟩ => ?_) hs hw
  rw [h1]
  exact thn (hg pins s1 σ H1 x v _ I1 r1 q1) fun _ s2 q => q
/-- name = value -/
theorem ps_set {i : Nat} {x : Str} {e : Expr} {te : TE} {pos' : Pos} (hN : X.N.Nodup) (hi : X.N[i]? = some x) (hx : Loc X.env.scope x) (he : PE X e te) (hs : swapsWith e (some (.Name x pos')) pos.line X.env = pure false := by rfl) (hf : X.fn x = true ∨ X.env.scope.names.lookup x = some .local := by first | exact .inl rfl | exact .inr rfl | assumption) :
    PS X (.Assign [.Name x pos'] e pos) (tAsg te (gName i)) := by
  intro pins s σ H D I h
  refine wpAny_Assign_Name (thn (he pins s σ H _ I h) fun v s1 ⟨y, H1, I1, r1, q1⟩ => ?_) hs
  exact store_ok I1 hN hi hx r1 (fun s2 I2 => ⟨_, H1, I2, q1⟩) hf
/-- a, b = x, y with plain local names: stored from the right; the pair itself is not tracked (the opening rows as in PyProof/Rows/TupAssign.lean:23) -/
def tPar (i j : Nat) (ta : TA) : TS := fun D σ H => ta σ H fun vs H1 => ∃ v w, vs = [v, w] ∧ D.nx ((σ.set i (some v)).set j (some w)) H1
theorem ps_par {i j : Nat} {x y : Str} {a b : Expr} {ta : TA} {px py pt : Pos} {kt k2 pt2} (hc : X.calm = true) (hN : X.N.Nodup) (hi : X.N[i]? = some x) (hj : X.N[j]? = some y) (hij : i ≠ j)
    (hx : X.env.scope.names.lookup x = some .local) (hy : X.env.scope.names.lookup y = some .local) (ha : PA X [a, b] ta)
    (hw : swappedStores [.Tuple [.Name x px, .Name y py] kt pt] (.Tuple [a, b] k2 pt2) X.env = pure (some [x, y]))
    (hs : swapsWithSole [.Tuple [.Name x px, .Name y py] kt pt] (.Tuple [a, b] k2 pt2) pos.line X.env = pure false := by rfl) :
    PS X (.Assign [.Tuple [.Name x px, .Name y py] kt pt] (.Tuple [a, b] k2 pt2) pos) (tPar i j ta) := by
  intro pins s σ H D I h
  rw [exec_Assign_arm]
  refine wpAny_bind (wpAny_standAt ?_)
  rw [hs]
  refine wpAny_bind (wpAny_pure ?_)
  rw [if_neg (by decide)]
  refine wpAny_bind (Tuple_ (thn (ha _ pins s σ H _ I h) fun us s1 ⟨vs, H1, I1, r1, q1⟩ => ?_))
  obtain ⟨v, w, e1, q1⟩ := q1
  subst e1
  obtain ⟨u1, u2, rfl, rv, rw'⟩ : ∃ u1 u2, us = [u1, u2] ∧ RelV v u1 ∧ RelV w u2 := by
    cases r1 with
    | cons p q =>
      cases q with
      | cons p' q' =>
        cases q'
        exact ⟨_, _, rfl, p, p'⟩
  refine wpAny_newObj_type ?_ (by show 2 ≤ sizeLine; decide)
  have I2 : Inv X pins σ H1 { s1 with heap := s1.heap.push { cls := .type "tuple", data := .seq [u1, u2].toArray } } := I1.kept (t' := s1.toks) fun b o e => Heap.get?_push_of_some _ e
  rw [hw]
  refine wpAny_bind (wpAny_pure ?_)
  show wpAny (model X.prog X.w) X.A (do rule "assign.swapped-stores"; let items ← unpackItems (.ref s1.heap.objs.size) 2 none; assignInOrder [fun v => bindName X.env y v, fun v => bindName X.env x v] items.reverse; pure Flow.next) _ _ _
  refine wpAny_bind (wpAny_rule (wpAny_bind (unpackItems_tuple (items := #[u1, u2]) (I.ok.hd hc) (IsTup.new s1.heap _) fun h' hx' => ?_)))
  have I3 := I2.kept (h' := h') (t' := s1.toks) fun b o e => hx' b o (Nat.ne_of_lt (Heap.lt_size e)) e
  show wpAny _ _ (assignInOrder [fun v => bindName X.env y v, fun v => bindName X.env x v] [u2, u1] >>= fun _ => pure Flow.next) _ _ _
  refine wpAny_bind (assignInOrder_cons (wpAny_bindName (store_ok I3 hN hj (.inl hy) rw' (fun s2 I4 => ?_) (.inr hy))))
  refine assignInOrder_cons (wpAny_bindName (store_ok I4 hN hi (.inl hx) rv (fun s3 I5 => assignInOrder_nil (wpAny_pure ?_)) (.inr hx)))
  rw [List.set_comm _ _ (Ne.symm hij)] at I5
  exact ⟨_, H1, I5, q1⟩
/-- name op= e -/
def tAug (i : Nat) (te : TE) (ti : TIp) : TS := fun D σ H => ∃ x, σ[i]? = some (some x) ∧ te σ H fun y H1 => ti x y H1 fun z H2 => D.nx (σ.set i (some z)) H2
theorem ps_aug {i : Nat} {x : Str} {e : Expr} {te : TE} {op : Operator} {ti : TIp} {pos' : Pos} (hN : X.N.Nodup) (hi : X.N[i]? = some x) (hx : Loc X.env.scope x) (he : PE X e te) (ho : PIp X op ti) (hf : X.fn x = true ∨ X.env.scope.names.lookup x = some .local := by first | exact .inl rfl | exact .inr rfl | assumption) :
    PS X (.AugAssign (.Name x pos') op e pos) (tAug i te ti) := by
  intro pins s σ H D I h
  obtain ⟨v, e1, h⟩ := h
  obtain ⟨m, hn, hl⟩ := I.loc
  have vis : Vis X.env.scope x := by rcases hx with k | k; exact .inl k; exact .inr (.inl k)
  obtain ⟨u, r, l⟩ := hl i x v hi e1 vis
  refine wpAny_AugAssign_Name ?_
  have go : wpAny (model X.prog X.w) X.A (eval e X.env) (fun w s₂ => wpAny (model X.prog X.w) X.A (inplaceOp op u w) (fun r s₃ => wpAny (model X.prog X.w) X.A (storeName X.env x r) (fun _ => SP X pins D .next) X.xe s₃) X.xe s₂) X.xe s := by
    refine thn (he pins s σ H _ I h) fun w s1 ⟨y, H1, I1, r1, q1⟩ => ?_
    refine thn (ho pins s1 σ H1 v y u w _ I1 r r1 q1) fun z s2 ⟨zv, H2, I2, r2, q2⟩ => ?_
    exact store_ok I2 hN hi hx r2 (fun s3 I3 => ⟨_, H2, I3, q2⟩) hf
  rcases l with ⟨hk, hm⟩ | ⟨hk, c, hc, hcell⟩
  · exact wpAny_loadName_local I.ok.kind hk hn hm go
  · rcases hk with hk | hk
    · exact wpAny_loadName_cell I.ok.kind hk hc hcell go
    · rcases hx with k | k
      · have : X.env.scope.names.lookup x = some .free := hk
        rw [k] at this; cases this
      · have : X.env.scope.names.lookup x = some .free := hk
        rw [k] at this; cases this
/-- o[i] op= e -/
def tAugS (to ti te : TE) (tget : V → V → Hp → VK → Prop) (tip : TIp) (tset : TSet) : TS := fun D σ H => to σ H fun o H1 => ti σ H1 fun i H2 => tget o i H2 fun x H3 => te σ H3 fun y H4 => tip x y H4 fun z H5 => tset o i z H5 fun H6 => D.nx σ H6
/-- o[i], by values -/
def PGet (X : Cx) (t : V → V → Hp → VK → Prop) : Prop :=
  ∀ (pins : List (Addr × Obj)) (s : Shared) (σ : St) (H : Hp) (o i : V) (ov iv : Value) (Q : VK), Inv X pins σ H s → RelV o ov → RelV i iv → t o i H Q →
    wpAny (model X.prog X.w) X.A (getItem ov iv) (EP X pins σ Q) X.xe s
theorem ps_augS {o i e : Expr} {to ti te : TE} {tget : V → V → Hp → VK → Prop} {tip : TIp} {tset : TSet} {op : Operator} {tpos : Pos} (ho : PE X o to) (hi : PE X i ti) (hg : PGet X tget) (he : PE X e te) (hp : PIp X op tip) (hs : PSet X tset)
    (ha : ∀ ov iv new, augStore i ov iv new = (do holding [new, ov, iv] (setItem ov iv new); release [new, ov, iv] []; pure .next) := by intros; rfl) : PS X (.AugAssign (.Subscript o i tpos) op e pos) (tAugS to ti te tget tip tset) := by
  intro pins s σ H D I h
  refine wpAny_AugAssign_SubscriptAny (thn (ho pins s σ H _ I h) fun ov s1 ⟨x1, H1, I1, r1, q1⟩ => ?_) ha
  refine thn (hi pins s1 σ H1 _ I1 q1) fun iv s2 ⟨x2, H2, I2, r2, q2⟩ => ?_
  refine thn (hg pins s2 σ H2 x1 x2 ov iv _ I2 r1 r2 q2) fun old s3 ⟨x3, H3, I3, r3, q3⟩ => ?_
  refine thn (he pins s3 σ H3 _ I3 q3) fun v s4 ⟨x4, H4, I4, r4, q4⟩ => ?_
  refine thn (hp pins s4 σ H4 x3 x4 old v _ I4 r3 r4 q4) fun new s5 ⟨x5, H5, I5, r5, q5⟩ => ?_
  exact thn (hs pins s5 σ H5 x1 x2 x5 ov iv new _ I5 r1 r2 r5 q5) fun _ s6 ⟨H6, I6, q6⟩ => ⟨σ, H6, I6, q6⟩
/-- ints -/
def ipI (f : Int → Int → Int) : TIp := fun x y H Q => ∃ i j, x = .int i ∧ y = .int j ∧ Q (.int (f i j)) H
theorem ip_add : PIp X .Add (ipI fun i j => i + j) := by
  intro pins s σ H x y v u Q I r1 r2 h
  obtain ⟨i, j, e1, e2, q⟩ := h
  subst e1; subst e2
  obtain ⟨t, rfl⟩ := r1
  obtain ⟨t', rfl⟩ := r2
  exact iadd_int ⟨.int _, H, I.tok _, ⟨_, rfl⟩, q⟩
theorem ip_sub : PIp X .Sub (ipI fun i j => i - j) := by
  intro pins s σ H x y v u Q I r1 r2 h
  obtain ⟨i, j, e1, e2, q⟩ := h
  subst e1; subst e2
  obtain ⟨t, rfl⟩ := r1
  obtain ⟨t', rfl⟩ := r2
  exact isub_int ⟨.int _, H, I.tok _, ⟨_, rfl⟩, q⟩
end

/-! ### while -/
section
variable {X : Cx} {pos : Pos}
/-- the invariant W with its measure -/
def tWhile (c : TT) (tb : TS) : TS := fun D σ H => ∃ W : Nat → St → Hp → Prop, (∃ m, W m σ H) ∧ ∀ m σ H, W m σ H →
  c σ H fun b H1 => if b = true then ∃ N : St → Hp → Prop, (∀ σ' H', N σ' H' → ∃ m', m' < m ∧ W m' σ' H') ∧ tb { D with nx := N, ct := N, bk := D.nx } σ H1 else D.nx σ H1
theorem ps_while {c : Expr} {body : List Stmt} {tc : TT} {tb : TS} (hp : PassesOwn (model X.prog X.w) X.A X.env X.xe) (hc : PT X c tc) (hb : PSs X body tb) : PS X (.While c body [] pos) (tWhile tc tb) := by
  intro pins s σ H D I h
  obtain ⟨W, ⟨m0, w0⟩, turn⟩ := h
  refine wpAny_While (codeAny_whileLoop (fun n s' => ∃ σ' H', Inv X pins σ' H' s' ∧ W n σ' H') ?_ m0 ⟨σ, H, I, w0⟩)
  rintro n s1 ⟨σ1, H1, I1, w1⟩
  refine wpAny_passesOwn hp (thn (hc pins s1 σ1 H1 _ I1 (turn n σ1 H1 w1)) fun b s2 ⟨H2, I2, q2⟩ => ?_)
  cases b with
  | true =>
    obtain ⟨N, hN, q2⟩ := q2
    rw [if_pos rfl]
    refine wpAny_passesOwn hp (thn (hb pins s2 σ1 H2 _ I2 q2) fun f s3 q3 => ?_)
    cases f with
    | next =>
      obtain ⟨σ3, H3, I3, n3⟩ := q3
      obtain ⟨m', hm, w3⟩ := hN σ3 H3 n3
      exact ⟨m', hm, σ3, H3, I3, w3⟩
    | cont =>
      obtain ⟨σ3, H3, I3, n3⟩ := q3
      obtain ⟨m', hm, w3⟩ := hN σ3 H3 n3
      exact ⟨m', hm, σ3, H3, I3, w3⟩
    | brk => exact q3
    | ret v => exact q3
  | false =>
    rw [if_neg Bool.false_ne_true]
    exact wpAny_execs_nil ⟨σ1, H2, I2, q2⟩
end

/-! ### what a loop or a comprehension walks -/
/-- at turn i: it yields x (the heap may grow), or it stops -/
structure It where
  go : Nat → Hp → Prop
  yld : Nat → Hp → V → Hp → Prop
  stop : Nat → Hp → Prop
/-- the iterator's own objects may turn: they are not the frame's, not pinned, younger than the entry (or a comprehension's own) -/
def FpOk (X : Cx) (pins : List (Addr × Obj)) (H : Hp) (b : Addr) : Prop :=
  H b = none ∧ b ≠ X.env.locals ∧ b ∉ X.fs ∧ (b ∈ X.ex ∨ X.s₀.heap.objs.size ≤ b) ∧ (∀ x c, X.env.cells.lookup x = some c → c ≠ b) ∧ ∀ p ∈ X.pn ++ pins, p.1 ≠ b
theorem Inv.fpOk {X : Cx} {pins : List (Addr × Obj)} {σ : St} {H H' : Hp} {s : Shared} {b : Addr} (I : Inv X pins σ H s) (hb : s.heap.objs.size ≤ b) (hn : H' b = none) : FpOk X pins H' b := by
  refine ⟨hn, Nat.ne_of_gt (Nat.lt_of_lt_of_le I.lt hb), I.nofs hb, .inr (Nat.le_trans I.sz hb), fun x c e z => ?_, fun p hp z => ?_⟩
  · obtain ⟨v, q⟩ := I.cell x c e
    exact absurd (Nat.lt_of_lt_of_le q.lt (by rw [z]; exact hb)) (Nat.lt_irrefl _)
  · exact absurd (Nat.lt_of_lt_of_le (Heap.lt_size (I.pin p hp).1) (by rw [z]; exact hb)) (Nat.lt_irrefl _)
structure Turn (P : Program) (w : World) (K : PySem.W.Frag) (tg : Expr) (J : It) (fp : List Addr) (it : Addr) (tn : Nat → Heap → Prop) : Prop where
  mem : it ∈ fp
  obj : ∀ i h, tn i h → ∀ b ∈ fp, ∃ o, h.get? b = some o ∧ ∀ v, o.data ≠ .cell v
  keep : ∀ i h h', tn i h → (∀ b ∈ fp, ∀ o, h.get? b = some o → h'.get? b = some o) → tn i h'
  item : ∀ (X : Cx), X.prog = P → X.w = w → X.K = K → X.calm = true → ∀ (i : Nat) (pins : List (Addr × Obj)) (s : Shared) (σ : St) (H : Hp) (E : Value → Shared → Prop), Inv X pins σ H s → (∀ b ∈ fp, FpOk X pins H b) → tn i s.heap → J.go i H →
    wpAny (model P w) X.A (pyNext (.ref it)) (fun r s1 => ∃ u, r = some u ∧
      wpAny (model P w) X.A (letOwnedTupleGo tg (.ref it) u) (fun _ s2 => ∃ x H', Inv X pins σ H' s2 ∧ RelV x u ∧ J.yld i H x H' ∧ tn (i + 1) s2.heap ∧ ∀ b ∈ fp, H' b = none) E s1) E s
  done : ∀ (X : Cx), X.prog = P → X.w = w → X.K = K → X.calm = true → ∀ (i : Nat) (pins : List (Addr × Obj)) (s : Shared) (σ : St) (H : Hp) (E : Value → Shared → Prop), Inv X pins σ H s → (∀ b ∈ fp, FpOk X pins H b) → tn i s.heap → J.stop i H →
    wpAny (model P w) X.A (pyNext (.ref it)) (fun r s1 => r = none ∧ Inv X pins σ H s1) E s
  self : ∀ (A : Around) (i : Nat) (s : Shared) (Q : Value → Shared → Prop) (E : Value → Shared → Prop), tn i s.heap → Q (.ref it) s → wpAny (model P w) A (pyIter (.ref it)) Q E s
abbrev TI := St → Hp → (It → Hp → Prop) → Prop
/-- an iterator has come -/
def PIE (X : Cx) (pins : List (Addr × Obj)) (σ : St) (tg : Expr) (R : It → Hp → Prop) (itv : Value) (s2 : Shared) : Prop :=
  ∃ (it : Addr) (fp : List Addr) (tn : Nat → Heap → Prop) (J : It) (H' : Hp), itv = .ref it ∧ Inv X pins σ H' s2 ∧ Turn X.prog X.w X.K tg J fp it tn ∧ tn 0 s2.heap ∧ (∀ b ∈ fp, FpOk X pins H' b) ∧ R J H'
def PI (X : Cx) (tg iter : Expr) (wi : TI) : Prop :=
  ∀ (pins : List (Addr × Obj)) (s : Shared) (σ : St) (H : Hp) (R : It → Hp → Prop), Inv X pins σ H s → wi σ H R →
    wpAny (model X.prog X.w) X.A (eval iter X.env) (fun v s1 => wpAny (model X.prog X.w) X.A (pyIter v) (PIE X pins σ tg R) X.xe s1) X.xe s

/-- the step ahead of the store is nothing for an iterator that keeps no tuple -/
theorem go_of {M : Model} {A : Around} {E : Value → Shared → Prop} {s : Shared} {tg : Expr} {it : Addr} {u : Value} {o : Obj} {n : String} {vs : Array Value} {Q : Unit → Shared → Prop} (ho : s.heap.get? it = some o) (hc : o.cls = .type n) (hd : o.data = .fields vs)
    (hn : ["enumerate", "zip", "dict_itemiterator", "dict_reverseitemiterator", "odict_iterator", "itertools.zip_longest", "itertools.pairwise"].contains n = false) (hQ : Q () s) : wpAny M A (letOwnedTupleGo tg (.ref it) u) Q E s := by
  unfold letOwnedTupleGo
  cases tg <;> first
    | exact wpAny_pure hQ
    | (cases u <;> first
        | exact wpAny_pure hQ
        | (refine wpAny_bind (wpAny_load ho ?_)
           rw [hc, hd]
           show wpAny M A (if (["enumerate", "zip", "dict_itemiterator", "dict_reverseitemiterator", "odict_iterator", "itertools.zip_longest", "itertools.pairwise"].contains n && vs[0]? == some (rawInt _)) = true then _ else _) Q E s
           rw [if_neg (by intro h; rw [hn, Bool.false_and] at h; cases h)]
           exact wpAny_pure hQ))

/-- the list at a, as it stands at each turn (a loop may append to it) -/
def Itl (K : PySem.W.Frag) (a : Addr) : It :=
  ⟨fun i H => ∃ xs x, SqL K H a xs ∧ xs[i]? = some x, fun i H x H' => H' = H ∧ ∀ xs, SqL K H a xs → xs[i]? = some x, fun i H => ∃ xs, SqL K H a xs ∧ xs.length ≤ i⟩
def Itt (K : PySem.W.Frag) (a : Addr) : It :=
  ⟨fun i H => ∃ xs x, SqT K H a xs ∧ xs[i]? = some x, fun i H x H' => H' = H ∧ ∀ xs, SqT K H a xs → xs[i]? = some x, fun i H => ∃ xs, SqT K H a xs ∧ xs.length ≤ i⟩
/-- lo, lo + 1, .. (n of them) -/
def Itr (lo : Int) (n : Nat) : It := ⟨fun i _ => i < n, fun i H x H' => H' = H ∧ x = .int (lo + i), fun i _ => n ≤ i⟩
theorem turn_list {P : Program} {w : World} {K : PySem.W.Frag} {tg : Expr} (a it : Addr) : Turn P w K tg (Itl K a) [it] it (fun i h => h.IsListIter it a i) where
  mem := by simp
  obj := fun i h st b hb => by
    have e : b = it := by simpa using hb
    subst e
    obtain ⟨o, e, c, d⟩ := st
    exact ⟨o, e, fun v z => by rw [d] at z; cases z⟩
  keep := fun i h h' st k => st.at fun o e => k it (by simp) o e
  item := by
    intro X hP hw hK hc i pins s σ H E I hf st hg
    subst hP hw hK
    obtain ⟨xs, x, hq, hx⟩ := hg
    obtain ⟨its, rv, p, hz⟩ := I.list hq
    obtain ⟨u, hu, ru⟩ := rv.get hx
    obtain ⟨f0, f1, f2, f3, f4, f5⟩ := hf it (by simp)
    refine wpAny_pyNext_list_item st p.isList (x := u) (by simpa using hu) fun h' st' sb => ?_
    have I1 : Inv X pins σ H { s with heap := h' } := I.turned (t' := s.toks) (fun b o hb e => (sb.2 b hb).trans e) f0 f1 f3 f4 f5
    obtain ⟨o, e, c, d⟩ := id st'
    exact ⟨u, rfl, go_of (s := { s with heap := h' }) e c d (by decide) ⟨x, H, I1, ru, ⟨rfl, fun ys hy => by rw [I.list_inj hy hq]; exact hx⟩, st', fun b hb => (hf b hb).1⟩⟩
  done := by
    intro X hP hw hK hc i pins s σ H E I hf st hg
    subst hP hw hK
    obtain ⟨xs, hq, hx⟩ := hg
    obtain ⟨its, rv, p, hz⟩ := I.list hq
    obtain ⟨f0, f1, f2, f3, f4, f5⟩ := hf it (by simp)
    have hl := rv.length
    exact wpAny_pyNext_list_end (I.ok.hd hc) st p.isList (by simp; omega) fun h' eb => ⟨rfl, I.turned (t' := s.toks) (fun b o hb e => eb b o hb e) f0 f1 f3 f4 f5⟩
  self := fun _ _ _ _ _ st h => wpAny_pyIter_listiter st h
theorem turn_tuple {P : Program} {w : World} {K : PySem.W.Frag} {tg : Expr} (a it : Addr) : Turn P w K tg (Itt K a) [it] it (fun i h => h.IsTupleIter it a i) where
  mem := by simp
  obj := fun i h st b hb => by
    have e : b = it := by simpa using hb
    subst e
    obtain ⟨o, e, c, d⟩ := st
    exact ⟨o, e, fun v z => by rw [d] at z; cases z⟩
  keep := fun i h h' st k => st.at fun o e => k it (by simp) o e
  item := by
    intro X hP hw hK hc i pins s σ H E I hf st hg
    subst hP hw hK
    obtain ⟨xs, x, hq, hx⟩ := hg
    obtain ⟨its, rv, p, hz⟩ := I.tuple hq
    obtain ⟨u, hu, ru⟩ := rv.get hx
    obtain ⟨f0, f1, f2, f3, f4, f5⟩ := hf it (by simp)
    refine wpAny_pyNext_tuple_item st (show s.heap.IsTuple a its.toArray from p) (x := u) (by simpa using hu) fun h' st' sb => ?_
    have I1 : Inv X pins σ H { s with heap := h' } := I.turned (t' := s.toks) (fun b o hb e => (sb.2 b hb).trans e) f0 f1 f3 f4 f5
    obtain ⟨o, e, c, d⟩ := id st'
    exact ⟨u, rfl, go_of (s := { s with heap := h' }) e c d (by decide) ⟨x, H, I1, ru, ⟨rfl, fun ys hy => by rw [I.tuple_inj hy hq]; exact hx⟩, st', fun b hb => (hf b hb).1⟩⟩
  done := by
    intro X hP hw hK hc i pins s σ H E I hf st hg
    subst hP hw hK
    obtain ⟨xs, hq, hx⟩ := hg
    obtain ⟨its, rv, p, hz⟩ := I.tuple hq
    obtain ⟨f0, f1, f2, f3, f4, f5⟩ := hf it (by simp)
    have hl := rv.length
    exact wpAny_pyNext_tuple_end (I.ok.hd hc) st (show s.heap.IsTuple a its.toArray from p) (by simp; omega) fun h' eb => ⟨rfl, I.turned (t' := s.toks) (fun b o hb e => eb b o hb e) f0 f1 f3 f4 f5⟩
  self := fun _ _ _ _ _ st h => wpAny_pyIter_tupleiter st h
theorem turn_range {P : Program} {w : World} {K : PySem.W.Frag} {tg : Expr} (it : Addr) (lo : Int) (n : Nat) : Turn P w K tg (Itr lo n) [it] it (fun i h => IsRangeIter h it (lo + (i : Nat) * 1) ((n : Int) - (i : Nat)) 1) where
  mem := by simp
  obj := fun i h st b hb => by
    have e : b = it := by simpa using hb
    subst e
    exact ⟨_, st, fun v z => by
      have z' : Data.fields _ = Data.cell v := z
      cases z'⟩
  keep := fun i h h' st k => k it (by simp) _ st
  item := by
    intro X hP hw hK hc i pins s σ H E I hf st hg
    subst hP hw hK
    obtain ⟨f0, f1, f2, f3, f4, f5⟩ := hf it (by simp)
    have W := Walks.range (prog := X.prog) (w := X.w) (I.ok.hd hc) it lo 1 n
    refine W.item i s _ _ hg st fun v h' tk hv st' kk => ?_
    obtain ⟨t, rfl⟩ := hv
    have I1 : Inv X pins σ H { s with heap := h', toks := tk } := I.turned (fun b o hb e => kk b o (by simpa using hb) e) f0 f1 f3 f4 f5
    refine ⟨_, rfl, go_of (s := { s with heap := h', toks := tk }) (n := "range_iterator") st' rfl rfl (by decide) ⟨.int (lo + i), H, I1, ⟨t, ?_⟩, ⟨rfl, rfl⟩, st', fun b hb => (hf b hb).1⟩⟩
    rw [Int.mul_one]
  done := by
    intro X hP hw hK hc i pins s σ H E I hf st hg
    subst hP hw hK
    obtain ⟨f0, f1, f2, f3, f4, f5⟩ := hf it (by simp)
    exact wpAny_pyNext_range_end (I.ok.hd hc) st (by have : n ≤ i := hg; omega) fun h' eb => ⟨rfl, I.turned (t' := s.toks) (fun b o hb e => eb b o hb e) f0 f1 f3 f4 f5⟩
  self := fun _ _ _ _ _ st h => wpAny_pyIter_rangeiter st h
end L2

namespace L2
open PySem PySem.Spec PyProof.Rows
section
variable {X : Cx} {tg : Expr}
def iList (K : PySem.W.Frag) (tl : TE) : TI := fun σ H R => tl σ H fun x H1 => ∃ a, x = .ref a ∧ (∃ xs, SqL K H1 a xs) ∧ R (Itl K a) H1
def iTup (K : PySem.W.Frag) (tl : TE) : TI := fun σ H R => tl σ H fun x H1 => ∃ a, x = .ref a ∧ (∃ xs, SqT K H1 a xs) ∧ R (Itt K a) H1
theorem pi_list {l : Expr} {tl : TE} (hl : PE X l tl) : PI X tg l (iList X.K tl) := by
  intro pins s σ H R I h
  refine thn (hl pins s σ H _ I h) fun v s1 ⟨x, H1, I1, r1, q1⟩ => ?_
  obtain ⟨a, e, ⟨xs, hq⟩, q⟩ := q1
  subst e
  cases r1
  obtain ⟨its, rv, p, hz⟩ := I1.list hq
  refine wpAny_pyIter_list p.isList ?_
  refine ⟨s1.heap.objs.size, [s1.heap.objs.size], _, _, H1, rfl, I1.kept (t' := s1.toks) fun b o e => Heap.get?_push_of_some _ e, turn_list a _, ⟨_, Heap.get?_push_size _ rfl, rfl, rfl⟩, fun b hb => ?_, q⟩
  have e : b = s1.heap.objs.size := by simpa using hb
  subst e
  exact I1.fpOk (Nat.le_refl _) (I1.hok.fresh (Nat.le_refl _))
theorem pi_tup {l : Expr} {tl : TE} (hl : PE X l tl) : PI X tg l (iTup X.K tl) := by
  intro pins s σ H R I h
  refine thn (hl pins s σ H _ I h) fun v s1 ⟨x, H1, I1, r1, q1⟩ => ?_
  obtain ⟨a, e, ⟨xs, hq⟩, q⟩ := q1
  subst e
  cases r1
  obtain ⟨its, rv, p, hz⟩ := I1.tuple hq
  refine wpAny_pyIter_tuple (show s1.heap.IsTuple a its.toArray from p) ?_
  refine ⟨s1.heap.objs.size, [s1.heap.objs.size], _, _, H1, rfl, I1.kept (t' := s1.toks) fun b o e => Heap.get?_push_of_some _ e, turn_tuple a _, ⟨_, Heap.get?_push_size _ rfl, rfl, rfl⟩, fun b hb => ?_, q⟩
  have e : b = s1.heap.objs.size := by simpa using hb
  subst e
  exact I1.fpOk (Nat.le_refl _) (I1.hok.fresh (Nat.le_refl _))
/-- a range object just made, walked -/
theorem range_it {pins : List (Addr × Obj)} {σ : St} {H : Hp} {s : Shared} {R : It → Hp → Prop} {E : Value → Shared → Prop} {lo hi : Int} {t u v : Tok} {tk : Nat} (I : Inv X pins σ H s) (h1 : -(2 ^ 62) ≤ lo) (h2 : lo < 2 ^ 62) (h3 : -(2 ^ 62) ≤ hi) (h4 : hi < 2 ^ 62)
    (q : R (Itr lo (hi - lo).toNat) H) : wpAny (model X.prog X.w) X.A (pyIter (.ref s.heap.objs.size)) (PIE X pins σ tg R) E { s with heap := s.heap.push { cls := .type "range", data := .fields #[.int lo t, .int hi u, .int 1 v] }, toks := tk } := by
  refine wpAny_pyIter_range (IsRange.new ..) (small_one h1 h2 h3 h4) ?_
  have I1 : Inv X pins σ H { s with heap := s.heap.push { cls := .type "range", data := .fields #[.int lo t, .int hi u, .int 1 v] }, toks := tk } := I.kept fun b o e => Heap.get?_push_of_some _ e
  refine ⟨(s.heap.push { cls := .type "range", data := .fields #[.int lo t, .int hi u, .int 1 v] }).objs.size, [(s.heap.push { cls := .type "range", data := .fields #[.int lo t, .int hi u, .int 1 v] }).objs.size], _, _, H, rfl,
    I1.kept (t' := tk) fun b o e => Heap.get?_push_of_some _ e, turn_range _ lo (hi - lo).toNat, ?_, fun b hb => ?_, q⟩
  · have e1 : lo + ((0 : Nat) : Int) * 1 = lo := by simp
    have e2 : (((hi - lo).toNat : Nat) : Int) - ((0 : Nat) : Int) = Builtin.Range.rangeSize lo hi 1 := by rw [rangeSize_one]; split <;> omega
    show IsRangeIter _ _ (lo + ((0 : Nat) : Int) * 1) ((((hi - lo).toNat : Nat) : Int) - ((0 : Nat) : Int)) 1
    rw [e1, e2]
    exact Heap.get?_push_size _ rfl
  · have e : b = (s.heap.push { cls := .type "range", data := .fields #[.int lo t, .int hi u, .int 1 v] }).objs.size := by simpa using hb
    subst e
    exact I1.fpOk (Nat.le_refl _) (I1.hok.fresh (Nat.le_refl _))
def iRng1 (ta : TA) : TI := fun σ H R => ta σ H fun vs H1 => ∃ j : Int, vs = [.int j] ∧ -(2 ^ 62) ≤ j ∧ j < 2 ^ 62 ∧ R (Itr 0 j.toNat) H1
def iRng2 (ta : TA) : TI := fun σ H R => ta σ H fun vs H1 => ∃ i j : Int, vs = [.int i, .int j] ∧ (-(2 ^ 62) ≤ i ∧ i < 2 ^ 62 ∧ -(2 ^ 62) ≤ j ∧ j < 2 ^ 62) ∧ R (Itr i (j - i).toNat) H1
theorem pi_range1 {a : Expr} {ta : TA} {p pos : Pos} (hg : Gl X "range") (hm : X.mg "range" = none) (ha : PA X [a] ta) (hs : starEach [a] X.env = [(false, eval a X.env)] := by rfl) : PI X tg (.Call (.Name "range" p) [a] [] pos) (iRng1 ta) := by
  intro pins s σ H R I h
  refine Call_ (ld_blt I hg hm boot_range (PyProof.Rows.callWith_type1 (thn (ha pos pins s σ H _ I h) fun us s1 ⟨vs, H1, I1, r1, q1⟩ => ?_) hs rfl))
  obtain ⟨j, e, q1, q2, q⟩ := q1
  subst e
  cases r1 with
  | cons r rr =>
    cases rr
    obtain ⟨t, rfl⟩ := r
    exact call_range_1 (range_it I1 (by omega) (by omega) q1 q2 (by simpa using q))
theorem pi_range2 {a b : Expr} {ta : TA} {p pos : Pos} (hg : Gl X "range") (hm : X.mg "range" = none) (ha : PA X [a, b] ta) (hs : starEach [a, b] X.env = [(false, eval a X.env), (false, eval b X.env)] := by rfl) (hs2 : starEach [b] X.env = [(false, eval b X.env)] := by rfl) :
    PI X tg (.Call (.Name "range" p) [a, b] [] pos) (iRng2 ta) := by
  intro pins s σ H R I h
  refine Call_ (ld_blt I hg hm boot_range (PyProof.Rows.callWith_type1 (thn (ha pos pins s σ H _ I h) fun us s1 ⟨vs, H1, I1, r1, q1⟩ => ?_) (by rw [hs, hs2]) (by rw [hs2]; rfl)))
  obtain ⟨i, j, e, ⟨q1, q2, q3, q4⟩, q⟩ := q1
  subst e
  cases r1 with
  | cons r rr =>
    cases rr with
    | cons r' rr =>
      cases rr
      obtain ⟨t, rfl⟩ := r
      obtain ⟨t', rfl⟩ := r'
      exact call_range_2 (range_it I1 q1 q2 q3 q4 q)

/-! ### for -/
/-- W: the invariant by the turn and a measure; N: what the body is to reach -/
def tFor (wi : TI) (g : TG) (tb : TS) : TS := fun D σ H => wi σ H fun J H1 => ∃ W : Nat → Nat → St → Hp → Prop, (∃ m, W 0 m σ H1) ∧ ∀ i m σ H, W i m σ H →
  (J.stop i H ∧ D.nx σ H) ∨ (J.go i H ∧ ∃ N : St → Hp → Prop, (∀ σ' H', N σ' H' → ∃ m', m' < m ∧ W (i + 1) m' σ' H') ∧ ∀ x H', J.yld i H x H' → g x σ H' fun σ2 H2 => tb { D with nx := N, ct := N, bk := D.nx } σ2 H2)
/-- the records at fp as they stand -/
def pinsAt (fp : List Addr) (h : Heap) : List (Addr × Obj) := fp.filterMap fun b => (h.get? b).map fun o => (b, o)
theorem mem_pinsAt {fp : List Addr} {h : Heap} {b : Addr} {o : Obj} (hb : b ∈ fp) (e : h.get? b = some o) : (b, o) ∈ pinsAt fp h := List.mem_filterMap.mpr ⟨b, hb, by rw [e]; rfl⟩
theorem of_pinsAt {fp : List Addr} {h : Heap} {p : Addr × Obj} (hp : p ∈ pinsAt fp h) : p.1 ∈ fp ∧ h.get? p.1 = some p.2 := by
  obtain ⟨b, hb, e⟩ := List.mem_filterMap.mp hp
  cases q : h.get? b with
  | none => rw [q] at e; cases e
  | some o =>
    rw [q] at e
    have e' : (b, o) = p := Option.some.inj e
    subst e'
    exact ⟨hb, q⟩
theorem Inv.pinned {pins : List (Addr × Obj)} {σ : St} {H : Hp} {s : Shared} {fp : List Addr} (I : Inv X pins σ H s) (hf : ∀ b ∈ fp, FpOk X pins H b) (ho : ∀ b ∈ fp, ∃ o, s.heap.get? b = some o ∧ ∀ v, o.data ≠ .cell v) : Inv X (pins ++ pinsAt fp s.heap) σ H s :=
  I.pins_of fun p hp => (List.mem_append.mp hp).elim (fun z => I.pin p (List.mem_append_right _ z)) fun z => by
    obtain ⟨hb, e⟩ := of_pinsAt z
    obtain ⟨f0, f1, f2, _⟩ := hf p.1 hb
    obtain ⟨o, e', d⟩ := ho p.1 hb
    rw [e] at e'; cases e'
    exact ⟨e, f0, f1, f2, d⟩
theorem Inv.unpinned {pins pl : List (Addr × Obj)} {σ : St} {H : Hp} {s : Shared} (I : Inv X (pins ++ pl) σ H s) : Inv X pins σ H s := I.pins_of fun p hp => I.pin p (List.mem_append_right _ (List.mem_append_left _ hp))
theorem ps_for {iter : Expr} {body : List Stmt} {wi : TI} {g : TG} {tb : TS} {pos : Pos} (hp : PassesOwn (model X.prog X.w) X.A X.env X.xe) (hc : X.calm = true) (hi : PI X tg iter wi) (hg : PG X tg g) (hb : PSs X body tb)
    (hs : ∀ x, foldedSetIterable iter X.env x = pure x := by intro _; rfl) : PS X (.For tg iter body [] pos) (tFor wi g tb) := by
  intro pins s σ H D I h
  refine wpAny_For (thn (hi pins s σ H _ I h) fun v s1 h1 => thn h1 fun itv s2 h2 => ?_) hs
  obtain ⟨it, fp, tn, J, H2, e, I2, T, st2, f2, W, ⟨m0, w0⟩, turn⟩ := h2
  subst e
  -- what stays true of the iterator's objects through the loop
  have stat : ∀ {H' : Hp}, (∀ b ∈ fp, H' b = none) → ∀ b ∈ fp, FpOk X pins H' b := fun hn b hb => ⟨hn b hb, (f2 b hb).2⟩
  refine codeAny_forLoop_any (fun n s' => ∃ i σ' H', Inv X pins σ' H' s' ∧ tn i s'.heap ∧ (∀ b ∈ fp, H' b = none) ∧ W i n σ' H') ?_ m0 ⟨0, σ, H2, I2, st2, fun b hb => (f2 b hb).1, w0⟩
  rintro n s3 ⟨i, σ3, H3, I3, st3, fr3, w3⟩
  rcases turn i n σ3 H3 w3 with ⟨stop, qn⟩ | ⟨go, N, hN, step⟩
  · refine wpAny_passesOwn hp (thn (T.done X rfl rfl rfl hc i pins s3 σ3 H3 X.xe I3 (stat fr3) st3 stop) fun r s4 ⟨hr, I4⟩ => ?_)
    subst hr
    exact wpAny_execs_nil ⟨σ3, H3, I4, qn⟩
  · refine wpAny_passesOwn hp (thn (T.item X rfl rfl rfl hc i pins s3 σ3 H3 X.xe I3 (stat fr3) st3 go) fun r s4 ⟨u, hr, h4⟩ => ?_)
    subst hr
    refine wpAny_passesOwn hp (thn h4 fun _ s5 ⟨x, H5, I5, r5, y5, st5, fr5⟩ => ?_)
    have I5' := I5.pinned (stat fr5) (T.obj _ _ st5)
    refine wpAny_passesOwn hp (thn (hg _ s5 σ3 H5 x u _ I5' r5 (step x H5 y5)) fun _ s6 ⟨σ6, H6, I6, q6⟩ => ?_)
    refine wpAny_passesOwn hp (thn (hb _ s6 σ6 H6 _ I6 q6) fun f s7 q7 => ?_)
    have again : ∀ {σ7 : St} {H7 : Hp}, Inv X (pins ++ pinsAt fp s5.heap) σ7 H7 s7 → N σ7 H7 → ∃ m, m < n ∧ ∃ i σ' H', Inv X pins σ' H' s7 ∧ tn i s7.heap ∧ (∀ b ∈ fp, H' b = none) ∧ W i m σ' H' := fun {σ7 H7} I7 n7 => by
      obtain ⟨m', hm, w7⟩ := hN σ7 H7 n7
      refine ⟨m', hm, i + 1, σ7, H7, I7.unpinned, T.keep _ _ _ st5 fun b hb o e => (I7.pin (b, o) (List.mem_append_right _ (List.mem_append_right _ (mem_pinsAt hb e)))).1, fun b hb => ?_, w7⟩
      obtain ⟨o, e, d⟩ := T.obj _ _ st5 b hb
      exact (I7.pin (b, o) (List.mem_append_right _ (List.mem_append_right _ (mem_pinsAt hb e)))).2.1
    cases f with
    | next => obtain ⟨σ7, H7, I7, n7⟩ := q7; exact again I7 n7
    | cont => obtain ⟨σ7, H7, I7, n7⟩ := q7; exact again I7 n7
    | brk => obtain ⟨σ7, H7, I7, q7⟩ := q7; exact ⟨σ7, H7, I7.unpinned, q7⟩
    | ret v => obtain ⟨x7, σ7, H7, I7, r7, q7⟩ := q7; exact ⟨x7, σ7, H7, I7.unpinned, r7, q7⟩
end

/-! ### the forms one uses -/
/-- over a list that the body leaves as it is -/
theorem for_list {K : PySem.W.Frag} {a : Addr} {xs : List V} {g : TG} {tb : TS} {D : Ends} {σ : St} {H : Hp} (Pv : Nat → St → Hp → Prop) (h0 : Pv 0 σ H) (hl : ∀ i σ H, i ≤ xs.length → Pv i σ H → SqL K H a xs)
    (hs : ∀ i x σ H, xs[i]? = some x → Pv i σ H → g x σ H fun σ2 H2 => tb { D with nx := Pv (i + 1), ct := Pv (i + 1), bk := D.nx } σ2 H2) (hd : ∀ σ H, Pv xs.length σ H → D.nx σ H) :
    ∃ W : Nat → Nat → St → Hp → Prop, (∃ m, W 0 m σ H) ∧ ∀ i m σ H, W i m σ H →
      ((Itl K a).stop i H ∧ D.nx σ H) ∨ ((Itl K a).go i H ∧ ∃ N : St → Hp → Prop, (∀ σ' H', N σ' H' → ∃ m', m' < m ∧ W (i + 1) m' σ' H') ∧ ∀ x H', (Itl K a).yld i H x H' → g x σ H' fun σ2 H2 => tb { D with nx := N, ct := N, bk := D.nx } σ2 H2) := by
  refine ⟨fun i m σ H => m = xs.length - i ∧ i ≤ xs.length ∧ Pv i σ H, ⟨xs.length, by simp, Nat.zero_le _, h0⟩, ?_⟩
  rintro i m σ H ⟨rfl, hi, p⟩
  have q := hl i σ H hi p
  by_cases hlt : i < xs.length
  · refine .inr ⟨⟨xs, xs[i], q, by simp [hlt]⟩, Pv (i + 1), fun σ' H' p' => ⟨xs.length - (i + 1), by omega, rfl, hlt, p'⟩, fun x H' y => ?_⟩
    obtain ⟨e, y⟩ := y
    subst e
    exact hs i x σ _ (y xs q) p
  · have e : i = xs.length := by omega
    subst e
    exact .inl ⟨⟨xs, q, Nat.le_refl _⟩, hd σ H p⟩
theorem for_tup {K : PySem.W.Frag} {a : Addr} {xs : List V} {g : TG} {tb : TS} {D : Ends} {σ : St} {H : Hp} (Pv : Nat → St → Hp → Prop) (h0 : Pv 0 σ H) (hl : ∀ i σ H, i ≤ xs.length → Pv i σ H → SqT K H a xs)
    (hs : ∀ i x σ H, xs[i]? = some x → Pv i σ H → g x σ H fun σ2 H2 => tb { D with nx := Pv (i + 1), ct := Pv (i + 1), bk := D.nx } σ2 H2) (hd : ∀ σ H, Pv xs.length σ H → D.nx σ H) :
    ∃ W : Nat → Nat → St → Hp → Prop, (∃ m, W 0 m σ H) ∧ ∀ i m σ H, W i m σ H →
      ((Itt K a).stop i H ∧ D.nx σ H) ∨ ((Itt K a).go i H ∧ ∃ N : St → Hp → Prop, (∀ σ' H', N σ' H' → ∃ m', m' < m ∧ W (i + 1) m' σ' H') ∧ ∀ x H', (Itt K a).yld i H x H' → g x σ H' fun σ2 H2 => tb { D with nx := N, ct := N, bk := D.nx } σ2 H2) := by
  refine ⟨fun i m σ H => m = xs.length - i ∧ i ≤ xs.length ∧ Pv i σ H, ⟨xs.length, by simp, Nat.zero_le _, h0⟩, ?_⟩
  rintro i m σ H ⟨rfl, hi, p⟩
  have q := hl i σ H hi p
  by_cases hlt : i < xs.length
  · refine .inr ⟨⟨xs, xs[i], q, by simp [hlt]⟩, Pv (i + 1), fun σ' H' p' => ⟨xs.length - (i + 1), by omega, rfl, hlt, p'⟩, fun x H' y => ?_⟩
    obtain ⟨e, y⟩ := y
    subst e
    exact hs i x σ _ (y xs q) p
  · have e : i = xs.length := by omega
    subst e
    exact .inl ⟨⟨xs, q, Nat.le_refl _⟩, hd σ H p⟩
theorem for_range {lo : Int} {n : Nat} {g : TG} {tb : TS} {D : Ends} {σ : St} {H : Hp} (Pv : Nat → St → Hp → Prop) (h0 : Pv 0 σ H)
    (hs : ∀ i σ H, i < n → Pv i σ H → g (.int (lo + i)) σ H fun σ2 H2 => tb { D with nx := Pv (i + 1), ct := Pv (i + 1), bk := D.nx } σ2 H2) (hd : ∀ σ H, Pv n σ H → D.nx σ H) :
    ∃ W : Nat → Nat → St → Hp → Prop, (∃ m, W 0 m σ H) ∧ ∀ i m σ H, W i m σ H →
      ((Itr lo n).stop i H ∧ D.nx σ H) ∨ ((Itr lo n).go i H ∧ ∃ N : St → Hp → Prop, (∀ σ' H', N σ' H' → ∃ m', m' < m ∧ W (i + 1) m' σ' H') ∧ ∀ x H', (Itr lo n).yld i H x H' → g x σ H' fun σ2 H2 => tb { D with nx := N, ct := N, bk := D.nx } σ2 H2) := by
  refine ⟨fun i m σ H => m = n - i ∧ i ≤ n ∧ Pv i σ H, ⟨n, by simp, Nat.zero_le _, h0⟩, ?_⟩
  rintro i m σ H ⟨rfl, hi, p⟩
  by_cases hlt : i < n
  · refine .inr ⟨hlt, Pv (i + 1), fun σ' H' p' => ⟨n - (i + 1), by omega, rfl, hlt, p'⟩, fun x H' y => ?_⟩
    obtain ⟨e, y⟩ := y
    subst e y
    exact hs i σ _ hlt p
  · have e : i = n := by omega
    subst e
    exact .inl ⟨Nat.le_refl _, hd σ H p⟩
/-- while, by a word and a measure of the state -/
theorem while_by {c : TT} {tb : TS} {D : Ends} {σ : St} {H : Hp} (Pv : St → Hp → Prop) (μ : St → Hp → Nat) (h0 : Pv σ H)
    (hs : ∀ σ H, Pv σ H → c σ H fun b H1 => if b = true then tb { D with nx := fun σ' H' => Pv σ' H' ∧ μ σ' H' < μ σ H, ct := fun σ' H' => Pv σ' H' ∧ μ σ' H' < μ σ H, bk := D.nx } σ H1 else D.nx σ H1)
    (mono : ∀ σ H Q Q', (∀ b H1, Q b H1 → Q' b H1) → c σ H Q → c σ H Q') : tWhile c tb D σ H := by
  refine ⟨fun m σ H => m = μ σ H ∧ Pv σ H, ⟨_, rfl, h0⟩, ?_⟩
  rintro m σ H ⟨rfl, p⟩
  refine mono σ H _ _ (fun b H1 q => ?_) (hs σ H p)
  cases b with
  | true => exact ⟨_, fun σ' H' ⟨p', l⟩ => ⟨_, l, rfl, p'⟩, q⟩
  | false => exact q
end L2

namespace L2
open PySem PySem.Spec PyProof.Rows

abbrev R2 := V → V → Hp → VK → Prop
/-- a two-place operation on values: f is binaryOp op, inplaceOp op or compareOp op -/
def OpR (X : Cx) (f : Value → Value → Sem Value) (r : R2) : Prop :=
  ∀ (pins : List (Addr × Obj)) (s : Shared) (σ : St) (H : Hp) (x y : V) (v u : Value) (Q : VK), Inv X pins σ H s → RelV x v → RelV y u → r x y H Q →
    wpAny (model X.prog X.w) X.A (f v u) (EP X pins σ Q) X.xe s
/-- a one-place operation -/
def UnR (X : Cx) (f : Value → Sem Value) (r : V → Hp → VK → Prop) : Prop :=
  ∀ (pins : List (Addr × Obj)) (s : Shared) (σ : St) (H : Hp) (x : V) (v : Value) (Q : VK), Inv X pins σ H s → RelV x v → r x H Q →
    wpAny (model X.prog X.w) X.A (f v) (EP X pins σ Q) X.xe s
/-- a call of a value that is known (a builtin, a type) with values -/
def CallR (X : Cx) (f : Value) (r : List V → Hp → VK → Prop) : Prop :=
  ∀ (pins : List (Addr × Obj)) (s : Shared) (σ : St) (H : Hp) (xs : List V) (us : List Value) (Q : VK), Inv X pins σ H s → Vals xs us → r xs H Q →
    wpAny (model X.prog X.w) X.A (call f us) (EP X pins σ Q) X.xe s
/-- a value's truth -/
def TruR (X : Cx) (r : V → Hp → (Bool → Hp → Prop) → Prop) : Prop :=
  ∀ (pins : List (Addr × Obj)) (s : Shared) (σ : St) (H : Hp) (x : V) (v : Value) (Q : Bool → Hp → Prop), Inv X pins σ H s → RelV x v → r x H Q →
    wpAny (model X.prog X.w) X.A (truthy v) (TP X pins σ Q) X.xe s

def tOp (r : R2) (ta tb : TE) : TE := fun σ H Q => ta σ H fun x H1 => tb σ H1 fun y H2 => r x y H2 Q
def tUn (r : V → Hp → VK → Prop) (ta : TE) : TE := fun σ H Q => ta σ H fun x H1 => r x H1 Q
/-- ints in, under C, and a value out -/
def rI (C : Int → Int → Prop) (g : Int → Int → V) : R2 := fun x y H Q => ∃ i j, x = .int i ∧ y = .int j ∧ C i j ∧ Q (g i j) H
def rI0 (g : Int → Int → V) : R2 := fun x y H Q => ∃ i j, x = .int i ∧ y = .int j ∧ Q (g i j) H
def rU (g : Int → V) : V → Hp → VK → Prop := fun x H Q => ∃ i, x = .int i ∧ Q (g i) H

section
variable {X : Cx} {a b c : Expr} {ta tb tc : TE} {pos : Pos}

theorem binT (ha : PE X a ta) (hb : PE X b tb) {pins : List (Addr × Obj)} {s : Shared} {σ : St} {H : Hp} {R : V → V → Hp → Prop} (I : Inv X pins σ H s)
    (h : ta σ H fun x H1 => tb σ H1 fun y H2 => R x y H2) {Q : Value → Shared → Prop} {f : Value → Value → Sem Value}
    (hf : ∀ v u s2 x y H2, Inv X pins σ H2 s2 → RelV x v → RelV y u → R x y H2 → wpAny (model X.prog X.w) X.A (f v u) Q X.xe s2) :
    wpAny (model X.prog X.w) X.A (eval a X.env) (fun v s₁ => wpAny (model X.prog X.w) X.A (eval b X.env) (fun u s₂ => wpAny (model X.prog X.w) X.A (f v u) Q X.xe s₂) X.xe s₁) X.xe s := by
  refine thn (ha pins s σ H _ I h) fun v s1 ⟨x, H1, I1, r1, q1⟩ => ?_
  refine thn (hb pins s1 σ H1 _ I1 q1) fun u s2 ⟨y, H2, I2, r2, q2⟩ => ?_
  exact hf v u s2 x y H2 I2 r1 r2 q2

theorem pe_op {op : Operator} {r : R2} (ho : OpR X (binaryOp op) r) (ha : PE X a ta) (hb : PE X b tb) : PE X (.BinOp a op b pos) (tOp r ta tb) := by
  intro pins s σ H Q I h
  exact wpAny_BinOp (binT ha hb I h fun v u s2 x y H2 I2 rx ry q => ho pins s2 σ H2 x y v u Q I2 rx ry q)
theorem pe_un {op : UnaryOp} {r : V → Hp → VK → Prop} (ho : UnR X (unaryOp op) r) (ha : PE X a ta) : PE X (.UnaryOp op a pos) (tUn r ta) := by
  intro pins s σ H Q I h
  exact UnaryOp_ (thn (ha pins s σ H _ I h) fun v s1 ⟨x, H1, I1, r1, q1⟩ => ho pins s1 σ H1 x v Q I1 r1 q1)
/-- a op= e at a name: the name's slot i -/
theorem augR {op : Operator} {r : R2} (ho : OpR X (inplaceOp op) r) {pins : List (Addr × Obj)} {s : Shared} {σ : St} {H : Hp} {x y : V} {v u : Value} {Q : VK} (I : Inv X pins σ H s)
    (rx : RelV x v) (ry : RelV y u) (q : r x y H Q) : wpAny (model X.prog X.w) X.A (inplaceOp op v u) (EP X pins σ Q) X.xe s := ho pins s σ H x y v u Q I rx ry q

/-! ### ints -/
theorem opI {f : Value → Value → Sem Value} {C : Int → Int → Prop} {g : Int → Int → Int}
    (rule : ∀ (i j : Int) (t u : Tok) (s : Shared) (Q : Value → Shared → Prop) (E : Value → Shared → Prop), C i j → Q (.int (g i j) s.toks) { s with toks := s.toks + 1 } → wpAny (model X.prog X.w) X.A (f (.int i t) (.int j u)) Q E s) :
    OpR X f (rI C fun i j => .int (g i j)) := by
  intro pins s σ H x y v u Q I rx ry h
  obtain ⟨i, j, rfl, rfl, hc, q⟩ := h
  obtain ⟨t, rfl⟩ := rx
  obtain ⟨t', rfl⟩ := ry
  exact rule i j t t' s _ _ hc ⟨.int (g i j), H, I.tok _, ⟨_, rfl⟩, q⟩
theorem opI0 {f : Value → Value → Sem Value} {g : Int → Int → Int}
    (rule : ∀ (i j : Int) (t u : Tok) (s : Shared) (Q : Value → Shared → Prop) (E : Value → Shared → Prop), Q (.int (g i j) s.toks) { s with toks := s.toks + 1 } → wpAny (model X.prog X.w) X.A (f (.int i t) (.int j u)) Q E s) :
    OpR X f (rI0 fun i j => .int (g i j)) := by
  intro pins s σ H x y v u Q I rx ry h
  obtain ⟨i, j, rfl, rfl, q⟩ := h
  obtain ⟨t, rfl⟩ := rx
  obtain ⟨t', rfl⟩ := ry
  exact rule i j t t' s _ _ ⟨.int (g i j), H, I.tok _, ⟨_, rfl⟩, q⟩
theorem opB0 {f : Value → Value → Sem Value} {g : Int → Int → Bool}
    (rule : ∀ (i j : Int) (t u : Tok) (s : Shared) (Q : Value → Shared → Prop) (E : Value → Shared → Prop), Q (.bool (g i j)) s → wpAny (model X.prog X.w) X.A (f (.int i t) (.int j u)) Q E s) :
    OpR X f (rI0 fun i j => .bl (g i j)) := by
  intro pins s σ H x y v u Q I rx ry h
  obtain ⟨i, j, rfl, rfl, q⟩ := h
  obtain ⟨t, rfl⟩ := rx
  obtain ⟨t', rfl⟩ := ry
  exact rule i j t t' s _ _ ⟨.bl (g i j), H, I, rfl, q⟩

def CDiv (i j : Int) : Prop := 0 < j ∧ j < 1073741824
def CDivN (i j : Int) : Prop := j ≠ 0 ∧ j.natAbs < 1073741824
def CPow (i j : Int) : Prop := 0 ≤ j ∧ j ≤ 1000000 ∧ i.natAbs < 2 ^ 64
def CMul (i j : Int) : Prop := (-(2 ^ 64) < i ∧ i < 2 ^ 64) ∨ (-(2 ^ 64) < j ∧ j < 2 ^ 64)
theorem CMul.ok {i j : Int} (h : CMul i j) : IntMulOk i j := by
  rcases h with ⟨h1, h2⟩ | ⟨h1, h2⟩
  · exact .of_left (intBits_le_64 h1 h2)
  · exact .of_right (intBits_le_64 h1 h2)
theorem two_pow_nn (k : Nat) : (0 : Int) ≤ 2 ^ k := by
  rw [two_pow_cast]
  exact Int.natCast_nonneg _

theorem op_add : OpR X (binaryOp .Add) (rI0 fun i j => .int (i + j)) := opI0 fun _ _ _ _ _ _ _ q => add_int q
theorem op_sub : OpR X (binaryOp .Sub) (rI0 fun i j => .int (i - j)) := opI0 fun _ _ _ _ _ _ _ q => sub_int q
theorem op_mul : OpR X (binaryOp .Mult) (rI CMul fun i j => .int (i * j)) := opI fun _ _ _ _ _ _ _ hc q => mul_int q hc.ok
/-- // by a positive divisor -/
theorem op_fdiv : OpR X (binaryOp .FloorDiv) (rI CDiv fun i j => .int (i / j)) := opI fun i j _ _ _ _ _ hc q => by
  have h1 : (0 : Int) < j := hc.1
  have h2 : j < 1073741824 := hc.2
  exact floordiv_int (by omega) (by rw [Int.fdiv_eq_ediv_of_nonneg i (by omega)]; exact q) (.inl (PyProof.noPylong_small (by omega)))
theorem op_fdivN : OpR X (binaryOp .FloorDiv) (rI CDivN fun i j => .int (i.fdiv j)) := opI fun _ _ _ _ _ _ _ hc q => floordiv_int hc.1 q (.inl (PyProof.noPylong_small hc.2))
/-- % by a positive divisor of any size -/
theorem op_mod : OpR X (binaryOp .Mod) (rI (fun _ j => 0 < j) fun i j => .int (i % j)) := opI fun i j _ _ _ _ _ hc q => by
  have h1 : (0 : Int) < j := hc
  exact mod_int' (by omega) (by rw [Int.fmod_eq_emod_of_nonneg i (by omega)]; exact q)
theorem op_modN : OpR X (binaryOp .Mod) (rI (fun _ j => j ≠ 0) fun i j => .int (i.fmod j)) := opI fun _ _ _ _ _ _ _ hc q => mod_int' hc q
theorem op_pow : OpR X (binaryOp .Pow) (rI CPow fun i j => .int (i ^ j.toNat)) := opI fun _ _ _ _ _ _ _ hc q => pow_int_small hc.1 hc.2.1 hc.2.2 q
theorem op_shl : OpR X (binaryOp .LShift) (rI CPow fun i j => .int (i * 2 ^ j.toNat)) := opI fun _ _ _ _ _ _ _ hc q => lshift_int_small hc.1 hc.2.1 hc.2.2 q
theorem op_shr : OpR X (binaryOp .RShift) (rI (fun _ j => 0 ≤ j) fun i j => .int (i / 2 ^ j.toNat)) := opI fun i j _ _ _ _ _ hc q =>
  rshift_int hc (by rw [Int.fdiv_eq_ediv_of_nonneg i (two_pow_nn _)]; exact q)
theorem op_and : OpR X (binaryOp .BitAnd) (rI0 fun i j => .int (Builtin.bitAnd i j)) := opI0 fun _ _ _ _ _ _ _ q => and_int q
theorem op_or : OpR X (binaryOp .BitOr) (rI0 fun i j => .int (Builtin.bitOr i j)) := opI0 fun _ _ _ _ _ _ _ q => or_int q
theorem op_xor : OpR X (binaryOp .BitXor) (rI0 fun i j => .int (Builtin.bitXor i j)) := opI0 fun _ _ _ _ _ _ _ q => xor_int q

theorem iop_add : OpR X (inplaceOp .Add) (rI0 fun i j => .int (i + j)) := opI0 fun _ _ _ _ _ _ _ q => iadd_int q
theorem iop_sub : OpR X (inplaceOp .Sub) (rI0 fun i j => .int (i - j)) := opI0 fun _ _ _ _ _ _ _ q => isub_int q
theorem iop_mul : OpR X (inplaceOp .Mult) (rI CMul fun i j => .int (i * j)) := opI fun _ _ _ _ _ _ _ hc q => imul_int q hc.ok
theorem iop_fdiv : OpR X (inplaceOp .FloorDiv) (rI CDiv fun i j => .int (i / j)) := opI fun i j _ _ _ _ _ hc q => by
  have h1 : (0 : Int) < j := hc.1
  have h2 : j < 1073741824 := hc.2
  exact ifloordiv_int (by omega) (by rw [Int.fdiv_eq_ediv_of_nonneg i (by omega)]; exact q) (.inl (PyProof.noPylong_small (by omega)))
theorem iop_mod : OpR X (inplaceOp .Mod) (rI (fun _ j => 0 < j) fun i j => .int (i % j)) := opI fun i j _ _ _ _ _ hc q => by
  have h1 : (0 : Int) < j := hc
  exact imod_int (by omega) (by rw [Int.fmod_eq_emod_of_nonneg i (by omega)]; exact q)
theorem iop_shl : OpR X (inplaceOp .LShift) (rI CPow fun i j => .int (i * 2 ^ j.toNat)) := opI fun _ _ _ _ _ _ _ hc q => ilshift_int_small hc.1 hc.2.1 hc.2.2 q
theorem iop_shr : OpR X (inplaceOp .RShift) (rI (fun _ j => 0 ≤ j) fun i j => .int (i / 2 ^ j.toNat)) := opI fun i j _ _ _ _ _ hc q =>
  irshift_int hc (by rw [Int.fdiv_eq_ediv_of_nonneg i (two_pow_nn _)]; exact q)
theorem iop_and : OpR X (inplaceOp .BitAnd) (rI0 fun i j => .int (Builtin.bitAnd i j)) := opI0 fun _ _ _ _ _ _ _ q => iand_int q
theorem iop_or : OpR X (inplaceOp .BitOr) (rI0 fun i j => .int (Builtin.bitOr i j)) := opI0 fun _ _ _ _ _ _ _ q => ior_int q
theorem iop_xor : OpR X (inplaceOp .BitXor) (rI0 fun i j => .int (Builtin.bitXor i j)) := opI0 fun _ _ _ _ _ _ _ q => ixor_int q

theorem unI {f : Value → Sem Value} {g : Int → Int}
    (rule : ∀ (i : Int) (t : Tok) (s : Shared) (Q : Value → Shared → Prop) (E : Value → Shared → Prop), Q (.int (g i) s.toks) { s with toks := s.toks + 1 } → wpAny (model X.prog X.w) X.A (f (.int i t)) Q E s) :
    UnR X f (rU fun i => .int (g i)) := by
  intro pins s σ H x v Q I rx h
  obtain ⟨i, rfl, q⟩ := h
  obtain ⟨t, rfl⟩ := rx
  exact rule i t s _ _ ⟨.int (g i), H, I.tok _, ⟨_, rfl⟩, q⟩
theorem un_neg : UnR X (unaryOp .USub) (rU fun i => .int (-i)) := unI fun _ _ _ _ _ q => neg_int q
theorem un_inv : UnR X (unaryOp .Invert) (rU fun i => .int (Builtin.bitNot i)) := unI fun _ _ _ _ _ q => invert_int q

/-! ### bools among ints: n += (a < b) -/
theorem op_add_ib : OpR X (binaryOp .Add) (fun x y H Q => ∃ i k, x = .int i ∧ y = .bl k ∧ Q (.int (i + b2i k)) H) := by
  intro pins s σ H x y v u Q I rx ry h
  obtain ⟨i, k, rfl, rfl, q⟩ := h
  obtain ⟨t, rfl⟩ := rx
  cases ry
  exact add_int_bool ⟨.int (i + b2i k), H, I.tok _, ⟨_, rfl⟩, q⟩
end

/-! ### comparisons -/
/-- the scalars that == tells apart as data does -/
def scal : V → V → Bool
  | .non, .non => true | .non, .int _ => true | .int _, .non => true | .non, .bl _ => true | .bl _, .non => true | .non, .str _ => true | .str _, .non => true
  | .int _, .int _ => true | .bl _, .bl _ => true | .str _, .str _ => true | .byt _, .byt _ => true
  | .int _, .str _ => true | .str _, .int _ => true | .bl _, .str _ => true | .str _, .bl _ => true
  | _, _ => false
def rEq : R2 := fun x y H Q => scal x y = true ∧ Q (.bl (decide (x = y))) H
def rNe : R2 := fun x y H Q => scal x y = true ∧ Q (.bl (!decide (x = y))) H

theorem dec_int {i j : Int} : decide (V.int i = V.int j) = (i == j) := by
  rw [Bool.eq_iff_iff]
  simp
theorem dec_bl {i j : Bool} : decide (V.bl i = V.bl j) = (i == j) := by
  rw [Bool.eq_iff_iff]
  simp
theorem dec_str {i j : Str} : decide (V.str i = V.str j) = (i == j) := by
  rw [Bool.eq_iff_iff]
  simp
theorem dec_byt {i j : Array UInt8} : decide (V.byt i = V.byt j) = (i.toList == j.toList) := by
  rw [Bool.eq_iff_iff]
  cases i
  cases j
  simp

section
variable {X : Cx} {a b c : Expr} {ta tb tc : TE} {pos : Pos}
theorem fin_bl {pins : List (Addr × Obj)} {σ : St} {H : Hp} {s : Shared} {Q : VK} {k k' : Bool} (I : Inv X pins σ H s) (q : Q (.bl k) H) (e : k = k') : EP X pins σ Q (.bool k') s := by
  subst e
  exact ⟨.bl k, H, I, rfl, q⟩
theorem op_eq : OpR X (compareOp .Eq) rEq := by
  intro pins s σ H x y v u Q I rx ry h
  obtain ⟨hs, q⟩ := h
  cases x with
  | non =>
    cases rx
    cases y with
    | non => cases ry; exact PySem.EqNone.eq_none_none (fin_bl I q (by simp))
    | bl j => cases ry; exact PySem.EqNone.eq_none_bool (fin_bl I q (by simp))
    | int j => obtain ⟨t', rfl⟩ := ry; exact PySem.EqNone.eq_none_int (fin_bl I q (by simp))
    | str j => obtain ⟨t', rfl⟩ := ry; exact PySem.EqNone.eq_none_str (fin_bl I q (by simp))
    | _ => exact absurd (show false = true from hs) Bool.false_ne_true
  | bl i =>
    cases rx
    cases y with
    | non => cases ry; exact PySem.EqNone.eq_bool_none (fin_bl I q (by simp))
    | bl j => cases ry; exact eq_bool (fin_bl I q dec_bl)
    | str j => obtain ⟨t', rfl⟩ := ry; exact PySem.EqMixed.eq_bool_str (fin_bl I q (by simp))
    | _ => exact absurd (show false = true from hs) Bool.false_ne_true
  | int i =>
    obtain ⟨t, rfl⟩ := rx
    cases y with
    | non => cases ry; exact PySem.EqNone.eq_int_none (fin_bl I q (by simp))
    | int j => obtain ⟨t', rfl⟩ := ry; exact eq_int (fin_bl I q dec_int)
    | str j => obtain ⟨t', rfl⟩ := ry; exact PySem.EqMixed.eq_int_str (fin_bl I q (by simp))
    | _ => exact absurd (show false = true from hs) Bool.false_ne_true
  | str i =>
    obtain ⟨t, rfl⟩ := rx
    cases y with
    | non => cases ry; exact PySem.EqNone.eq_str_none (fin_bl I q (by simp))
    | bl j => cases ry; exact PySem.EqMixed.eq_str_bool (fin_bl I q (by simp))
    | int j => obtain ⟨t', rfl⟩ := ry; exact PySem.EqMixed.eq_str_int (fin_bl I q (by simp))
    | str j => obtain ⟨t', rfl⟩ := ry; exact eq_str (fin_bl I q dec_str)
    | _ => exact absurd (show false = true from hs) Bool.false_ne_true
  | byt i =>
    obtain ⟨t, rfl⟩ := rx
    cases y with
    | byt j => obtain ⟨t', rfl⟩ := ry; exact PySem.W.eq_bytes (fin_bl I q dec_byt)
    | _ => exact absurd (show false = true from hs) Bool.false_ne_true
  | _ => cases y <;> exact absurd (show false = true from hs) Bool.false_ne_true
theorem op_ne : OpR X (compareOp .NotEq) rNe := by
  intro pins s σ H x y v u Q I rx ry h
  obtain ⟨hs, q⟩ := h
  cases x with
  | non =>
    cases rx
    cases y with
    | non => cases ry; exact PySem.EqNone.ne_none_none (fin_bl I q (by simp))
    | bl j => cases ry; exact PySem.EqNone.ne_none_bool (fin_bl I q (by simp))
    | int j => obtain ⟨t', rfl⟩ := ry; exact PySem.EqNone.ne_none_int (fin_bl I q (by simp))
    | str j => obtain ⟨t', rfl⟩ := ry; exact PySem.EqNone.ne_none_str (fin_bl I q (by simp))
    | _ => exact absurd (show false = true from hs) Bool.false_ne_true
  | bl i =>
    cases rx
    cases y with
    | non => cases ry; exact PySem.EqNone.ne_bool_none (fin_bl I q (by simp))
    | bl j => cases ry; exact ne_bool (fin_bl I q (congrArg not dec_bl))
    | str j => obtain ⟨t', rfl⟩ := ry; exact PySem.EqMixed.ne_bool_str (fin_bl I q (by simp))
    | _ => exact absurd (show false = true from hs) Bool.false_ne_true
  | int i =>
    obtain ⟨t, rfl⟩ := rx
    cases y with
    | non => cases ry; exact PySem.EqNone.ne_int_none (fin_bl I q (by simp))
    | int j => obtain ⟨t', rfl⟩ := ry; exact ne_int (fin_bl I q (congrArg not dec_int))
    | str j => obtain ⟨t', rfl⟩ := ry; exact PySem.EqMixed.ne_int_str (fin_bl I q (by simp))
    | _ => exact absurd (show false = true from hs) Bool.false_ne_true
  | str i =>
    obtain ⟨t, rfl⟩ := rx
    cases y with
    | non => cases ry; exact PySem.EqNone.ne_str_none (fin_bl I q (by simp))
    | bl j => cases ry; exact PySem.EqMixed.ne_str_bool (fin_bl I q (by simp))
    | int j => obtain ⟨t', rfl⟩ := ry; exact PySem.EqMixed.ne_str_int (fin_bl I q (by simp))
    | str j => obtain ⟨t', rfl⟩ := ry; exact ne_str (fin_bl I q (congrArg not dec_str))
    | _ => exact absurd (show false = true from hs) Bool.false_ne_true
  | byt i =>
    obtain ⟨t, rfl⟩ := rx
    cases y with
    | byt j => obtain ⟨t', rfl⟩ := ry; exact PySem.W.ne_bytes (fin_bl I q (congrArg not dec_byt))
    | _ => exact absurd (show false = true from hs) Bool.false_ne_true
  | _ => cases y <;> exact absurd (show false = true from hs) Bool.false_ne_true

theorem op_lt : OpR X (compareOp .Lt) (rI0 fun i j => .bl (decide (i < j))) := opB0 fun _ _ _ _ _ _ _ q => lt_int q
theorem op_le : OpR X (compareOp .LtE) (rI0 fun i j => .bl (decide (i ≤ j))) := opB0 fun _ _ _ _ _ _ _ q => le_int q
theorem op_gt : OpR X (compareOp .Gt) (rI0 fun i j => .bl (decide (j < i))) := opB0 fun _ _ _ _ _ _ _ q => gt_int q
theorem op_ge : OpR X (compareOp .GtE) (rI0 fun i j => .bl (decide (j ≤ i))) := opB0 fun _ _ _ _ _ _ _ q => ge_int q
theorem op_lt_str : OpR X (compareOp .Lt) (fun x y H Q => ∃ i j, x = .str i ∧ y = .str j ∧ Q (.bl (decide (i.cps.toList < j.cps.toList))) H) := by
  intro pins s σ H x y v u Q I rx ry h
  obtain ⟨i, j, rfl, rfl, q⟩ := h
  obtain ⟨t, rfl⟩ := rx
  obtain ⟨t', rfl⟩ := ry
  exact lt_str (fin_bl I q rfl)
/-- the one string within the other -/
theorem op_in_str : OpR X (compareOp .In) (fun x y H Q => ∃ i j, x = .str i ∧ y = .str j ∧ Q (.bl (!(Builtin.Str.occurrences j i 0 j.length 1).isEmpty)) H) := by
  intro pins s σ H x y v u Q I rx ry h
  obtain ⟨i, j, rfl, rfl, q⟩ := h
  obtain ⟨t, rfl⟩ := rx
  obtain ⟨t', rfl⟩ := ry
  exact in_str (fin_bl I q rfl)

/-- is None, is not None: the right side a value none -/
theorem op_isN : OpR X (compareOp .Is) (fun x y H Q => y = .non ∧ Q (.bl (decide (x = .non))) H) := by
  intro pins s σ H x y v u Q I rx ry h
  obtain ⟨rfl, q⟩ := h
  cases ry
  refine is_none_gen (fin_bl I q ?_)
  cases x <;> first
    | (cases rx; rfl)
    | (obtain ⟨t, rfl⟩ := rx; rfl)
theorem op_notN : OpR X (compareOp .IsNot) (fun x y H Q => y = .non ∧ Q (.bl (!decide (x = .non))) H) := by
  intro pins s σ H x y v u Q I rx ry h
  obtain ⟨rfl, q⟩ := h
  cases ry
  refine isnot_none_gen (fin_bl I q ?_)
  cases x <;> first
    | (cases rx; rfl)
    | (obtain ⟨t, rfl⟩ := rx; rfl)

theorem op_notin_str : OpR X (compareOp .NotIn) (fun x y H Q => ∃ i j, x = .str i ∧ y = .str j ∧ Q (.bl (!(!(Builtin.Str.occurrences j i 0 j.length 1).isEmpty))) H) := by
  intro pins s σ H x y v u Q I rx ry h
  obtain ⟨i, j, rfl, rfl, q⟩ := h
  obtain ⟨t, rfl⟩ := rx
  obtain ⟨t', rfl⟩ := ry
  exact notIn_str (fin_bl I q rfl)
/-- is, is not of two objects that are tracked lists or instances -/
def isObj : HO → Bool
  | .lst _ => true
  | .ins _ _ _ => true
  | _ => false
theorem obj_there {pins : List (Addr × Obj)} {s : Shared} {σ : St} {H : Hp} {a : Addr} {o : HO} (I : Inv X pins σ H s) (h : H a = some o) (p : isObj o = true) : ∃ ob, s.heap.get? a = some ob ∧ ob.cls ≠ .type "tuple" := by
  cases o with
  | lst xs =>
    obtain ⟨_, its, n, _, e⟩ : xs.length ≤ sizeLine ∧ ∃ (its : List Value) (n : Nat), Vals xs its ∧ s.heap.get? a = some { cls := .type "list", data := .seq its.toArray n } := I.hok a _ h
    exact ⟨_, e, (by show Value.type "list" ≠ .type "tuple"; decide +kernel)⟩
  | ins C dx fs =>
    have x := I.hok a _ h
    obtain ⟨_, _, _, e, _⟩ := x
    exact ⟨_, e, (by show Value.ref C ≠ .type "tuple"; exact fun z => by cases z)⟩
  | _ => exact absurd (show false = true from p) Bool.false_ne_true
theorem op_is_ref : OpR X (compareOp .Is) (fun x y H Q => ∃ a b oa ob, x = .ref a ∧ y = .ref b ∧ H a = some oa ∧ isObj oa = true ∧ H b = some ob ∧ isObj ob = true ∧ Q (.bl (decide (a = b))) H) := by
  intro pins s σ H x y v u Q I rx ry h
  obtain ⟨a, b, oa, ob, rfl, rfl, ha, pa, hb, pb, q⟩ := h
  cases rx
  cases ry
  obtain ⟨o1, e1, n1⟩ := obj_there I ha pa
  obtain ⟨o2, e2, _⟩ := obj_there I hb pb
  by_cases z : a = b
  · subst z
    exact wpAny_is_ref_self (fin_bl I q (by simp))
  · exact wpAny_is_ref_other z e1 e2 n1 (fin_bl I q (by simp [z]))
theorem op_isnot_ref : OpR X (compareOp .IsNot) (fun x y H Q => ∃ a b oa ob, x = .ref a ∧ y = .ref b ∧ H a = some oa ∧ isObj oa = true ∧ H b = some ob ∧ isObj ob = true ∧ Q (.bl (!decide (a = b))) H) := by
  intro pins s σ H x y v u Q I rx ry h
  obtain ⟨a, b, oa, ob, rfl, rfl, ha, pa, hb, pb, q⟩ := h
  cases rx
  cases ry
  obtain ⟨o1, e1, n1⟩ := obj_there I ha pa
  obtain ⟨o2, e2, _⟩ := obj_there I hb pb
  by_cases z : a = b
  · subst z
    exact wpAny_isNot_ref_self (fin_bl I q (by simp))
  · exact wpAny_isNot_ref_other z e1 e2 n1 (fin_bl I q (by simp [z]))

/-- two rules for one operation: by cases -/
theorem OpR.or {f : Value → Value → Sem Value} {r r' : R2} (h : OpR X f r) (h' : OpR X f r') : OpR X f (fun x y H Q => r x y H Q ∨ r' x y H Q) := by
  intro pins s σ H x y v u Q I rx ry q
  rcases q with q | q
  · exact h pins s σ H x y v u Q I rx ry q
  · exact h' pins s σ H x y v u Q I rx ry q

theorem nomark (b : Expr) {op : CmpOp} (h : op ≠ .In := by decide) (h2 : op ≠ .NotIn := by decide) : behindInMarks op b = false := by
  have e1 : (op == CmpOp.In) = false := by cases op <;> first | rfl | exact absurd rfl h
  have e2 : (op == CmpOp.NotIn) = false := by cases op <;> first | rfl | exact absurd rfl h2
  cases b <;> simp [behindInMarks, e1, e2]
/-- a comparison as a value; hm: nomark b, or (for in, not in) by with_unfolding_all rfl -/
theorem pe_cmpR {op : CmpOp} {r : R2} (ho : OpR X (compareOp op) r) (ha : PE X a ta) (hb : PE X b tb) (hm : behindInMarks op b = false) : PE X (.Compare a [op] [b] pos) (tOp r ta tb) := by
  intro pins s σ H Q I h
  exact wpAny_Compare1 (binT ha hb I h fun v u s2 x y H2 I2 rx ry q => ho pins s2 σ H2 x y v u Q I2 rx ry q) hm
/-- a reading of a value as a test -/
def tTest (t : TE) : TT := fun σ H Q => t σ H fun x H' => ∃ k, x = .bl k ∧ Q k H'
theorem pt_cmpR {op : CmpOp} {r : R2} (ho : OpR X (compareOp op) r) (ha : PE X a ta) (hb : PE X b tb) (hm : behindInMarks op b = false) : PT X (.Compare a [op] [b] pos) (tTest (tOp r ta tb)) := by
  intro pins s σ H Q I h
  refine wpAny_isTrue_Compare1 (thn (ha pins s σ H _ I h) fun v s1 ⟨x, H1, I1, r1, q1⟩ => thn (hb pins s1 σ H1 _ I1 q1) fun u s2 ⟨y, H2, I2, r2, q2⟩ =>
    thn (ho pins s2 σ H2 x y v u _ I2 r1 r2 q2) fun c s3 ⟨z, H3, I3, r3, k, e, q3⟩ => ?_) hm
  subst e
  cases r3
  exact wpAny_truthy_bool ⟨H3, I3, q3⟩
/-- a op1 b op2 c -/
def tChain (r r' : R2) (ta tb tc : TE) : TE := fun σ H Q => ta σ H fun x H1 => tb σ H1 fun y H2 => r x y H2 fun z H3 => ∃ k, z = .bl k ∧
  (if k = true then tc σ H3 fun w' H4 => r' y w' H4 Q else Q (.bl false) H3)
theorem pe_chain {op op' : CmpOp} {r r' : R2} (ho : OpR X (compareOp op) r) (ho' : OpR X (compareOp op') r') (ha : PE X a ta) (hb : PE X b tb) (hc : PE X c tc)
    (hm : lastMarks [op, op'] [b, c] = false := by with_unfolding_all rfl) : PE X (.Compare a [op, op'] [b, c] pos) (tChain r r' ta tb tc) := by
  intro pins s σ H Q I h
  refine Compare_chain (thn (ha pins s σ H _ I h) fun v s1 ⟨x, H1, I1, r1, q1⟩ => chain_link (thn (hb pins s1 σ H1 _ I1 q1) fun u s2 ⟨y, H2, I2, r2, q2⟩ =>
    thn (ho pins s2 σ H2 x y v u _ I2 r1 r2 q2) fun d s3 ⟨z, H3, I3, r3, k, e, q3⟩ => ?_)) hm
  subst e
  cases r3
  refine wpAny_truthy_bool ?_
  cases k with
  | false => exact ite_ff ⟨.bl false, H3, I3, rfl, q3⟩
  | true => exact ite_tt (chain_last (thn (hc pins s3 σ H3 _ I3 q3) fun w' s4 ⟨z', H4, I4, r4, q4⟩ => ho' pins s4 σ H4 y z' u w' Q I4 r2 r4 q4))
theorem pt_chain {op op' : CmpOp} {r r' : R2} (ho : OpR X (compareOp op) r) (ho' : OpR X (compareOp op') r') (ha : PE X a ta) (hb : PE X b tb) (hc : PE X c tc)
    (hm : lastMarks [op, op'] [b, c] = false := by with_unfolding_all rfl) : PT X (.Compare a [op, op'] [b, c] pos) (tTest (tChain r r' ta tb tc)) := by
  intro pins s σ H Q I h
  refine isTrue_chain (thn (ha pins s σ H _ I h) fun v s1 ⟨x, H1, I1, r1, q1⟩ => test_link (thn (hb pins s1 σ H1 _ I1 q1) fun u s2 ⟨y, H2, I2, r2, q2⟩ =>
    thn (ho pins s2 σ H2 x y v u _ I2 r1 r2 q2) fun d s3 ⟨z, H3, I3, r3, k, e, q3⟩ => ?_)) hm
  subst e
  cases r3
  refine wpAny_truthy_bool ?_
  cases k with
  | false =>
    obtain ⟨k', e', q'⟩ := q3
    cases e'
    exact ite_ff ⟨H3, I3, q'⟩
  | true =>
    refine ite_tt (test_last (thn (hc pins s3 σ H3 _ I3 q3) fun w' s4 ⟨z', H4, I4, r4, q4⟩ => thn (ho' pins s4 σ H4 y z' u w' _ I4 r2 r4 q4) fun d' s5 ⟨z2, H5, I5, r5, k2, e2, q5⟩ => ?_))
    subst e2
    cases r5
    exact wpAny_truthy_bool ⟨H5, I5, q5⟩

/-! ### truth -/
/-- a value's truth by the abstract heap -/
def TruV (K : PySem.W.Frag) (x : V) (H : Hp) (k : Bool) : Prop :=
  match x with
  | .non => k = false
  | .bl b => k = b
  | .int i => k = (i != 0)
  | .str y => y.length ≤ sizeLine ∧ k = ((y.length : Int) != 0)
  | .byt y => y.size ≤ sizeLine ∧ k = ((y.size : Int) != 0)
  | .ref p => (∃ xs, SqL K H p xs ∧ k = !xs.isEmpty) ∨ (∃ xs, SqT K H p xs ∧ k = !xs.isEmpty) ∨ ∃ kvs, H p = some (.dK kvs) ∧ k = !kvs.isEmpty
  | _ => False
theorem isEmpty_kv {κ : Type} {kvs : List (κ × V)} {vs : List (κ × Value)} (r : KV kvs vs) : (!vs.isEmpty) = !kvs.isEmpty := by
  cases r <;> rfl
theorem isEmpty_of {xs : List V} {its : List Value} (r : Vals xs its) : (!its.toArray.isEmpty) = !xs.isEmpty := by
  cases r <;> simp
theorem line63 : (sizeLine : Nat) < 2 ^ 63 := by rw [sizeLine_eq]; decide
theorem tru_ok : TruR X (fun x H Q => ∃ k, TruV X.K x H k ∧ Q k H) := by
  intro pins s σ H x v Q I rx h
  obtain ⟨k, e, q⟩ := h
  have hl := line63
  have hs : sizeLine = 16777216 := sizeLine_eq
  cases x with
  | non =>
    cases rx
    have e' : k = false := e
    subst e'
    exact truthy_none ⟨H, I, q⟩
  | bl b =>
    cases rx
    have e' : k = b := e
    subst e'
    exact wpAny_truthy_bool ⟨H, I, q⟩
  | int i =>
    obtain ⟨t, rfl⟩ := rx
    have e' : k = (i != 0) := e
    subst e'
    exact PySem.P.truthy_int ⟨H, I, q⟩
  | str y =>
    obtain ⟨t, rfl⟩ := rx
    obtain ⟨hy, e'⟩ : y.length ≤ sizeLine ∧ k = ((y.length : Int) != 0) := e
    subst e'
    exact PySem.P.truthy_str (by omega) ⟨H, I.tok _, q⟩
  | byt y =>
    obtain ⟨t, rfl⟩ := rx
    obtain ⟨hy, e'⟩ : y.size ≤ sizeLine ∧ k = ((y.size : Int) != 0) := e
    subst e'
    exact PySem.W.truthy_bytes (by omega) ⟨H, I.tok _, q⟩
  | ref p =>
    cases rx
    have e' : (∃ xs, SqL X.K H p xs ∧ k = !xs.isEmpty) ∨ (∃ xs, SqT X.K H p xs ∧ k = !xs.isEmpty) ∨ ∃ kvs, H p = some (.dK kvs) ∧ k = !kvs.isEmpty := e
    rcases e' with ⟨xs, hx, e'⟩ | ⟨xs, hx, e'⟩ | ⟨kvs, hx, e'⟩
    · subst e'
      obtain ⟨its, r, pl, hz⟩ := I.list hx
      have hlen := r.length
      exact wpAny_truthy_list pl.isList (by simp only [List.size_toArray]; omega) ⟨H, I.tok _, by rw [isEmpty_of r]; exact q⟩
    · subst e'
      obtain ⟨its, r, pl, hz⟩ := I.tuple hx
      have hlen := r.length
      exact truthy_tuple pl (by simp only [List.size_toArray]; omega) ⟨H, I.tok _, by rw [isEmpty_of r]; exact q⟩
    · subst e'
      obtain ⟨hz, hS, vs, r, m⟩ : kvs.length ≤ sizeLine ∧ (p == sysModules) = false ∧ ∃ vs, KV kvs vs ∧ s.heap.DictOf (mixKind X.prog X.w) p vs := I.hok p _ hx
      have hlen : kvs.length = vs.length := Paired.length r
      exact wpAny_truthy_dict hS m (by omega) ⟨H, I.tok _, by rw [isEmpty_kv r]; exact q⟩
  | _ => exact (show False from e).elim
/-- any expression whose test is its value's truth (a name, a call, a subscript, a field ..: he by fun _ => rfl) -/
theorem pt_truth (ha : PE X a ta) (he : ∀ whole, isTrue a X.env whole = (do let v ← whole; standAt a.pos; holding [v] (truthy v))) :
    PT X a (fun σ H Q => ta σ H fun x H' => ∃ k, TruV X.K x H' k ∧ Q k H') := by
  intro pins s σ H Q I h
  exact isTrue_plain (thn (ha pins s σ H _ I h) fun v s1 ⟨x, H1, I1, r1, q1⟩ => tru_ok pins s1 σ H1 x v Q I1 r1 q1) (he _)

/-! ### strs and bytes -/
theorem pe_byt {x : List UInt8} {k : Nat} : PE X (.Constant (.bytes x) k pos) (fun _ H Q => Q (.byt x.toArray) H) := fun _ _ _ H _ I h => PySem.W.Constant_bytes ⟨.byt x.toArray, H, I.tok _, ⟨_, rfl⟩, h⟩
theorem op_add_str : OpR X (binaryOp .Add) (fun x y H Q => ∃ i j, x = .str i ∧ y = .str j ∧ i.length + j.length ≤ sizeLine ∧ Q (.str (i ++ j)) H) := by
  intro pins s σ H x y v u Q I rx ry h
  obtain ⟨i, j, rfl, rfl, hz, q⟩ := h
  obtain ⟨t, rfl⟩ := rx
  obtain ⟨t', rfl⟩ := ry
  exact add_str (fun t' tk => ⟨.str (i ++ j), H, I.tok _, ⟨_, rfl⟩, q⟩) hz
theorem iop_add_str : OpR X (inplaceOp .Add) (fun x y H Q => ∃ i j, x = .str i ∧ y = .str j ∧ i.length + j.length ≤ sizeLine ∧ Q (.str (i ++ j)) H) := by
  intro pins s σ H x y v u Q I rx ry h
  obtain ⟨i, j, rfl, rfl, hz, q⟩ := h
  obtain ⟨t, rfl⟩ := rx
  obtain ⟨t', rfl⟩ := ry
  exact iadd_str (fun t' tk => ⟨.str (i ++ j), H, I.tok _, ⟨_, rfl⟩, q⟩) hz
theorem op_add_byt : OpR X (binaryOp .Add) (fun x y H Q => ∃ i j, x = .byt i ∧ y = .byt j ∧ i.size + j.size ≤ 16777216 ∧ Q (.byt (i ++ j)) H) := by
  intro pins s σ H x y v u Q I rx ry h
  obtain ⟨i, j, rfl, rfl, hz, q⟩ := h
  obtain ⟨t, rfl⟩ := rx
  obtain ⟨t', rfl⟩ := ry
  exact PySem.W.KBy.add_bytes hz (fun t' tk => ⟨.byt (i ++ j), H, I.tok _, ⟨_, rfl⟩, q⟩)

def PlainIxT (b : Expr) : Prop := ∀ o i, subscripted b false o i = operate [o, i] (getItem o i)
/-- s[i], 0 ≤ i < len -/
theorem pe_item_str (ha : PE X a ta) (hb : PE X b tb) (hs : PlainIxT b) :
    PE X (.Subscript a b pos) (tOp (fun x y H Q => ∃ z i c, x = .str z ∧ y = .int i ∧ 0 ≤ i ∧ i < 2 ^ 63 ∧ i < z.length ∧ z.cps[i.toNat]? = some c ∧ Q (.str ⟨#[c]⟩) H) ta tb) := by
  intro pins s σ H Q I h
  refine Subscript_ (binT ha hb I h fun v u s2 x y H2 I2 rx ry q => ?_)
  obtain ⟨z, i, c, rfl, rfl, h0, h63, h1, hc, q⟩ := q
  obtain ⟨t, rfl⟩ := rx
  obtain ⟨t', rfl⟩ := ry
  have e : seqIndex? i z.length = some i.toNat := PySem.StrLaws.seqIndex_nonneg h0 h1
  exact tail_any (typeIs_str s2 z t) slot_str_getitem.lookup (getItem_str (c := c) (by
    have e1 : decide (i < -(2 ^ 63 : Int)) = false := decide_eq_false (by omega)
    have e2 : decide (i ≥ 2 ^ 63) = false := decide_eq_false (by omega)
    rw [e1, e2] <;> rfl) (by rw [e]; exact hc) ⟨.str ⟨#[c]⟩, H2, I2.tok _, ⟨_, rfl⟩, q⟩) (hs _ _)
/-- b[i], 0 ≤ i < len -/
theorem pe_item_byt (ha : PE X a ta) (hb : PE X b tb) (hs : PlainIxT b) :
    PE X (.Subscript a b pos) (tOp (fun x y H Q => ∃ (z : List UInt8) (i : Int), x = .byt z.toArray ∧ y = .int i ∧ z.length ≤ sizeLine ∧ 0 ≤ i ∧ i < z.length ∧ Q (.int ((z.getD i.toNat 0).toNat : Nat)) H) ta tb) := by
  intro pins s σ H Q I h
  refine Subscript_ (binT ha hb I h fun v u s2 x y H2 I2 rx ry q => ?_)
  obtain ⟨z, i, rfl, rfl, hz, h0, h1, q⟩ := q
  obtain ⟨t, rfl⟩ := rx
  obtain ⟨t', rfl⟩ := ry
  have hl : sizeLine = 16777216 := sizeLine_eq
  exact tail_any (PySem.W.typeIs_bytes s2 z.toArray t) PySem.W.FB.slot_bytes_getitem.lookup (PySem.W.getItem_bytes (by omega) h0 h1 ⟨.int ((z.getD i.toNat 0).toNat : Nat), H2, I2.tok _, ⟨_, rfl⟩, q⟩) (hs _ _)

/-! ### scalar builtins, by CallR -/
theorem vals1 {x : V} {us : List Value} (r : Vals [x] us) : ∃ u, us = [u] ∧ RelV x u := by
  cases r with
  | cons r1 r2 => cases r2; exact ⟨_, rfl, r1⟩
theorem vals2 {x y : V} {us : List Value} (r : Vals [x, y] us) : ∃ u w', us = [u, w'] ∧ RelV x u ∧ RelV y w' := by
  cases r with
  | cons r1 r2 =>
    cases r2 with
    | cons r3 r4 => cases r4; exact ⟨_, _, rfl, r1, r3⟩
theorem call_abs : CallR X (.builtin "abs") (fun xs H Q => ∃ i, xs = [.int i] ∧ Q (.int (if i < 0 then -i else i)) H) := by
  intro pins s σ H xs us Q I r h
  obtain ⟨i, rfl, q⟩ := h
  obtain ⟨u, rfl, t, rfl⟩ := vals1 r
  exact call_abs_int fun u tk => ⟨.int (if i < 0 then -i else i), H, I.tok _, ⟨_, rfl⟩, q⟩
theorem call_max2 (hc : X.calm = true) : CallR X (.builtin "max") (fun xs H Q => ∃ i j, xs = [.int i, .int j] ∧ Q (.int (if j > i then j else i)) H) := by
  intro pins s σ H xs us Q I r h
  obtain ⟨i, j, rfl, q⟩ := h
  obtain ⟨u, w', rfl, ⟨t, rfl⟩, ⟨t', rfl⟩⟩ := vals2 r
  refine max_two_ints (I.ok.hd hc) fun h' tk k => ⟨_, H, I.kept k, ?_, q⟩
  by_cases hj : j > i
  · rw [if_pos hj, if_pos hj]; exact ⟨_, rfl⟩
  · rw [if_neg hj, if_neg hj]; exact ⟨_, rfl⟩
theorem call_min2 (hc : X.calm = true) : CallR X (.builtin "min") (fun xs H Q => ∃ i j, xs = [.int i, .int j] ∧ Q (.int (if j < i then j else i)) H) := by
  intro pins s σ H xs us Q I r h
  obtain ⟨i, j, rfl, q⟩ := h
  obtain ⟨u, w', rfl, ⟨t, rfl⟩, ⟨t', rfl⟩⟩ := vals2 r
  refine min_two_ints (I.ok.hd hc) fun h' tk k => ⟨_, H, I.kept k, ?_, q⟩
  by_cases hj : j < i
  · rw [if_pos hj, if_pos hj]; exact ⟨_, rfl⟩
  · rw [if_neg hj, if_neg hj]; exact ⟨_, rfl⟩
theorem call_int1 : CallR X (.type "int") (fun xs H Q => (∃ i, xs = [.int i] ∧ Q (.int i) H) ∨ ∃ k, xs = [.bl k] ∧ Q (.int (if k then 1 else 0)) H) := by
  intro pins s σ H xs us Q I r h
  rcases h with ⟨i, rfl, q⟩ | ⟨k, rfl, q⟩
  · obtain ⟨u, rfl, t, rfl⟩ := vals1 r
    exact call_int_int ⟨.int i, H, I, ⟨_, rfl⟩, q⟩
  · obtain ⟨u, rfl, r1⟩ := vals1 r
    cases r1
    exact call_int_bool ⟨.int (if k then 1 else 0), H, I.tok _, ⟨_, rfl⟩, q⟩
theorem call_bool1 : CallR X (.type "bool") (fun xs H Q => (∃ i, xs = [.int i] ∧ Q (.bl (i != 0)) H) ∨ ∃ k, xs = [.bl k] ∧ Q (.bl k) H) := by
  intro pins s σ H xs us Q I r h
  rcases h with ⟨i, rfl, q⟩ | ⟨k, rfl, q⟩
  · obtain ⟨u, rfl, t, rfl⟩ := vals1 r
    exact call_bool_int ⟨.bl (i != 0), H, I, rfl, q⟩
  · obtain ⟨u, rfl, r1⟩ := vals1 r
    cases r1
    exact call_bool_bool ⟨.bl k, H, I, rfl, q⟩
theorem call_str_int : CallR X (.type "str") (fun xs H Q => ∃ i, xs = [.int i] ∧ i.natAbs.log2 < 1920 ∧ Q (.str (toString i)) H) := by
  intro pins s σ H xs us Q I r h
  obtain ⟨i, rfl, hz, q⟩ := h
  obtain ⟨u, rfl, t, rfl⟩ := vals1 r
  exact PySem.P.str_of_int hz ⟨.str _, H, I.tok _, ⟨_, rfl⟩, q⟩
theorem call_ord : CallR X (.builtin "ord") (fun xs H Q => ∃ x, xs = [.str x] ∧ x.length = 1 ∧ Q (.int (x.cps.getD 0 0 : Nat)) H) := by
  intro pins s σ H xs us Q I r h
  obtain ⟨x, rfl, hz, q⟩ := h
  obtain ⟨u, rfl, t, rfl⟩ := vals1 r
  exact ord_of_one hz ⟨.int _, H, I.tok _, ⟨_, rfl⟩, q⟩
theorem call_chr : CallR X (.builtin "chr") (fun xs H Q => ∃ i, xs = [.int i] ∧ 0 ≤ i ∧ i ≤ 1114111 ∧ Q (.str ⟨#[i.toNat]⟩) H) := by
  intro pins s σ H xs us Q I r h
  obtain ⟨i, rfl, h0, h1, q⟩ := h
  obtain ⟨u, rfl, t, rfl⟩ := vals1 r
  exact chr_of_range h0 h1 ⟨.str _, H, I.tok _, ⟨_, rfl⟩, q⟩
/-- len of a str, a bytes, a list, a tuple -/
def LenV (K : PySem.W.Frag) (x : V) (H : Hp) (n : Nat) : Prop :=
  match x with
  | .str y => y.length ≤ sizeLine ∧ n = y.length
  | .byt y => y.size ≤ sizeLine ∧ n = y.size
  | .ref p => (∃ xs, SqL K H p xs ∧ n = xs.length) ∨ ∃ xs, SqT K H p xs ∧ n = xs.length
  | _ => False
theorem call_len : CallR X (.builtin "len") (fun xs H Q => ∃ x n, xs = [x] ∧ LenV X.K x H n ∧ Q (.int n) H) := by
  intro pins s σ H xs us Q I r h
  obtain ⟨x, n, rfl, e, q⟩ := h
  obtain ⟨u, rfl, rx⟩ := vals1 r
  have hl := line63
  have hs : sizeLine = 16777216 := sizeLine_eq
  cases x with
  | str y =>
    obtain ⟨t, rfl⟩ := rx
    obtain ⟨hy, e'⟩ : y.length ≤ sizeLine ∧ n = y.length := e
    subst e'
    exact len_str (by omega) ⟨.int _, H, I.tok _, ⟨_, rfl⟩, q⟩
  | byt y =>
    obtain ⟨t, rfl⟩ := rx
    obtain ⟨hy, e'⟩ : y.size ≤ sizeLine ∧ n = y.size := e
    subst e'
    exact PySem.W.len_bytes (by omega) ⟨.int _, H, I.tok _, ⟨_, rfl⟩, q⟩
  | ref p =>
    cases rx
    have e' : (∃ xs, SqL X.K H p xs ∧ n = xs.length) ∨ ∃ xs, SqT X.K H p xs ∧ n = xs.length := e
    rcases e' with ⟨xs, hx, e'⟩ | ⟨xs, hx, e'⟩
    · subst e'
      obtain ⟨its, r', pl, hz⟩ := I.list hx
      have hlen := r'.length
      exact Calls.call_len_list pl.isList (by simp only [List.size_toArray]; omega) ⟨.int xs.length, H, I.tok _, ⟨_, by simp only [List.size_toArray]; rw [hlen]⟩, q⟩
    · subst e'
      obtain ⟨its, r', pl, hz⟩ := I.tuple hx
      have hlen := r'.length
      exact len_tuple pl (by simp only [List.size_toArray]; omega) ⟨.int xs.length, H, I.tok _, ⟨_, by simp only [List.size_toArray]; rw [hlen]⟩, q⟩
  | _ => exact (show False from e).elim
/-- divmod: a new tuple -/
theorem call_divmod : CallR X (.builtin "divmod") (fun xs H Q => ∃ i j, xs = [.int i, .int j] ∧ CDiv i j ∧ ∀ p, H p = none → Q (.ref p) (upd H p (.tup [.int (i / j), .int (i % j)]))) := by
  intro pins s σ H xs us Q I r h
  obtain ⟨i, j, rfl, ⟨h1, h2⟩, q⟩ := h
  obtain ⟨u, w', rfl, ⟨t, rfl⟩, ⟨t', rfl⟩⟩ := vals2 r
  refine divmod_int (by omega) ?_ (.inl (PyProof.noPylong_small (by omega)))
  rw [Int.fdiv_eq_ediv_of_nonneg i (by omega), Int.fmod_eq_emod_of_nonneg i (by omega)]
  have hn : H s.heap.objs.size = none := I.hok.fresh (Nat.le_refl _)
  refine ⟨.ref s.heap.objs.size, _, ?_, rfl, q _ hn⟩
  refine I.laid (fun b o e => Heap.get?_push_of_some _ e) (Nat.le_refl _) ⟨by simp only [List.length_cons, List.length_nil]; rw [sizeLine_eq]; decide, [.int (i / j) s.toks, .int (i % j) (s.toks + 1)], .cons ⟨_, rfl⟩ (.cons ⟨_, rfl⟩ .nil), ?_⟩
  exact ⟨_, Heap.get?_push_size s.heap rfl, rfl, 0, rfl⟩
end
end L2

namespace L2
open PySem PySem.Spec PyProof.Rows

/-! ### an instance, its attributes a map -/
structure ObjM (h : Heap) (x dx C : Addr) (mA : Str → Option Value) : Prop where
  obj : h.get? x = some (PySem.W.instObj C dx)
  ns : h.Ns1 dx mA
  ne : dx ≠ x

theorem lookIn_ns {h : Heap} {dx : Addr} {mA : Str → Option Value} (n : h.Ns1 dx mA) : ∃ od, h.get? dx = some od ∧ ∀ name, PySem.W.lookIn name od = some (mA name) := by
  obtain ⟨o, es, ep, ho, hd, hk, _, hm⟩ := n
  refine ⟨o, ho, fun name => ?_⟩
  have e := hm name
  unfold nsFind findBy at e
  rw [← Array.find?_toList] at e
  unfold PySem.W.lookIn
  rw [hd]
  dsimp only
  split
  · rename_i y q
    rw [q] at e
    exact congrArg some e
  · rename_i q
    rw [q] at e
    have a : es.toList.any (·.refKey) = false := by
      rw [List.any_eq_false]
      intro y hy
      obtain ⟨z, t, hkey⟩ := hk y (Array.mem_toList_iff.mp hy)
      simp [DictEntry.refKey, hkey]
    have a' : ¬ es.toList.any (·.refKey) = true := by rw [a]; exact Bool.false_ne_true
    rw [if_neg a']
    exact congrArg some e

theorem ObjM.look {h : Heap} {x dx C : Addr} {mA : Str → Option Value} (I : ObjM h x dx C mA) : ∃ od, PySem.W.InstAt h x (PySem.W.instObj C dx) C (some od) ∧ ∀ name, PySem.W.lookIn name od = some (mA name) :=
  let ⟨od, ho, hl⟩ := lookIn_ns I.ns
  ⟨od, ⟨I.obj, rfl, rfl, ho⟩, hl⟩

section
variable {prog : Program} {w : World} {A : Around} {E : Value → Shared → Prop} {s : Shared} {K : PySem.W.Frag} {x dx C f : Addr} {mA : Str → Option Value} {name : Str} {v : Value}

theorem get_map {expr : Bool} {Q : Value → Shared → Prop} (X : K.In s.heap) (I : ObjM s.heap x dx C mA) (hg : PySem.W.plainGet K C name = true) (hh : PySem.W.hasDictIn K C = true)
    (ha : PySem.W.findIn K (.ref C) name = some none) (hv : mA name = some v) (hv' : PySem.W.handedIn v = true) (h : Q v { s with toks := s.toks + 1 }) :
    wpAny (model prog w) A (getAttr (.ref x) name expr) Q E s := by
  obtain ⟨od, J, hl⟩ := I.look
  exact PySem.W.get_value X J (PySem.W.plainGet_of hg).1 (PySem.W.findObj_own hh ha rfl (by rw [hl, hv])) hv' h

theorem get_const {expr : Bool} {a : Value} {Q : Value → Shared → Prop} (X : K.In s.heap) (I : ObjM s.heap x dx C mA) (hg : PySem.W.plainGet K C name = true) (hh : PySem.W.hasDictIn K C = true)
    (ha : PySem.W.findIn K (.ref C) name = some (some a)) (hn : PySem.W.specialIn K a "__get__" = some none) (hc : PySem.W.copiedNames.contains name = false) (hv : mA name = none) (hv' : PySem.W.handedIn a = true)
    (h : Q a { s with toks := s.toks + 1 }) : wpAny (model prog w) A (getAttr (.ref x) name expr) Q E s := by
  obtain ⟨od, J, hl⟩ := I.look
  exact PySem.W.get_value X J (PySem.W.plainGet_of hg).1 (PySem.W.findObj_cls hh ha hn hv' hc (by rw [hl, hv])) hv' h

theorem get_meth {pl : Sem Bool} {Q : Value × List Value → Shared → Prop} (X : K.In s.heap) (I : ObjM s.heap x dx C mA) (hg : PySem.W.plainGet K C name = true)
    (hf : PySem.W.findIn K (.ref C) name = some (some (.ref f))) (ht : PySem.W.isFn K (.ref f) = true) (hv : mA name = none) (h : Q (.ref f, [.ref x]) s) :
    wpAny (model prog w) A (getMethod (.ref x) name pl) Q E s := by
  obtain ⟨od, J, hl⟩ := I.look
  exact PySem.W.method_fn X J (PySem.W.plainGet_of hg).1 (PySem.W.plainGet_of hg).2 hf (beq_iff_eq.mp ht) (by show (PySem.W.lookIn name od).map (·.isSome) = some false; rw [hl, hv]; rfl) h

theorem set_map {ns : List Str} {Q : Unit → Shared → Prop} (X : K.In s.heap) (I : ObjM s.heap x dx C mA)
    (hs : PySem.W.findIn K (.ref C) "__setattr__" = some (some (.builtin "object.__setattr__"))) (hp : PySem.W.plainOver K C = true) (ht : PySem.W.takerIn K C name = some none) (hh : PySem.W.hasDictIn K C = true)
    (hw : PySem.Within mA ns) (hsz : ns.length ≤ sizeLine)
    (h : ∀ h', ObjM h' x dx C (fun y => if y = name then some v else mA y) → Heap.SameBut dx s.heap h' → Q () { s with heap := h', toks := s.toks + 2 }) :
    wpAny (model prog w) A (setAttr (.ref x) name v) Q E s := by
  obtain ⟨od, J, hl⟩ := I.look
  refine PySem.W.set_plain X J hs (PySem.W.osa_open (s := { s with toks := s.toks + 1 }) (r := none) X J hp ht fun b => ?_)
  obtain ⟨cd, hc, hd'⟩ := PySem.W.any_some hh
  have hx : s.heap.get? x = some ⟨.ref C, some dx, .plain, #[]⟩ := I.obj
  refine wpAny_bind (wpAny_pure (wpAny_bind (wpAny_bind (wpAny_loadPart hx (wpAny_bind (PySem.W.Looks.here (s := { s with toks := s.toks + 1 }) (PySem.W.looks_clsIn X hc) ?_))))))
  rw [hd']
  refine wpAny_pure (a := some dx) (wpAny_bind (wpAny_pure (wpAny_bind ?_)))
  refine wpAny_nsSet1 (s := { s with toks := s.toks + 1 }) I.ns fun h' hn2 hs2 => ?_
  obtain ⟨oD, esD, epD, hoD, hdD, hcD⟩ := hn2.count (PySem.Within.cons name v hw)
  refine wpAny_bind (wpAny_lookBehind hoD (by rw [hdD]; exact pastItsLine_dict (Nat.le_trans hcD (by rw [List.length_cons]; omega))) ?_)
  exact wpAny_pure (h _ ⟨(hs2.2 _ (Ne.symm I.ne)).trans I.obj, hn2, I.ne⟩ hs2)

/-- C(..): the dict at the heap's end, the instance behind it; then its __init__ -/
theorem make_map {R : Result → Shared → Prop} {vs : List Value} {kw : List (Str × Value)} (X : K.In s.heap) (hm : PySem.W.makesIn K C = true)
    (hi : PySem.W.findIn K (.ref C) "__init__" = some (some (.ref f))) (hf : PySem.W.typeIn K (.ref f) = some (.type "function"))
    (h : codeAny (model prog w) (A.under (.builtin "type.__call__" ⟨.ref C :: vs, kw⟩)) (.call (.ref f) ⟨.ref (s.heap.objs.size + 1) :: vs, kw⟩) (PySem.W.InitBack (s.heap.objs.size + 1) R)
      { s with heap := (s.heap.push PySem.W.emptyDict).push (PySem.W.instObj C s.heap.objs.size) }) :
    codeAny (model prog w) A (.call (.ref C) ⟨vs, kw⟩) R s := by
  obtain ⟨hh, g, d, t, os⟩ := s
  exact PySem.W.make_core (PySem.W.makes_of X hm) (PySem.W.looks_findIn X hi) (fun self => PySem.W.bind_fn X self hf) (.inl rfl) h
/-- C() where there is no __init__ but object's -/
theorem make_map0 {R : Result → Shared → Prop} (X : K.In s.heap) (hm : PySem.W.makesIn K C = true)
    (hi : PySem.W.findIn K (.ref C) "__init__" = some (some (.builtin "object.__init__")))
    (hb : ∀ self, PySem.W.Looks (model prog w) s.heap (bindSpecial (.builtin "object.__init__") self) (.builtin "object.__init__", [self]))
    (h : codeAny (model prog w) (A.under (.builtin "type.__call__" ⟨[.ref C], []⟩)) (.call (.builtin "object.__init__") ⟨[.ref (s.heap.objs.size + 1)], []⟩) (PySem.W.InitBack (s.heap.objs.size + 1) R)
      { s with heap := (s.heap.push PySem.W.emptyDict).push (PySem.W.instObj C s.heap.objs.size) }) :
    codeAny (model prog w) A (.call (.ref C) ⟨[], []⟩) R s := by
  obtain ⟨hh, g, d, t, os⟩ := s
  exact PySem.W.make_core (PySem.W.makes_of X hm) (PySem.W.looks_findIn X hi) hb (.inr ⟨rfl, rfl⟩) h
end

/-! ### the attributes as a list of pairs -/
def putF (f : Str) (v : V) : List (Str × V) → List (Str × V)
  | [] => [(f, v)]
  | (g, x) :: r => if g = f then (g, v) :: r else (g, x) :: putF f v r
theorem lookup_putF (f g : Str) (v : V) : ∀ fs : List (Str × V), (putF f v fs).lookup g = if g = f then some v else fs.lookup g
  | [] => by
    show List.lookup g [(f, v)] = _
    by_cases h : g = f
    · have hb : (g == f) = true := beq_iff_eq.mpr h
      simp only [List.lookup, hb, if_pos h]
    · have hb : (g == f) = false := beq_eq_false_iff_ne.mpr h
      simp only [List.lookup, hb, if_neg h]
  | (k, x) :: r => by
    have ih := lookup_putF f g v r
    rw [show putF f v ((k, x) :: r) = (if k = f then (k, v) :: r else (k, x) :: putF f v r) from rfl]
    by_cases hk : k = f
    · rw [if_pos hk]
      by_cases h : g = k
      · have hb : (g == k) = true := beq_iff_eq.mpr h
        simp only [List.lookup, hb, if_pos (h.trans hk)]
      · have hb : (g == k) = false := beq_eq_false_iff_ne.mpr h
        simp only [List.lookup, hb, if_neg (fun e : g = f => h (e.trans hk.symm))]
    · rw [if_neg hk]
      by_cases h : g = k
      · have hb : (g == k) = true := beq_iff_eq.mpr h
        simp only [List.lookup, hb, if_neg (fun e : g = f => hk (h.symm.trans e))]
      · have hb : (g == k) = false := beq_eq_false_iff_ne.mpr h
        simp only [List.lookup, hb]
        exact ih
theorem keys_putF (f : Str) (v : V) : ∀ fs : List (Str × V), f ∈ (putF f v fs).map (·.1) ∧ ∀ g, g ∈ fs.map (·.1) → g ∈ (putF f v fs).map (·.1)
  | [] => ⟨by simp [putF], fun g h => by simp at h⟩
  | (k, x) :: r => by
    obtain ⟨i1, i2⟩ := keys_putF f v r
    rw [show putF f v ((k, x) :: r) = (if k = f then (k, v) :: r else (k, x) :: putF f v r) from rfl]
    by_cases hk : k = f
    · rw [if_pos hk]
      subst hk
      exact ⟨by simp, fun g h => by simpa using h⟩
    · rw [if_neg hk]
      refine ⟨?_, fun g h => ?_⟩
      · rw [List.map_cons]
        exact List.mem_cons_of_mem _ i1
      · rw [List.map_cons] at h ⊢
        rcases List.mem_cons.mp h with e | e
        · exact List.mem_cons.mpr (.inl e)
        · exact List.mem_cons_of_mem _ (i2 g e)
theorem length_putF (f : Str) (v : V) : ∀ fs : List (Str × V), (putF f v fs).length ≤ fs.length + 1
  | [] => by simp [putF]
  | (k, x) :: r => by
    have ih := length_putF f v r
    rw [show putF f v ((k, x) :: r) = (if k = f then (k, v) :: r else (k, x) :: putF f v r) from rfl]
    by_cases hk : k = f
    · rw [if_pos hk, List.length_cons, List.length_cons]; omega
    · rw [if_neg hk, List.length_cons, List.length_cons]; omega

theorem RelO.some_of {v : V} {o : Option Value} (r : RelO (some v) o) : ∃ u, o = some u ∧ RelV v u := by
  cases o with
  | none => exact (show False from r).elim
  | some u => exact ⟨u, rfl, r⟩
theorem RelO.none_of {o : Option Value} (r : RelO none o) : o = none := by
  cases o with
  | none => rfl
  | some u => exact (show False from r).elim
theorem handed_of {v : V} {u : Value} (r : RelV v u) : PySem.W.handedIn u = true := by
  cases v with
  | non => cases (show u = Value.none from r); rfl
  | bl b => cases (show u = Value.bool b from r); rfl
  | int i => obtain ⟨t, e⟩ := (show ∃ t, u = Value.int i t from r); cases e; rfl
  | str x => obtain ⟨t, e⟩ := (show ∃ t, u = Value.str x t from r); cases e; rfl
  | byt b => obtain ⟨t, e⟩ := (show ∃ t, u = Value.bytes b t from r); cases e; rfl
  | flt b => obtain ⟨t, e⟩ := (show ∃ t, u = Value.float b t from r); cases e; rfl
  | ref a => cases (show u = Value.ref a from r); rfl
  | ty n => cases (show u = Value.type n from r); rfl

section
variable {P : Program} {w : World} {H H' : Hp} {h h' : Heap} {a C dx : Addr} {fs fs' : List (Str × V)}
theorem ins_get (hok : HOk P w H h) (e : H a = some (.ins C dx fs)) : ∃ mA, ObjM h a dx C mA ∧ (∀ f, RelO (fs.lookup f) (mA f)) ∧ PySem.Within mA (fs.map (·.1)) ∧ fs.length ≤ 1000 ∧ H dx = some (.own a) := by
  obtain ⟨d, z, ne, ob, mA, n, r, q⟩ := (show ObjOk P w H h a (.ins C dx fs) from hok a _ e)
  exact ⟨mA, ⟨ob, n, ne⟩, r, q, z, d⟩
end

/-! ### what of the text a class must have -/
structure Cls (K : PySem.W.Frag) (C : Addr) : Prop where
  pg : PySem.W.plainGet K C Str.empty = true
  hd : PySem.W.hasDictIn K C = true
  po : PySem.W.plainOver K C = true
  sa : PySem.W.findIn K (.ref C) "__setattr__" = some (some (.builtin "object.__setattr__"))
theorem Cls.get {K : PySem.W.Frag} {C : Addr} (c : Cls K C) (f : Str) : PySem.W.plainGet K C f = true := c.pg
/-- no class of it has the name -/
def NoAttr (K : PySem.W.Frag) (C : Addr) (f : Str) : Prop := PySem.W.findIn K (.ref C) f = some none
theorem NoAttr.taker {K : PySem.W.Frag} {C : Addr} {f : Str} (n : NoAttr K C f) : PySem.W.takerIn K C f = some none := by
  unfold PySem.W.takerIn
  rw [show PySem.W.findIn K (.ref C) f = some none from n]
  rfl
/-- a constant of the class -/
structure Con (K : PySem.W.Frag) (C : Addr) (f : Str) (v : V) (u : Value) : Prop where
  at_ : PySem.W.findIn K (.ref C) f = some (some u)
  rel : RelV v u
  get : PySem.W.specialIn K u "__get__" = some none
  cp : PySem.W.copiedNames.contains f = false
/-- a method: a plain def of the class or of one above it -/
structure Meth (K : PySem.W.Frag) (C : Addr) (m : Str) (f : Addr) : Prop where
  at_ : PySem.W.findIn K (.ref C) m = some (some (.ref f))
  fn : PySem.W.isFn K (.ref f) = true
  kp : PySem.W.keepIn K (.ref f) = true

section
variable {X : Cx} {pins : List (Addr × Obj)} {σ : St} {H : Hp} {s : Shared} {a C dx : Addr} {fs : List (Str × V)} {f : Str} {v : V} {A : Around} {E : Value → Shared → Prop}

theorem getattr_ok {b : Bool} {Q : Value → Shared → Prop} (I : Inv X pins σ H s) (e : H a = some (.ins C dx fs)) (c : Cls X.K C) (n : NoAttr X.K C f) (l : fs.lookup f = some v)
    (h : ∀ u s', Inv X pins σ H s' → RelV v u → Q u s') : wpAny (model X.prog X.w) A (getAttr (.ref a) f b) Q E s := by
  obtain ⟨mA, O, r, _, _, _⟩ := ins_get I.hok e
  obtain ⟨u, hu, ru⟩ := RelO.some_of (v := v) (o := mA f) (by rw [← l]; exact r f)
  exact get_map I.kIn O (c.get f) c.hd n hu (handed_of ru) (h u _ (I.tok _) ru)

theorem getcon_ok {b : Bool} {u : Value} {Q : Value → Shared → Prop} (I : Inv X pins σ H s) (e : H a = some (.ins C dx fs)) (c : Cls X.K C) (k : Con X.K C f v u) (l : fs.lookup f = none)
    (h : ∀ s', Inv X pins σ H s' → Q u s') : wpAny (model X.prog X.w) A (getAttr (.ref a) f b) Q E s := by
  obtain ⟨mA, O, r, _, _, _⟩ := ins_get I.hok e
  have hn : mA f = none := RelO.none_of (by rw [← l]; exact r f)
  exact get_const I.kIn O (c.get f) c.hd k.at_ k.get k.cp hn (handed_of k.rel) (h _ (I.tok _))

theorem getmeth_ok {m : Str} {g : Addr} {pl : Sem Bool} {Q : Value × List Value → Shared → Prop} (I : Inv X pins σ H s) (e : H a = some (.ins C dx fs)) (c : Cls X.K C) (k : Meth X.K C m g) (l : fs.lookup m = none)
    (h : Q (.ref g, [.ref a]) s) : wpAny (model X.prog X.w) A (getMethod (.ref a) m pl) Q E s := by
  obtain ⟨mA, O, r, _, _, _⟩ := ins_get I.hok e
  have hn : mA m = none := RelO.none_of (by rw [← l]; exact r m)
  exact get_meth I.kIn O (c.get m) k.at_ k.fn hn h

theorem setattr_ok {y : V} {u : Value} {Q : Unit → Shared → Prop} (I : Inv X pins σ H s) (e : H a = some (.ins C dx fs)) (c : Cls X.K C) (n : NoAttr X.K C f) (hl : fs.length < 1000) (ry : RelV y u)
    (h : ∀ s', Inv X pins σ (upd H a (.ins C dx (putF f y fs))) s' → Q () s') : wpAny (model X.prog X.w) A (setAttr (.ref a) f u) Q E s := by
  obtain ⟨mA, O, r, wi, _, ho⟩ := ins_get I.hok e
  have hz : (fs.map (·.1)).length ≤ sizeLine := by rw [List.length_map, sizeLine_eq]; omega
  refine set_map I.kIn O c.sa c.po n.taker c.hd wi hz fun h' O' sb => h _ ?_
  have hd : ∃ o, h'.get? dx = some o := let ⟨o, _, _, e', _⟩ := O'.ns; ⟨o, e'⟩
  refine I.write (x := a) (e := dx) (by rw [e]; exact True.intro) (.inr ho) (fun b q hb z => (sb.2 b hb).trans z) hd ?_
  refine ⟨by rw [upd_ne O.ne]; exact ho, ?_, O.ne, O'.obj, _, O'.ns, fun g => ?_, fun g hg => ?_⟩
  · have := length_putF f y fs; omega
  · show RelO ((putF f y fs).lookup g) (if g = f then some u else mA g)
    rw [lookup_putF]
    by_cases q : g = f
    · rw [if_pos q, if_pos q]; exact ry
    · rw [if_neg q, if_neg q]; exact r g
  · by_cases q : g = f
    · rw [q]; exact (keys_putF f y fs).1
    · refine (keys_putF f y fs).2 g (wi g fun z => hg ?_)
      show (if g = f then some u else mA g) = none
      rw [if_neg q]; exact z

/-- a new instance, tracked, without attributes -/
theorem Inv.made (I : Inv X pins σ H s) : Inv X pins σ (upd (upd H s.heap.objs.size (.own (s.heap.objs.size + 1))) (s.heap.objs.size + 1) (.ins C s.heap.objs.size []))
    { s with heap := (s.heap.push PySem.W.emptyDict).push (PySem.W.instObj C s.heap.objs.size) } := by
  have e1 : (s.heap.push PySem.W.emptyDict).get? s.heap.objs.size = some PySem.W.emptyDict := Heap.get?_push_size s.heap rfl
  have e2 : ((s.heap.push PySem.W.emptyDict).push (PySem.W.instObj C s.heap.objs.size)).get? (s.heap.objs.size + 1) = some (PySem.W.instObj C s.heap.objs.size) := by
    have := Heap.get?_push_size (s.heap.push PySem.W.emptyDict) (o := PySem.W.instObj C s.heap.objs.size) rfl
    rwa [Heap.size_push] at this
  have e3 : (s.heap.push PySem.W.emptyDict).Ns s.heap.objs.size (fun _ => none) := ⟨PySem.W.emptyDict, #[], _, e1, rfl, (fun e he => absurd he (by simp)), fun _ => rfl⟩
  have I1 := I.laid (a := s.heap.objs.size) (o := .own (s.heap.objs.size + 1)) (h' := s.heap.push PySem.W.emptyDict) (t' := s.toks) (fun b u q => Heap.get?_push_of_some _ q) (Nat.le_refl _) ⟨_, e1⟩
  refine I1.laid (a := s.heap.objs.size + 1) (o := .ins C s.heap.objs.size []) (t' := s.toks) (fun b u q => Heap.get?_push_of_some _ q) (Nat.le_of_eq (Heap.size_push _ _)) ?_
  have ne : s.heap.objs.size ≠ s.heap.objs.size + 1 := Nat.ne_of_lt (Nat.lt_succ_self _)
  refine ⟨by rw [upd_ne ne, upd_same], Nat.zero_le _, ne, e2, fun _ => none, (Heap.Ns1.of_empty e3).at fun o q => Heap.get?_push_of_some _ q, fun _ => True.intro, fun y hy => absurd rfl hy⟩

/-- e.f where nothing but the object is asked: through attributeBase (super) and the last hold -/
theorem attr_of {prog : Program} {w : World} {env : Env} {e : Expr} {f : Str} {pos : Pos} {s : Shared} {Q : Value → Shared → Prop} (hb : attributeBase e f env (eval e env) = eval e env)
    (h : wpAny (model prog w) A (eval e env) (fun o s₁ => wpAny (model prog w) A (getAttr o f true) Q E s₁) E s) : wpAny (model prog w) A (eval (.Attribute e f pos) env) Q E s :=
  Attribute_any_ h (by rw [arm_eval_Attribute, hb])
end

/-! ### readings and rules -/
/-- e.f, an attribute of the instance -/
def tFld (K : PySem.W.Frag) (ta : TE) (f : Str) : TE := fun σ H Q => ta σ H fun x H1 => ∃ a C dx fs v, x = .ref a ∧ H1 a = some (.ins C dx fs) ∧ Cls K C ∧ NoAttr K C f ∧ fs.lookup f = some v ∧ Q v H1
/-- e.f, a constant of the class -/
def tCon (K : PySem.W.Frag) (ta : TE) (f : Str) : TE := fun σ H Q => ta σ H fun x H1 => ∃ a C dx fs v u, x = .ref a ∧ H1 a = some (.ins C dx fs) ∧ Cls K C ∧ Con K C f v u ∧ fs.lookup f = none ∧ Q v H1
/-- e.f = value -/
def sFld (K : PySem.W.Frag) (ta tv : TE) (f : Str) : TS := fun D σ H => tv σ H fun y H1 => ta σ H1 fun x H2 => ∃ a C dx fs, x = .ref a ∧ H2 a = some (.ins C dx fs) ∧ Cls K C ∧ NoAttr K C f ∧ fs.length < 1000 ∧
  D.nx σ (upd H2 a (.ins C dx (putF f y fs)))
/-- an augmented operator on two values -/
def InOp (X : Cx) (op : Operator) (rd : V → V → Hp → VK → Prop) : Prop :=
  ∀ (pins : List (Addr × Obj)) (s : Shared) (σ : St) (H : Hp) (x y : V) (u v : Value) (Q : VK), Inv X pins σ H s → RelV x u → RelV y v → rd x y H Q → wpAny (model X.prog X.w) X.A (inplaceOp op u v) (EP X pins σ Q) X.xe s
/-- e.f op= value -/
def sFldAug (K : PySem.W.Frag) (ta tv : TE) (rd : V → V → Hp → VK → Prop) (f : Str) : TS := fun D σ H => ta σ H fun x H1 => ∃ a C dx fs v, x = .ref a ∧ H1 a = some (.ins C dx fs) ∧ Cls K C ∧ NoAttr K C f ∧ fs.lookup f = some v ∧
  tv σ H1 fun y H2 => rd v y H2 fun z H3 => ∃ dx' fs', H3 a = some (.ins C dx' fs') ∧ fs'.length < 1000 ∧ D.nx σ (upd H3 a (.ins C dx' (putF f z fs')))

section
variable {X : Cx} {o e value : Expr} {f : Str} {pos pos' tpos : Pos} {ta tv : TE}
theorem pe_fld (he : PE X e ta) (hb : attributeBase e f X.env (eval e X.env) = eval e X.env) : PE X (.Attribute e f pos) (tFld X.K ta f) := by
  intro pins s σ H Q I h
  refine attr_of hb (thn (he pins s σ H _ I h) fun u s1 ⟨x, H1, I1, rx, a, C, dx, fs, v, ex, ea, c, n, l, q⟩ => ?_)
  subst ex
  obtain rfl : u = Value.ref a := rx
  exact getattr_ok I1 ea c n l fun u' s2 I2 ru => ⟨v, H1, I2, ru, q⟩
theorem pe_con (he : PE X e ta) (hb : attributeBase e f X.env (eval e X.env) = eval e X.env) : PE X (.Attribute e f pos) (tCon X.K ta f) := by
  intro pins s σ H Q I h
  refine attr_of hb (thn (he pins s σ H _ I h) fun u s1 ⟨x, H1, I1, rx, a, C, dx, fs, v, u0, ex, ea, c, k, l, q⟩ => ?_)
  subst ex
  obtain rfl : u = Value.ref a := rx
  exact getcon_ok I1 ea c k l fun s2 I2 => ⟨v, H1, I2, k.rel, q⟩
theorem ps_fld (ha : PE X o ta) (hv : PE X value tv) (hs : swapsWith value (some (.Attribute o f pos')) pos.line X.env = pure false) : PS X (.Assign [.Attribute o f pos'] value pos) (sFld X.K ta tv f) := by
  intro pins s σ H D I h
  refine plainObj_wpAny_Assign_Attribute (thn (hv pins s σ H _ I h) fun u s1 ⟨y, H1, I1, ry, q⟩ => thn (ha pins s1 σ H1 _ I1 q) fun ov s2 ⟨x, H2, I2, rx, a, C, dx, fs, ex, ea, c, n, l, q2⟩ => ?_) hs
  subst ex
  obtain rfl : ov = Value.ref a := rx
  exact setattr_ok I2 ea c n l ry fun s3 I3 => ⟨σ, _, I3, q2⟩
theorem ps_fldaug {op : Operator} {rd : V → V → Hp → VK → Prop} (ha : PE X o ta) (hv : PE X value tv) (hop : InOp X op rd) : PS X (.AugAssign (.Attribute o f tpos) op value pos) (sFldAug X.K ta tv rd f) := by
  intro pins s σ H D I h
  refine wpAny_AugAssign_AttributeAny (thn (ha pins s σ H _ I h) fun ov s1 ⟨x, H1, I1, rx, a, C, dx, fs, v, ex, ea, c, n, l, q⟩ => ?_)
  subst ex
  obtain rfl : ov = Value.ref a := rx
  refine getattr_ok I1 ea c n l fun u s2 I2 ru => thn (hv pins s2 σ H1 _ I2 q) fun w3 s3 ⟨y, H2, I3, ry, q3⟩ => thn (hop pins s3 σ H2 v y u w3 _ I3 ru ry q3) fun w4 s4 ⟨z, H3, I4, rz, dx', fs', ea', l', q4⟩ => ?_
  exact setattr_ok I4 ea' c n l' rz fun s5 I5 => ⟨σ, _, I5, q4⟩
def rAdd : V → V → Hp → VK → Prop := fun x y H Q => ∃ i j, x = .int i ∧ y = .int j ∧ Q (.int (i + j)) H
def rSub : V → V → Hp → VK → Prop := fun x y H Q => ∃ i j, x = .int i ∧ y = .int j ∧ Q (.int (i - j)) H
theorem in_add : InOp X .Add rAdd := by
  rintro pins s σ H x y u v Q I rx ry ⟨i, j, rfl, rfl, q⟩
  obtain ⟨t, rfl⟩ := (show ∃ t, u = Value.int i t from rx)
  obtain ⟨t', rfl⟩ := (show ∃ t', v = Value.int j t' from ry)
  exact PyProof.Rows.iadd_int ⟨.int (i + j), H, I.tok _, ⟨_, rfl⟩, q⟩
theorem in_sub : InOp X .Sub rSub := by
  rintro pins s σ H x y u v Q I rx ry ⟨i, j, rfl, rfl, q⟩
  obtain ⟨t, rfl⟩ := (show ∃ t, u = Value.int i t from rx)
  obtain ⟨t', rfl⟩ := (show ∃ t', v = Value.int j t' from ry)
  exact PyProof.Rows.isub_int ⟨.int (i - j), H, I.tok _, ⟨_, rfl⟩, q⟩

/-- what is between an instance and its method: the tree of a method call -/
theorem methcall_of {pl : Sem Bool} {m : Str} {apos : Pos} {args : List Expr} {pins : List (Addr × Obj)} {s : Shared} {σ : St} {H : Hp} {Q : Value → Shared → Prop} {te : TE} (he : PE X e te) (I : Inv X pins σ H s)
    (h : te σ H fun x H1 => ∃ a C dx fs g, x = .ref a ∧ H1 a = some (.ins C dx fs) ∧ Cls X.K C ∧ Meth X.K C m g ∧ fs.lookup m = none ∧
      ∀ s1, Inv X pins σ H1 s1 → wpAny (model X.prog X.w) X.A (callWith pos (.ref g) [.ref a] (backTo pos (starEach args X.env)) (backToKw pos (keywordEach [] X.env))) Q X.xe s1)
    (ht : eval (.Call (.Attribute e m apos) args [] pos) X.env = (do
      let ov ← eval e X.env
      standAt apos.atName
      let (f, first) ← holding [ov] (getMethod ov m pl)
      callWith pos f first (backTo pos (starEach args X.env)) (backToKw pos (keywordEach [] X.env)))) :
    wpAny (model X.prog X.w) X.A (eval (.Call (.Attribute e m apos) args [] pos) X.env) Q X.xe s := by
  refine PySem.W.methodCall_KW (pl := pl) (thn (he pins s σ H _ I h) fun u s1 ⟨x, H1, I1, rx, a, C, dx, fs, g, ex, ea, c, k, l, q⟩ => ?_) ht
  subst ex
  obtain rfl : u = Value.ref a := rx
  exact getmeth_ok I1 ea c k l (q s1 I1)
end

/-! ### isinstance -/
section
variable {X : Cx} {pins : List (Addr × Obj)} {σ : St} {H : Hp} {s : Shared} {A : Around} {E : Value → Shared → Prop} {Q : Value → Shared → Prop} {c : Value} {b : Bool}
/-- the type of a value, as the fragment's deciders take it; for an instance its class -/
inductive TyOf (K : PySem.W.Frag) (H : Hp) : V → Value → Prop where
  | non : TyOf K H .non (.type "NoneType")
  | bl (x : Bool) : TyOf K H (.bl x) (.type "bool")
  | int (i : Int) : TyOf K H (.int i) (.type "int")
  | str (x : Str) : TyOf K H (.str x) (.type "str")
  | flt (x : UInt64) : TyOf K H (.flt x) (.type "float")
  | lst {a : Addr} {xs : List V} (e : H a = some (.lst xs)) : TyOf K H (.ref a) (.type "list")
  | frz {a : Addr} {o : Obj} {xs : List V} (e : H a = some (.frz o (.lst xs))) : TyOf K H (.ref a) (.type "list")
  | tup {a : Addr} {xs : List V} (e : H a = some (.tup xs)) : TyOf K H (.ref a) (.type "tuple")
  | dK {a : Addr} {kvs : List (Key × V)} (e : H a = some (.dK kvs)) : TyOf K H (.ref a) (.type "dict")
  | dT {a : Addr} {kvs : List (List Key × V)} (e : H a = some (.dT kvs)) : TyOf K H (.ref a) (.type "dict")
  | ins {a C dx : Addr} {fs : List (Str × V)} (e : H a = some (.ins C dx fs)) (cl : Cls K C) (ha : PySem.W.findIn K (.ref C) "__class__" = some (some (.builtin "object.__class__")))
      (hn : PySem.W.specialIn K (.builtin "object.__class__") "__get__" = some (some (.builtin "getset_descriptor.__get__"))) (htk : PySem.W.takesIn K (.builtin "object.__class__") = some true)
      (hm : PySem.W.mroIn K C (.type "object") = some true) : TyOf K H (.ref a) (.ref C)
/-- isinstance(x, c) for one class c, a built-in or an own one: kitOne's answer -/
theorem isinst_ok {x : V} {u t : Value} (I : Inv X pins σ H s) (rx : RelV x u) (ty : TyOf X.K H x t) (e : PySem.W.kitOne X.K t c = some b) (h : ∀ tk, Q (.bool b) { s with toks := tk }) :
    wpAny (model X.prog X.w) A (call (.builtin "isinstance") [u, c]) Q E s := by
  cases ty with
  | non => cases (show u = Value.none from rx); exact PySem.W.kia_one PySem.W.kitx_none I.kIn True.intro e (fun z => nomatch z) h
  | bl y => cases (show u = Value.bool y from rx); exact PySem.W.kia_one PySem.W.kitx_bool I.kIn True.intro e (fun z => nomatch z) h
  | int i => obtain ⟨t, q⟩ := (show ∃ t, u = Value.int i t from rx); cases q; exact PySem.W.kia_one PySem.W.kitx_int I.kIn True.intro e (fun z => nomatch z) h
  | str y => obtain ⟨t, q⟩ := (show ∃ t, u = Value.str y t from rx); cases q; exact PySem.W.kia_one PySem.W.kitx_str I.kIn True.intro e (fun z => nomatch z) h
  | flt y => obtain ⟨t, q⟩ := (show ∃ t, u = Value.float y t from rx); cases q; exact PySem.W.kia_one PySem.W.kitx_float I.kIn True.intro e (fun z => nomatch z) h
  | @lst a xs ea =>
    cases (show u = Value.ref a from rx)
    obtain ⟨_, _, n, _, h1⟩ := (show ObjOk X.prog X.w H s.heap a (.lst xs) from I.hok a _ ea)
    exact PySem.W.kia_one PySem.W.kitx_list I.kIn ⟨_, h1, rfl⟩ e (fun z => nomatch z) h
  | @frz a ob xs ea =>
    cases (show u = Value.ref a from rx)
    obtain ⟨_, _, _, n, _, h1⟩ := (show ObjOk X.prog X.w H s.heap a (.frz ob (.lst xs)) from I.hok a _ ea)
    exact PySem.W.kia_one PySem.W.kitx_list I.kIn ⟨_, h1, rfl⟩ e (fun z => nomatch z) h
  | @tup a xs ea =>
    cases (show u = Value.ref a from rx)
    obtain ⟨_, _, _, p⟩ := (show ObjOk X.prog X.w H s.heap a (.tup xs) from I.hok a _ ea)
    obtain ⟨o, h1, h2, _⟩ := p
    exact PySem.W.kia_one PySem.W.kitx_tuple I.kIn ⟨o, h1, h2⟩ e (fun z => nomatch z) h
  | @dK a kvs ea =>
    cases (show u = Value.ref a from rx)
    obtain ⟨_, _, vs, _, p⟩ := (show ObjOk X.prog X.w H s.heap a (.dK kvs) from I.hok a _ ea)
    obtain ⟨o, es, ep, h1, h2, _⟩ := p
    exact PySem.W.kia_one PySem.W.kitx_dict I.kIn ⟨o, h1, h2.1⟩ e (fun z => nomatch z) h
  | @dT a kvs ea =>
    cases (show u = Value.ref a from rx)
    obtain ⟨_, _, xs, _, o, es, ep, h1, h2, _⟩ := (show ObjOk X.prog X.w H s.heap a (.dT kvs) from I.hok a _ ea)
    exact PySem.W.kia_one PySem.W.kitx_dict I.kIn ⟨o, h1, h2.1⟩ e (fun z => nomatch z) h
  | @ins a C dx fs ea cl ha hn htk hm =>
    cases (show u = Value.ref a from rx)
    obtain ⟨mA, O, _⟩ := ins_get I.hok ea
    obtain ⟨od, J, _⟩ := O.look
    exact PySem.W.kia_one (PySem.W.kitx_own (cl.get _) cl.hd ha hn htk hm) I.kIn J e (fun z => nomatch z) h
end
end L2

namespace L2
open PySem PySem.Spec PyProof.Rows

/-! ### room -/
structure Room (k : Nat) (A : Around) : Prop where
  hd : A.handled = none
  dp : A.depth + 3 * k + 5 < recursionLimit
  un : A.units + 16 * k + 200 < cLine
theorem Room.mono {j k : Nat} {A : Around} (r : Room k A) (h : j ≤ k) : Room j A := ⟨r.hd, by have := r.dp; omega, by have := r.un; omega⟩
theorem Room.deeper {k : Nat} {A : Around} (r : Room (k + 1) A) (env : Env) : Room k (A.deeper env) :=
  ⟨r.hd, by have := r.dp; show A.depth + 1 + 3 * k + 5 < _; omega, by have := r.un; show A.units + 3 + 16 * k + 200 < _; omega⟩
theorem Room.in1 {k : Nat} {A : Around} (r : Room (k + 1) A) : Room k A.in1 :=
  ⟨r.hd, by have := r.dp; show A.depth + 3 * k + 5 < _; omega, by have := r.un; show A.units + 1 + 16 * k + 200 < _; omega⟩
theorem make_depth {A : Around} {C : Addr} {us : List Value} {kw : List (Str × Value)} : (A.under (.builtin "type.__call__" ⟨.ref C :: us, kw⟩)).depth = A.depth + 1 := by
  first | rfl | simp [Around.under, Code.weight, Code.isCreation, Code.isGuard, Code.isCaller, Code.frames, Code.isFrame, guardIds]
theorem make_units {A : Around} {C : Addr} {us : List Value} {kw : List (Str × Value)} : (A.under (.builtin "type.__call__" ⟨.ref C :: us, kw⟩)).units = A.units + 1 := by
  first | rfl | simp [Around.under, Code.cUnits, Code.frames, Code.isFrame]
theorem Room.make {k : Nat} {A : Around} (r : Room (k + 1) A) (C : Addr) (us : List Value) (kw : List (Str × Value)) : Room k (A.under (.builtin "type.__call__" ⟨.ref C :: us, kw⟩)) :=
  ⟨r.hd, by have := r.dp; rw [make_depth]; omega, by have := r.un; rw [make_units]; omega⟩
theorem Room.depth {k : Nat} {A : Around} (r : Room k A) : A.depth < recursionLimit := by have := r.dp; omega
theorem Room.units {k : Nat} {A : Around} (r : Room k A) : A.units + 64 < cLine := by have := r.un; omega
theorem Room.units0 {k : Nat} {A : Around} (r : Room k A) : A.units < cLine := by have := r.un; omega

/-! ### argument lists and displays -/
def tNil : TA := fun _ H Q => Q [] H
def tCons (ta : TE) (tr : TA) : TA := fun σ H Q => ta σ H fun x H1 => tr σ H1 fun xs H2 => Q (x :: xs) H2
section
variable {X : Cx} {e : Expr} {es : List Expr} {te : TE} {t : TA} {pos : Pos}
theorem pa_nil : PA X [] tNil := fun _ _ _ _ H Q I h => Calls.spliced_nil ⟨[], H, I, .nil, h⟩
theorem pa_cons (ha : PE X e te) (hr : PA X es t) (hs : starEach (e :: es) X.env = (false, eval e X.env) :: starEach es X.env := by rfl) : PA X (e :: es) (tCons te t) := by
  intro pos pins s σ H Q I h
  rw [hs]
  show wpAny _ _ (spliced ((false, eval e X.env) :: backTo pos (starEach es X.env))) _ _ s
  refine Calls.spliced_cons (thn (ha pins s σ H _ I h) fun u s1 ⟨x, H1, I1, r1, q1⟩ => ?_)
  exact thn (hr pos pins s1 σ H1 _ I1 q1) fun us s2 ⟨xs, H2, I2, r2, q2⟩ => ⟨x :: xs, H2, I2, .cons r1 r2, q2⟩

/-- a tuple, a list of written items -/
def tTup (t : TA) : TE := fun σ H Q => t σ H fun xs H1 => xs.length ≤ sizeLine ∧ ∀ p, H1 p = none → Q (.ref p) (upd H1 p (.tup xs))
def tLst (t : TA) : TE := fun σ H Q => t σ H fun xs H1 => xs.length ≤ sizeLine ∧ ∀ p, H1 p = none → Q (.ref p) (upd H1 p (.lst xs))
theorem pe_tup {x1} (h : PA X es t) : PE X (.Tuple es x1 pos) (tTup t) := by
  intro pins s σ H Q I hq
  refine wpAny_Tuple_spliced (thn (h pos pins s σ H _ I hq) fun us s1 ⟨xs, H1, I1, r, z, q⟩ => ⟨by rw [← r.length]; exact z, ?_⟩)
  have hf : H1 s1.heap.objs.size = none := I1.hok.fresh (Nat.le_refl _)
  refine ⟨.ref s1.heap.objs.size, upd H1 s1.heap.objs.size (.tup xs), I1.laid (t' := s1.toks) (fun b u e => Heap.get?_push_of_some _ e) (Nat.le_refl _) ?_, rfl, q _ hf⟩
  exact ⟨z, us, r, ⟨_, Heap.get?_push_size _ rfl, rfl, _, rfl⟩⟩
theorem pe_lst (h : PA X es t) : PE X (.List es pos) (tLst t) := by
  intro pins s σ H Q I hq
  refine wpAny_List_spliced (thn (h pos pins s σ H _ I hq) fun us s1 ⟨xs, H1, I1, r, z, q⟩ => ⟨by rw [← r.length]; exact z, ?_⟩)
  have hf : H1 s1.heap.objs.size = none := I1.hok.fresh (Nat.le_refl _)
  refine ⟨.ref s1.heap.objs.size, upd H1 s1.heap.objs.size (.lst xs), I1.laid (t' := s1.toks) (fun b u e => Heap.get?_push_of_some _ e) (Nat.le_refl _) ?_, rfl, q _ hf⟩
  exact ⟨z, us, 0, r, Heap.get?_push_size _ rfl⟩
end

/-! ### what a def promises -/
/-- a def's promise: the bound arguments in the parameters' order, the heap, the wanted end, the wanted exception -/
abbrev Sp := List V → Hp → VK → XK → Prop
/-- how an exception lies behind a call (file 08 gives it): the callers' frames, abstract heap and state ahead of the call, the wish, the exception, the state -/
abbrev CXT := List Env → Hp → Shared → XK → Value → Shared → Prop

/-- the state at a call -/
structure Env0 (P : Program) (w : World) (K : PySem.W.Frag) (mg : Str → Option Value) (base : Heap) (A : Around) (outer : List Env) (s : Shared) (H : Hp) : Prop where
  frames : A.frames = some outer
  mod : Mod K mg base
  bs : ∀ b o, base.get? b = some o → s.heap.get? b = some o ∧ H b = none
  bsz : base.objs.size ≤ s.heap.objs.size
  funs : s.heap.FunFrames base outer
  frf : ∀ b ∈ frs outer, H b = none
  hok : HOk P w H s.heap
  bare : AllBare s.gens
/-- a call's end -/
def CE (outer : List Env) (P : Program) (w : World) (H : Hp) (s : Shared) (Q : VK) (u : Value) (s' : Shared) : Prop :=
  ∃ v H', s'.os = s.os ∧ AllBare s'.gens ∧ Un (frs outer) [] H H' s.heap s'.heap ∧ HOk P w H' s'.heap ∧ RelV v u ∧ Q v H'
def CR (CX : CXT) (outer : List Env) (P : Program) (w : World) (H : Hp) (s : Shared) (Q : VK) (E : XK) (r : Result) (s' : Shared) : Prop :=
  match r with
  | .ok (.ret u) => CE outer P w H s Q u s'
  | .ok _ => False
  | .error e => CX outer H s E e s'
structure FnOk (P : Program) (w : World) (K : PySem.W.Frag) (mg : Str → Option Value) (base : Heap) (CX : CXT) (k : Nat) (f : Addr) (fd : FuncData) (ps : List Str) (sp : Sp) : Prop where
  len : ∀ vs H Q E, sp vs H Q E → vs.length = ps.length
  run : ∀ (A : Around) (outer : List Env) (s : Shared) (H : Hp) (args : Args) (us : List Value) (vs : List V) (Q : VK) (E : XK), Room k A → Env0 P w K mg base A outer s H → BindsTo s fd args (ps.zip us) → Vals vs us → sp vs H Q E →
    codeAny (model P w) A (.call (.ref f) args) (CR CX outer P w H s Q E) s
theorem FnOk.mono {P : Program} {w : World} {K : PySem.W.Frag} {mg : Str → Option Value} {base : Heap} {CX : CXT} {j k : Nat} {f : Addr} {fd : FuncData} {ps : List Str} {sp : Sp} (F : FnOk P w K mg base CX j f fd ps sp) (h : j ≤ k) :
    FnOk P w K mg base CX k f fd ps sp := ⟨F.len, fun A outer s H args us vs Q E hr => F.run A outer s H args us vs Q E (hr.mono h)⟩
/-- a weaker promise -/
theorem FnOk.imp {P : Program} {w : World} {K : PySem.W.Frag} {mg : Str → Option Value} {base : Heap} {CX : CXT} {k : Nat} {f : Addr} {fd : FuncData} {ps : List Str} {sp sp' : Sp} (F : FnOk P w K mg base CX k f fd ps sp)
    (h : ∀ vs H Q E, sp' vs H Q E → sp vs H Q E) : FnOk P w K mg base CX k f fd ps sp' :=
  ⟨fun vs H Q E q => F.len vs H Q E (h _ _ _ _ q), fun A outer s H args us vs Q E hr he hb hv hs => F.run A outer s H args us vs Q E hr he hb hv (h _ _ _ _ hs)⟩

theorem Env0.make {P : Program} {w : World} {K : PySem.W.Frag} {mg : Str → Option Value} {base : Heap} {A : Around} {outer : List Env} {s : Shared} {H : Hp} (e : Env0 P w K mg base A outer s H) (C : Addr) (us : List Value) (kw : List (Str × Value)) :
    Env0 P w K mg base (A.under (.builtin "type.__call__" ⟨.ref C :: us, kw⟩)) outer s H := ⟨by first | exact e.frames | (simpa [Around.under, Code.envs, Code.isFrame, pushEnvs] using e.frames), e.mod, e.bs, e.bsz, e.funs, e.frf, e.hok, e.bare⟩
theorem Env0.in1 {P : Program} {w : World} {K : PySem.W.Frag} {mg : Str → Option Value} {base : Heap} {A : Around} {outer : List Env} {s : Shared} {H : Hp} (e : Env0 P w K mg base A outer s H) :
    Env0 P w K mg base A.in1 outer s H := ⟨e.frames, e.mod, e.bs, e.bsz, e.funs, e.frf, e.hok, e.bare⟩

section
variable {X : Cx} {pins : List (Addr × Obj)} {σ : St} {H : Hp} {s s' : Shared}
/-- from a body: what a callee wants -/
theorem Inv.env0 (I : Inv X pins σ H s) : Env0 X.prog X.w X.K X.mg X.base X.A X.stack s H :=
  ⟨I.ok.frames, I.ok.mod, I.bs, Nat.le_trans I.ok.bsz I.sz, I.stack, I.stkFree, I.hok, I.bare⟩
/-- behind a call -/
theorem Inv.after {Q : VK} {u : Value} (I : Inv X pins σ H s) (h : CE X.stack X.prog X.w H s Q u s') : EP X pins σ Q u s' := by
  obtain ⟨v, H', os, bare, un, hok, r, q⟩ := h
  obtain ⟨hh, g, d, t, os'⟩ := s'
  obtain rfl : os' = s.os := os
  exact ⟨v, H', I.call (h' := hh) (g' := g) (d' := d) (t' := t) (ch := []) un hok bare (fun b z => absurd z (by simp)), r, q⟩
end

/-! ### calls -/
/-- f(..): the written arguments, then the defaults dvs; E: what is wanted of an exception -/
def tCall (sp : Sp) (dvs : List V) (E : XK) (t : TA) : TE := fun σ H Q => t σ H fun vs H1 => sp (vs ++ dvs) H1 Q E
/-- o.m(..) of an instance of the class at C -/
def tMeth (C : Addr) (m : Str) (sp : Sp) (dvs : List V) (E : XK) (ta : TE) (t : TA) : TE := fun σ H Q => ta σ H fun x H1 => ∃ a dx fs, x = .ref a ∧ H1 a = some (.ins C dx fs) ∧ fs.lookup m = none ∧
  t σ H1 fun vs H2 => sp (x :: (vs ++ dvs)) H2 Q E
/-- C(..): a new instance and its dict, then __init__ -/
def tMake (C : Addr) (sp : Sp) (dvs : List V) (E : XK) (t : TA) : TE := fun σ H Q => t σ H fun vs H1 => ∀ x dx, H1 x = none → H1 dx = none → dx ≠ x →
  sp (.ref x :: (vs ++ dvs)) (upd (upd H1 dx (.own x)) x (.ins C dx [])) (fun v H2 => v = .non ∧ Q (.ref x) H2) E

/-- how the parameters are bound: us the positional arguments, kw the keywords' values by name, ds the defaults that fill up -/
def Binds (K : PySem.W.Frag) (fd : FuncData) (ps : List Str) (ds : List Value) : Prop :=
  ∀ (s : Shared) (us : List Value), K.In s.heap → (us ++ ds).length = ps.length → BindsTo s fd ⟨us, []⟩ (ps.zip (us ++ ds))
/-- every parameter is given -/
theorem Binds.all {K : PySem.W.Frag} {fd : FuncData} {ps : List Str} (h : ∀ us : List Value, us.length = ps.length → bindArgs fd ⟨us, []⟩ = pure (ps.zip us)) : Binds K fd ps [] := fun s us _ hl => by
  rw [List.append_nil] at hl ⊢
  exact .of_eq (h us hl)

/-- an exception of a callee reaches what this body wants of exceptions -/
def Passes (CX : CXT) (X : Cx) (E : XK) : Prop := ∀ (pins : List (Addr × Obj)) (σ : St) (H : Hp) (s : Shared) (e : Value) (s' : Shared), Inv X pins σ H s → CX X.stack H s E e s' → X.xe e s'

section
variable {X : Cx} {CX : CXT} {k : Nat} {f C : Addr} {fd : FuncData} {ps : List Str} {sp : Sp} {dvs : List V} {ds : List Value} {E : XK} {x m : Str} {p pos apos : Pos} {e o : Expr} {es : List Expr} {ta : TE} {t : TA}

/-- the callee runs -/
theorem run_fn {pins : List (Addr × Obj)} {σ : St} {H : Hp} {s : Shared} {Q : VK} {us : List Value} {vs : List V} (F : FnOk X.prog X.w X.K X.mg X.base CX k f fd ps sp) (hr : Room k X.A) (hb : Binds X.K fd ps ds) (hd : Vals dvs ds) (hx : Passes CX X E)
    (I : Inv X pins σ H s) (r : Vals vs us) (h : sp (vs ++ dvs) H Q E) : wpAny (model X.prog X.w) X.A (call (.ref f) us) (EP X pins σ Q) X.xe s := by
  have r2 : Vals (vs ++ dvs) (us ++ ds) := r.append hd
  have hl : (us ++ ds).length = ps.length := by rw [← r2.length]; exact F.len _ _ _ _ h
  refine wpAny_call (codeAny_mono (F.run X.A X.stack s H ⟨us, []⟩ (us ++ ds) (vs ++ dvs) Q E hr I.env0 (hb s us I.kIn hl) r2 h) fun r s' hq => ?_)
  cases r with
  | error e => exact hx pins σ H s e s' I hq
  | ok fl =>
    cases fl with
    | ret u => exact I.after hq
    | next => exact False.elim hq
    | brk => exact False.elim hq
    | cont => exact False.elim hq

theorem pe_call (F : FnOk X.prog X.w X.K X.mg X.base CX k f fd ps sp) (hr : Room k X.A) (hg : Gl X x) (hm : X.mg x = some (.ref f)) (hk : PySem.W.keepIn X.K (.ref f) = true) (hb : Binds X.K fd ps ds) (hd : Vals dvs ds) (hx : Passes CX X E)
    (ha : PA X (e :: es) t) (hdb : (x == ("__debug__" : Str)) = false := by decide) (he : starEach (e :: es) X.env = (false, eval e X.env) :: starEach es X.env := by rfl) (hpl : (backTo pos (starEach es X.env)).any (·.1) = false := by rfl) :
    PE X (.Call (.Name x p) (e :: es) [] pos) (tCall sp dvs E t) := by
  intro pins s σ H Q I h
  refine wpAny_Call_Name_kw (ld_glob I hg hm ?_ hdb)
  refine PySem.W.callWith_K (h₀ := X.base) I.ok.mod.kin hk (thn (ha pos pins s σ H _ I h) fun us s1 ⟨vs, H1, I1, r, q⟩ => ⟨I1.kIn, ?_⟩) he hpl
  exact run_fn F hr hb hd hx I1 r q
theorem pe_call0 (F : FnOk X.prog X.w X.K X.mg X.base CX k f fd ps sp) (hr : Room k X.A) (hg : Gl X x) (hm : X.mg x = some (.ref f)) (hk : PySem.W.keepIn X.K (.ref f) = true) (hb : Binds X.K fd ps ds) (hd : Vals dvs ds) (hx : Passes CX X E)
    (hdb : (x == ("__debug__" : Str)) = false := by decide) : PE X (.Call (.Name x p) [] [] pos) (tCall sp dvs E tNil) := by
  intro pins s σ H Q I h
  refine wpAny_Call_Name_kw (ld_glob I hg hm ?_ hdb)
  exact PySem.W.callWith_K0 I.kIn hk (run_fn (us := []) F hr hb hd hx I .nil h)

/-- o.m(e, ..) -/
theorem pe_meth {pl : Sem Bool} (he : PE X o ta) (c : Cls X.K C) (hm : Meth X.K C m f) (F : FnOk X.prog X.w X.K X.mg X.base CX k f fd ps sp) (hr : Room k X.A) (hb : Binds X.K fd ps ds) (hd : Vals dvs ds) (hx : Passes CX X E) (ha : PA X (e :: es) t)
    (hst : starEach (e :: es) X.env = (false, eval e X.env) :: starEach es X.env := by rfl) (hpl : (backTo pos (starEach es X.env)).any (·.1) = false := by rfl)
    (ht : eval (.Call (.Attribute o m apos) (e :: es) [] pos) X.env = (do
      let ov ← eval o X.env
      standAt apos.atName
      let (f, first) ← holding [ov] (getMethod ov m pl)
      callWith pos f first (backTo pos (starEach (e :: es) X.env)) (backToKw pos (keywordEach [] X.env))) := by rfl) :
    PE X (.Call (.Attribute o m apos) (e :: es) [] pos) (tMeth C m sp dvs E ta t) := by
  intro pins s σ H Q I h
  refine PySem.W.methodCall_KW (pl := pl) (thn (he pins s σ H _ I h) fun u s1 ⟨x, H1, I1, rx, a, dx, fs, ex, ea, l, q⟩ => ?_) ht
  subst ex
  obtain rfl : u = Value.ref a := rx
  refine getmeth_ok I1 ea c hm l ?_
  refine PySem.W.callWith_K (first := [.ref a]) (h₀ := X.base) I.ok.mod.kin hm.kp (thn (ha pos pins s1 σ H1 _ I1 q) fun us s2 ⟨vs, H2, I2, r, q2⟩ => ⟨I2.kIn, ?_⟩) hst hpl
  exact run_fn (us := .ref a :: us) (vs := .ref a :: vs) F hr hb hd hx I2 (.cons rfl r) q2
/-- o.m() -/
theorem pe_meth0 {pl : Sem Bool} (he : PE X o ta) (c : Cls X.K C) (hm : Meth X.K C m f) (F : FnOk X.prog X.w X.K X.mg X.base CX k f fd ps sp) (hr : Room k X.A) (hb : Binds X.K fd ps ds) (hd : Vals dvs ds) (hx : Passes CX X E)
    (ht : eval (.Call (.Attribute o m apos) [] [] pos) X.env = (do
      let ov ← eval o X.env
      standAt apos.atName
      let (f, first) ← holding [ov] (getMethod ov m pl)
      callWith pos f first (backTo pos (starEach [] X.env)) (backToKw pos (keywordEach [] X.env))) := by rfl) :
    PE X (.Call (.Attribute o m apos) [] [] pos) (tMeth C m sp dvs E ta tNil) := by
  intro pins s σ H Q I h
  refine PySem.W.methodCall_KW (pl := pl) (thn (he pins s σ H _ I h) fun u s1 ⟨x, H1, I1, rx, a, dx, fs, ex, ea, l, q⟩ => ?_) ht
  subst ex
  obtain rfl : u = Value.ref a := rx
  refine getmeth_ok I1 ea c hm l ?_
  exact PySem.W.callWith_K0 (first := [.ref a]) I1.kIn hm.kp (run_fn (us := [.ref a]) (vs := [.ref a]) F hr hb hd hx I1 (.cons rfl .nil) q)

/-- what a class must have to be made -/
structure Mk (K : PySem.W.Frag) (C f : Addr) : Prop where
  makes : PySem.W.makesIn K C = true
  init : PySem.W.findIn K (.ref C) "__init__" = some (some (.ref f))
  fn : PySem.W.isFn K (.ref f) = true
  kp : PySem.W.keepIn K (.ref C) = true

theorem run_make {pins : List (Addr × Obj)} {σ : St} {H : Hp} {s : Shared} {Q : VK} {us : List Value} {vs : List V} (M : Mk X.K C f) (F : FnOk X.prog X.w X.K X.mg X.base CX k f fd ps sp) (hr : Room (k + 1) X.A) (hb : Binds X.K fd ps ds) (hd : Vals dvs ds)
    (hx : Passes CX X E) (I : Inv X pins σ H s) (r : Vals vs us)
    (h : ∀ x dx, H x = none → H dx = none → dx ≠ x → sp (.ref x :: (vs ++ dvs)) (upd (upd H dx (.own x)) x (.ins C dx [])) (fun v H2 => v = .non ∧ Q (.ref x) H2) E) :
    wpAny (model X.prog X.w) X.A (call (.ref C) us) (EP X pins σ Q) X.xe s := by
  have hq := h (s.heap.objs.size + 1) s.heap.objs.size (I.hok.fresh (Nat.le_succ _)) (I.hok.fresh (Nat.le_refl _)) (Nat.ne_of_lt (Nat.lt_succ_self _))
  have I2 := Inv.made (C := C) I
  have r2 : Vals (V.ref (s.heap.objs.size + 1) :: (vs ++ dvs)) (Value.ref (s.heap.objs.size + 1) :: (us ++ ds)) := .cons rfl (r.append hd)
  have hl : (Value.ref (s.heap.objs.size + 1) :: us ++ ds).length = ps.length := by
    have e := r2.length
    rw [F.len _ _ _ _ hq] at e
    exact e.symm
  refine wpAny_call (make_map (f := f) I.kIn M.makes M.init (beq_iff_eq.mp M.fn) (codeAny_mono (F.run _ X.stack _ _ ⟨Value.ref (s.heap.objs.size + 1) :: us, []⟩ (Value.ref (s.heap.objs.size + 1) :: (us ++ ds)) _ _ E (hr.make C us [])
    (I2.env0.make C us []) (hb _ (Value.ref (s.heap.objs.size + 1) :: us) I2.kIn hl) r2 hq) fun r s' hq' => ?_))
  cases r with
  | error e => exact hx pins σ _ _ e s' I2 hq'
  | ok fl =>
    cases fl with
    | ret u =>
      obtain ⟨v, H', I3, rv, ev, q3⟩ := I2.after hq'
      subst ev
      exact ⟨rv, ⟨V.ref (s.heap.objs.size + 1), H', I3, rfl, q3⟩⟩
    | next => exact False.elim hq'
    | brk => exact False.elim hq'
    | cont => exact False.elim hq'
theorem pe_make (M : Mk X.K C f) (F : FnOk X.prog X.w X.K X.mg X.base CX k f fd ps sp) (hr : Room (k + 1) X.A) (hg : Gl X x) (hm : X.mg x = some (.ref C)) (hb : Binds X.K fd ps ds) (hd : Vals dvs ds) (hx : Passes CX X E)
    (ha : PA X (e :: es) t) (hdb : (x == ("__debug__" : Str)) = false := by decide) (he : starEach (e :: es) X.env = (false, eval e X.env) :: starEach es X.env := by rfl) (hpl : (backTo pos (starEach es X.env)).any (·.1) = false := by rfl) :
    PE X (.Call (.Name x p) (e :: es) [] pos) (tMake C sp dvs E t) := by
  intro pins s σ H Q I h
  refine wpAny_Call_Name_kw (ld_glob I hg hm ?_ hdb)
  refine PySem.W.callWith_K (h₀ := X.base) I.ok.mod.kin M.kp (thn (ha pos pins s σ H _ I h) fun us s1 ⟨vs, H1, I1, r, q⟩ => ⟨I1.kIn, ?_⟩) he hpl
  exact run_make M F hr hb hd hx I1 r q
theorem pe_make0 (M : Mk X.K C f) (F : FnOk X.prog X.w X.K X.mg X.base CX k f fd ps sp) (hr : Room (k + 1) X.A) (hg : Gl X x) (hm : X.mg x = some (.ref C)) (hb : Binds X.K fd ps ds) (hd : Vals dvs ds) (hx : Passes CX X E)
    (hdb : (x == ("__debug__" : Str)) = false := by decide) : PE X (.Call (.Name x p) [] [] pos) (tMake C sp dvs E tNil) := by
  intro pins s σ H Q I h
  refine wpAny_Call_Name_kw (ld_glob I hg hm ?_ hdb)
  exact PySem.W.callWith_K0 I.kIn M.kp (run_make (us := []) M F hr hb hd hx I .nil h)
end

/-! ### keywords -/
/-- the values of the keywords, from the left -/
def PK (X : Cx) (kws : List Keyword) (t : TA) : Prop :=
  ∀ (pos : Pos) (pins : List (Addr × Obj)) (s : Shared) (σ : St) (H : Hp) (Q : List V → Hp → Prop), Inv X pins σ H s → t σ H Q → wpAny (model X.prog X.w) X.A (evalAll ((backToKw pos (keywordEach kws X.env)).map (·.2))) (AP X pins σ Q) X.xe s
section
variable {X : Cx} {CX : CXT} {k : Nat} {f C : Addr} {fd : FuncData} {ps ks : List Str} {sp : Sp} {E : XK} {x m : Str} {p pos apos kpos : Pos} {e o : Expr} {es : List Expr} {kws : List Keyword} {te ta : TE} {t tk : TA} {nm : Option Str}
theorem pk_nil : PK X [] tNil := fun _ _ _ _ H Q I h => wpAny_evalAll_nil ⟨[], H, I, .nil, h⟩
theorem pk_cons (ha : PE X e te) (hr : PK X kws t) : PK X (⟨nm, e, kpos⟩ :: kws) (tCons te t) := by
  intro pos pins s σ H Q I h
  show wpAny _ _ (evalAll ((do let v ← eval e X.env; standAt pos; pure v) :: (backToKw pos (keywordEach kws X.env)).map (·.2))) _ _ s
  refine wpAny_evalAll_cons (wpAny_bind (thn (ha pins s σ H _ I h) fun u s1 ⟨x, H1, I1, r1, q1⟩ => wpAny_bind (wpAny_standAt (wpAny_pure ?_))))
  exact thn (hr pos pins s1 σ H1 _ I1 q1) fun us s2 ⟨xs, H2, I2, r2, q2⟩ => ⟨x :: xs, H2, I2, .cons r1 r2, q2⟩

/-- how a call with keywords binds: g puts the positional values us and the keywords' values ws (names ks) in the parameters' order, defaults among them -/
structure KBinds (K : PySem.W.Frag) (fd : FuncData) (ps ks : List Str) (g : List Value → List Value → List Value) (gV : List V → List V → List V) : Prop where
  to : ∀ (s : Shared) (us ws : List Value), K.In s.heap → (g us ws).length = ps.length → BindsTo s fd ⟨us, ks.zip ws⟩ (ps.zip (g us ws))
  rel : ∀ {vs : List V} {us : List Value} {zs : List V} {ws : List Value}, Vals vs us → Vals zs ws → Vals (gV vs zs) (g us ws)
def tCallK (sp : Sp) (gV : List V → List V → List V) (E : XK) (t tk : TA) : TE := fun σ H Q => t σ H fun vs H1 => tk σ H1 fun zs H2 => sp (gV vs zs) H2 Q E
variable {g : List Value → List Value → List Value} {gV : List V → List V → List V}
theorem run_fnk {pins : List (Addr × Obj)} {σ : St} {H : Hp} {s : Shared} {Q : VK} {us ws : List Value} {vs zs : List V} (F : FnOk X.prog X.w X.K X.mg X.base CX k f fd ps sp) (hr : Room k X.A) (hb : KBinds X.K fd ps ks g gV) (hx : Passes CX X E)
    (I : Inv X pins σ H s) (r : Vals vs us) (rz : Vals zs ws) (h : sp (gV vs zs) H Q E) : wpAny (model X.prog X.w) X.A (call (.ref f) us (ks.zip ws)) (EP X pins σ Q) X.xe s := by
  have r2 := hb.rel r rz
  have hl : (g us ws).length = ps.length := by rw [← r2.length]; exact F.len _ _ _ _ h
  refine wpAny_call (codeAny_mono (F.run X.A X.stack s H ⟨us, ks.zip ws⟩ (g us ws) (gV vs zs) Q E hr I.env0 (hb.to s us ws I.kIn hl) r2 h) fun r s' hq => ?_)
  cases r with
  | error e => exact hx pins σ H s e s' I hq
  | ok fl =>
    cases fl with
    | ret u => exact I.after hq
    | next => exact False.elim hq
    | brk => exact False.elim hq
    | cont => exact False.elim hq
/-- f(e, .., k = v, ..) -/
theorem pe_callK (F : FnOk X.prog X.w X.K X.mg X.base CX k f fd ps sp) (hr : Room k X.A) (hg : Gl X x) (hm : X.mg x = some (.ref f)) (hk : PySem.W.keepIn X.K (.ref f) = true) (hb : KBinds X.K fd ps ks g gV) (hx : Passes CX X E)
    (ha : PA X (e :: es) t) (hkw : PK X kws tk) (hall : (backToKw pos (keywordEach kws X.env)).all (·.1.isSome) = true := by rfl) (hks : (backToKw pos (keywordEach kws X.env)).filterMap (·.1) = ks := by rfl)
    (hdb : (x == ("__debug__" : Str)) = false := by decide) (he : starEach (e :: es) X.env = (false, eval e X.env) :: starEach es X.env := by rfl)
    (hpl : ((backTo pos (starEach (e :: es) X.env)).any (·.1) || (backToKw pos (keywordEach kws X.env)).any (·.1.isNone)) = false := by rfl) :
    PE X (.Call (.Name x p) (e :: es) kws pos) (tCallK sp gV E t tk) := by
  intro pins s σ H Q I h
  refine wpAny_Call_Name_kw (ld_glob I hg hm ?_ hdb)
  refine PySem.W.callWith_KW (h₀ := X.base) I.ok.mod.kin hk hall (thn (ha pos pins s σ H _ I h) fun us s1 ⟨vs, H1, I1, r, q⟩ => ?_) hpl he
  refine thn (hkw pos pins s1 σ H1 _ I1 q) fun ws s2 ⟨zs, H2, I2, rz, q2⟩ => ⟨I2.kIn, ?_⟩
  rw [hks]
  exact run_fnk F hr hb hx I2 r rz q2
end

/-! ### a def's body keeps its promise -/
/-- names: the parameters first -/
structure FnScope (N P : List Str) (sc : Scope) : Prop where
  kind : sc.kind = .function
  co : sc.isCoroutine = false
  gen : sc.isGenerator = false
  nd : N.Nodup
  pre : N.take P.length = P
  par : ∀ x ∈ P, sc.names.lookup x = some .local ∨ sc.names.lookup x = some .cell
  nofree : ∀ y ∈ sc.names, y.2 ≠ .free

theorem bindL_out {kindOf : Str → Option NameKind} {x : Str} : ∀ {binds : List (Str × Value)} {m : Str → Option Value}, (∀ v, (x, v) ∉ binds) → bindL kindOf binds m x = m x
  | [], _, _ => rfl
  | (n, v) :: r, m, h => by
    unfold bindL
    rw [bindL_out fun w hw => h w (List.mem_cons_of_mem _ hw)]
    split
    · have : x ≠ n := by rintro rfl; exact h v List.mem_cons_self
      simp [this]
    · rfl
theorem bindC_out {kindOf : Str → Option NameKind} {x : Str} : ∀ {binds : List (Str × Value)} {m : Str → Option Value}, (∀ v, (x, v) ∉ binds) → bindC kindOf binds m x = m x
  | [], _, _ => rfl
  | (n, v) :: r, m, h => by
    unfold bindC
    rw [bindC_out fun w hw => h w (List.mem_cons_of_mem _ hw)]
    split
    · rfl
    · have : x ≠ n := by rintro rfl; exact h v List.mem_cons_self
      simp [this]
theorem bindL_get {kindOf : Str → Option NameKind} {x : Str} {v : Value} : ∀ {P : List Str} {vs : List Value} {i : Nat} {m : Str → Option Value}, P.Nodup → P[i]? = some x → vs[i]? = some v → kindOf x = some .local →
    bindL kindOf (P.zip vs) m x = some v
  | [], _, _, _, _, h, _, _ => by simp at h
  | _ :: _, [], _, _, _, _, h, _ => by simp at h
  | p :: P, w :: vs, 0, m, nd, h1, h2, hk => by
    simp at h1 h2; subst h1; subst h2
    show bindL kindOf ((p, w) :: P.zip vs) m p = _
    unfold bindL
    rw [bindL_out fun v hv => (List.nodup_cons.mp nd).1 (List.of_mem_zip hv).1, if_pos hk]
    simp
  | p :: P, w :: vs, i + 1, m, nd, h1, h2, hk => by
    show bindL kindOf ((p, w) :: P.zip vs) m x = _
    unfold bindL
    exact bindL_get (i := i) (List.nodup_cons.mp nd).2 (by simpa using h1) (by simpa using h2) hk
theorem bindC_get {kindOf : Str → Option NameKind} {x : Str} {v : Value} : ∀ {P : List Str} {vs : List Value} {i : Nat} {m : Str → Option Value}, P.Nodup → P[i]? = some x → vs[i]? = some v → kindOf x ≠ some .local →
    bindC kindOf (P.zip vs) m x = some v
  | [], _, _, _, _, h, _, _ => by simp at h
  | _ :: _, [], _, _, _, _, h, _ => by simp at h
  | p :: P, w :: vs, 0, m, nd, h1, h2, hk => by
    simp at h1 h2; subst h1; subst h2
    show bindC kindOf ((p, w) :: P.zip vs) m p = _
    unfold bindC
    rw [bindC_out fun v hv => (List.nodup_cons.mp nd).1 (List.of_mem_zip hv).1, if_neg hk]
    simp
  | p :: P, w :: vs, i + 1, m, nd, h1, h2, hk => by
    show bindC kindOf ((p, w) :: P.zip vs) m x = _
    unfold bindC
    exact bindC_get (i := i) (List.nodup_cons.mp nd).2 (by simpa using h1) (by simpa using h2) hk

/-- the names' values at the entry -/
def start (N : List Str) (vs : List V) : St := vs.map some ++ List.replicate (N.length - vs.length) none

/-- the context of a def's body, at its entry; an exception leaves the frame, then lies as CX says -/
def cxOf (CX : CXT) (P : Program) (w : World) (K : PySem.W.Frag) (mg : Str → Option Value) (base : Heap) (N : List Str) (qual : Str) (scope : Scope) (f : Addr) (cd : Value) (A : Around) (outer : List Env) (s : Shared) (H : Hp) (E : XK) : Cx where
  prog := P
  w := w
  K := K
  mg := mg
  base := base
  A := A.deeper (envOfC qual scope s.heap.objs.size f cd)
  N := N
  s₀ := s
  H₀ := H
  env := envOfC qual scope s.heap.objs.size f cd
  outer := outer
  stack := envOfC qual scope s.heap.objs.size f cd :: outer
  ex := []
  calm := true
  fn := fun _ => true
  pn := []
  xe := fun e s' => wpAny (model P w) (A.deeper (envOfC qual scope s.heap.objs.size f cd)) (leaving (envOfC qual scope s.heap.objs.size f cd) e) (fun _ s'' => CX outer H s E e s'') (fun e' s'' => CX outer H s E e' s'') s'

theorem cell_has {sc : Scope} {n : Nat} {x : Str} (h : sc.names.lookup x = some .cell) : ∃ c, (cellsFrom n sc.names []).lookup x = some c := by
  have q := PySem.W.cellsFrom_some sc.names n [] (.inl h)
  exact Option.isSome_iff_exists.mp q

theorem inv_start {CX : CXT} {P : Program} {w : World} {K : PySem.W.Frag} {mg : Str → Option Value} {base : Heap} {N ps : List Str} {qual : Str} {scope : Scope} {f : Addr} {cd : Value} {A : Around} {outer : List Env} {s s1 : Shared} {H : Hp} {E : XK} {us : List Value} {vs : List V}
    (S : FnScope N ps scope) (hd : A.handled = none) (e0 : Env0 P w K mg base A outer s H) (hl : vs.length = ps.length) (r : Vals vs us)
    (x : InCallC s s.heap.objs.size (bindL (envOfC qual scope s.heap.objs.size f cd).kindOf (ps.zip us) fun _ => none) (cellsFrom (s.heap.objs.size + 1) scope.names []) (bindC (envOfC qual scope s.heap.objs.size f cd).kindOf (ps.zip us) fun _ => none) s1) :
    Inv (cxOf CX P w K mg base N qual scope f cd A outer s H E) [] (start N vs) H s1 := by
  have hpl : ps.length ≤ N.length := by have := congrArg List.length S.pre; rw [List.length_take] at this; omega
  obtain ⟨h1, tk, rfl, hk⟩ := x.done
  have noA : ∀ b : Addr, b ∉ (cxOf CX P w K mg base N qual scope f cd A outer s H E).ex := fun b z => absurd (show b ∈ ([] : List Addr) from z) (by simp)
  refine ⟨⟨e0.mod, S.kind, rfl, rfl, Nat.le_refl _, fun y z c h1 h2 => ?_, fun y hy => ?_, fun y c _ h => ?_, fun _ => hd, Around.frames_deeper e0.frames, .inr ⟨rfl, rfl⟩, fun b z => absurd z (noA b), e0.bs, e0.bsz, fun b _ _ => noA b, fun b z => absurd z (noA b), e0.funs, e0.frf⟩,
    rfl, e0.bare, Un.kept hk, ⟨_, x.toInCall.ns, fun i y v h1 h2 h3 => ?_⟩, fun y c h => ⟨_, x.cell y c h⟩, e0.hok.fresh (Nat.le_refl _), fun y c h => ?_, fun p hp => absurd (show p ∈ ([] : List (Addr × Obj)) from hp) (by simp), e0.hok.kept hk, ?_⟩
  · exact name_of_addr x.apart (PySem.mem_of_lookup h1) (PySem.mem_of_lookup h2)
  · have hy : scope.names.lookup y = some .cell ∨ scope.names.lookup y = some .free := hy
    rcases hy with hy | hy
    · exact cell_has hy
    · exact absurd rfl (S.nofree _ (PySem.mem_of_lookup hy))
  · exact Nat.le_of_lt (x.above y c (PySem.mem_of_lookup h))
  · have hi : i < vs.length := by
      unfold start at h2
      by_cases hi : i < vs.length
      · exact hi
      · rw [List.getElem?_append_right (by simpa using hi)] at h2
        rw [List.getElem?_replicate] at h2
        split at h2 <;> cases h2
    have ha : vs[i]? = some v := by
      unfold start at h2
      rw [List.getElem?_append_left (by simpa using hi), List.getElem?_map] at h2
      cases e : vs[i]? with
      | none => rw [e] at h2; cases h2
      | some a => rw [e] at h2; cases h2; rfl
    obtain ⟨u, hu, rv⟩ := r.get ha
    have hp : ps[i]? = some y := by
      rw [← S.pre, List.getElem?_take_of_lt (by omega)]; exact h1
    have ndP : ps.Nodup := by rw [← S.pre]; exact S.nd.sublist (List.take_sublist _ _)
    refine ⟨u, rv, ?_⟩
    rcases S.par y (List.mem_of_getElem? hp) with k | k
    · exact .inl ⟨k, bindL_get ndP hp hu k⟩
    · obtain ⟨c, e⟩ := cell_has (n := s.heap.objs.size + 1) k
      refine .inr ⟨.inl k, c, e, ?_⟩
      have q := x.cell y c e
      rw [bindC_get ndP hp hu (by show scope.names.lookup y ≠ _; rw [k]; decide)] at q
      exact q
  · exact e0.hok.fresh (Nat.le_of_lt (x.above y c (PySem.mem_of_lookup h)))
  · unfold start
    show _ = N.length
    rw [List.length_append, List.length_map, List.length_replicate]
    omega

/-- THE RULE: a def (or a method) of the text, by its body. The body's reading t is chosen for each entry; it is run at the parameters' values -/
theorem fn_of {CX : CXT} {P : Program} {w : World} {K : PySem.W.Frag} {mg : Str → Option Value} {base : Heap} {k : Nat} {f : Addr} {name qual : Str} {params : Arguments} {body : List Stmt} {scope : Scope} {dV kV doc pm cdv ct oc : Value} {an od : Option Addr}
    {osl : Array (Option Value)} {N ps : List Str} {sp : Sp} (lk : K.lookup f = some ⟨oc, od, .func (PySem.W.fnOf name qual params body scope dV kV doc pm an cdv ct), osl⟩) (hcd : PySem.W.codeIn K cdv qual = true) (S : FnScope N ps scope)
    (len : ∀ vs H Q E, sp vs H Q E → vs.length = ps.length)
    (hbody : ∀ (A : Around) (outer : List Env) (s : Shared) (H : Hp) (vs : List V) (Q : VK) (E : XK), Room k (A.deeper (envOfC qual scope s.heap.objs.size f cdv)) → sp vs H Q E →
      ∃ t, PSs (cxOf CX P w K mg base N qual scope f cdv A outer s H E) body t ∧ t { nx := fun _ H' => Q .non H', rt := Q } (start N vs) H) :
    FnOk P w K mg base CX (k + 1) f (PySem.W.fnOf name qual params body scope dV kV doc pm an cdv ct) ps sp := by
  refine ⟨len, fun A outer s H args us vs Q E hr e0 hb r hsp => ?_⟩
  have hl := len _ _ _ _ hsp
  have KX : K.In s.heap := e0.mod.kin.keeps fun b o e => (e0.bs b o e).1
  have lim : s.heap.NoLimit := e0.mod.nolimit.keeps fun b o e => (e0.bs b o e).1
  have hkind : ∀ y ∈ ps.zip us, scope.names.lookup y.1 = some .local ∨ (scope.names.lookup y.1 = some .cell ∧ ((cellsFrom (s.heap.objs.size + 1) scope.names []).lookup y.1).isSome = true) := fun ⟨n, v⟩ hy => by
    rcases S.par n (List.of_mem_zip hy).1 with q | q
    · exact .inl q
    · exact .inr ⟨q, PySem.W.cellsFrom_some _ _ _ (.inl q)⟩
  refine codeAny_call_function hr.depth (KX _ _ lk) rfl S.co S.gen rfl (PySem.W.codeRec_of KX hcd) (hb _ _ _ _ ?_)
  refine wpAny_newFunctionEnv_cells S.kind hkind fun env he s1 x => ?_
  subst he
  refine ⟨lim.keeps x.toInCall.keep, codeAny_func ?_⟩
  obtain ⟨t, ht, hq⟩ := hbody A outer s H vs Q E (hr.deeper _) hsp
  have I : Inv (cxOf CX P w K mg base N qual scope f cdv A outer s H E) [] (start N vs) H s1 := inv_start S hr.hd e0 hl r x
  refine wpAny_mono (ht [] s1 (start N vs) H _ I hq) (fun fl s' hs => ?_) fun e s' hs => hs
  have fin : ∀ {σ' : St} {H' : Hp} {v : V} {u : Value}, Inv (cxOf CX P w K mg base N qual scope f cdv A outer s H E) [] σ' H' s' → RelV v u → Q v H' → CE outer P w H s Q u s' :=
    fun {σ' H' v u} J rv q => ⟨v, H', J.os, J.bare, J.base, J.hok, rv, q⟩
  cases fl with
  | ret u =>
    obtain ⟨v, σ', H', J, rv, q⟩ := hs
    exact fin J rv q
  | next =>
    obtain ⟨σ', H', J, q⟩ := hs
    exact fin (v := V.non) (u := Value.none) J rfl q
  | brk =>
    obtain ⟨_, _, _, q⟩ := hs
    exact False.elim q
  | cont =>
    obtain ⟨_, _, _, q⟩ := hs
    exact False.elim q
end L2

namespace L2
open PySem PySem.Spec PyProof.Rows
section
variable {X : Cx} {x : Str} {p pos : Pos} {e : Expr} {es : List Expr} {t : TA} {id T : String} {r : List V → Hp → VK → Prop}

def tCB (r : List V → Hp → VK → Prop) (t : TA) : TE := fun σ H Q => t σ H fun vs H1 => r vs H1 Q
/-- f(e, ..), f a built-in function -/
theorem pe_callB (hc : CallR X (.builtin id) r) (hg : Gl X x) (hm : X.mg x = none) (hv : bootBuiltins x = some (.builtin id)) (ha : PA X (e :: es) t) (hn : x ≠ "__name__" := by decide) (hdb : (x == ("__debug__" : Str)) = false := by decide)
    (he : starEach (e :: es) X.env = (false, eval e X.env) :: starEach es X.env := by rfl) (hpl : (backTo pos (starEach es X.env)).any (·.1) = false := by rfl) : PE X (.Call (.Name x p) (e :: es) [] pos) (tCB r t) := by
  intro pins s σ H Q I h
  refine wpAny_Call_Name_kw (ld_blt I hg hm hv ?_ hn hdb)
  exact PyProof.Rows.callWith_builtin1 (thn (ha pos pins s σ H _ I h) fun us s1 ⟨vs, H1, I1, r1, q1⟩ => hc pins s1 σ H1 vs us Q I1 r1 q1) he hpl
/-- T(e, ..), T a built-in type -/
theorem pe_callTy (hc : CallR X (.type T) r) (hg : Gl X x) (hm : X.mg x = none) (hv : bootBuiltins x = some (.type T)) (ha : PA X (e :: es) t) (hn : x ≠ "__name__" := by decide) (hdb : (x == ("__debug__" : Str)) = false := by decide)
    (he : starEach (e :: es) X.env = (false, eval e X.env) :: starEach es X.env := by rfl) (hpl : (backTo pos (starEach es X.env)).any (·.1) = false := by rfl) : PE X (.Call (.Name x p) (e :: es) [] pos) (tCB r t) := by
  intro pins s σ H Q I h
  refine wpAny_Call_Name_kw (ld_blt I hg hm hv ?_ hn hdb)
  exact PyProof.Rows.callWith_type1 (thn (ha pos pins s σ H _ I h) fun us s1 ⟨vs, H1, I1, r1, q1⟩ => hc pins s1 σ H1 vs us Q I1 r1 q1) he hpl
/-- T() -/
theorem pe_callTy0 (hc : CallR X (.type T) r) (hg : Gl X x) (hm : X.mg x = none) (hv : bootBuiltins x = some (.type T)) (hn : x ≠ "__name__" := by decide) (hdb : (x == ("__debug__" : Str)) = false := by decide) :
    PE X (.Call (.Name x p) [] [] pos) (tCB r tNil) := by
  intro pins s σ H Q I h
  refine wpAny_Call_Name_kw (ld_blt I hg hm hv ?_ hn hdb)
  exact PyProof.Rows.callWith_type0 (hc pins s σ H [] [] Q I .nil h)
end
end L2

namespace HT
open PySem PyProof.Rows

/-- t < u of tuples of ints -/
def lexLt : List Int → List Int → Bool
  | [], [] => false
  | [], _ :: _ => true
  | _ :: _, [] => false
  | x :: xs, y :: ys => if x = y then lexLt xs ys else decide (x < y)
theorem lexLt_cons (x y : Int) (xs ys : List Int) : lexLt (x :: xs) (y :: ys) = if x = y then lexLt xs ys else decide (x < y) := rfl
theorem lexLt_nil_nil : lexLt [] [] = false := rfl
theorem lexLt_nil_cons (y : Int) (ys : List Int) : lexLt [] (y :: ys) = true := rfl
theorem lexLt_cons_nil (x : Int) (xs : List Int) : lexLt (x :: xs) [] = false := rfl

theorem eqAt_int (A : Around) (s : Shared) (a : Int) (t : Tok) (c : Int) (u : Tok) : ∃ e, SeqAt.EqAt A s (.int a t) (.int c u) e ∧ (e = true ↔ a = c) :=
  ⟨(a == c), SeqAt.EqAt.int_int a t c u, by simp⟩
theorem rcLt_int (A : Around) (s : Shared) (a : Int) (t : Tok) (c : Int) (u : Tok) (prog : Program) (w : World) (E : Value → Shared → Prop) (Q : Value → Shared → Prop) (h : Q (.bool (decide (a < c))) s) :
    wpAny (model prog w) A (richCompare .Lt (.int a t) (.int c u)) Q E s :=
  (PyProof.Rows.lt_int h : wpAny (model prog w) A (compareOp .Lt (.int a t) (.int c u)) Q E s)

section
open PySem.SeqAt
open PySem.AutoSeq1 (wpAny_loadPart')
open PySem.MeetsSeq PySem.MeetsSeq2 PySem.MeetsSeq3

theorem tuple_lt_ints (l b : Addr) (items items2 : Array Value) (n n2 : Nat) (dd dd2 : Option Addr) (sl sl2 : Array (Option Value)) (ns ms : List Int) (hi : IntsAre items.toList ns) (hj : IntsAre items2.toList ms) :
    Meets (Builtin.«tuple.__lt__» ⟨[.ref l, .ref b], []⟩)
      (fun _ R s => s.heap.get? l = some { cls := .type "tuple", dict := dd, data := .seq items n, slots := sl } ∧ s.heap.get? b = some { cls := .type "tuple", dict := dd2, data := .seq items2 n2, slots := sl2 } ∧
        R (.ok (.ret (.bool (lexLt ns ms)))) s) :=
  .of_wp fun prog w A R s h => by
    obtain ⟨hp, g, d, tk, os⟩ := s; obtain ⟨hl, hb, h⟩ := h
    have f2 := AutoSeq1.sub_tuple_tuple
    have z1 : items.size = ns.length := by rw [← hi.length]; simp
    have z2 : items2.size = ms.length := by rw [← hj.length]; simp
    wp_walk using wpAny_loadPart' hl, wpAny_loadPart' hb, wpAny_forIn_list _ (fun rest b s' => b.1 = none ∧ s' = ⟨hp, g, d, tk, os⟩ ∧ ∃ (vs ws : List Value) (ns' ms' : List Int), rest = vs.zip ws ∧
      IntsAre vs ns' ∧ IntsAre ws ms' ∧ ns'.length + items2.size = ms'.length + items.size ∧ R (.ok (.ret (.bool (lexLt ns' ms')))) ⟨hp, g, d, tk, os⟩) _
    case turn =>
      rintro ⟨y, x⟩ rest b s' ⟨hb', rfl, vs, ws, ns', ms', hz, hvi, hwi, hlen, hR⟩
      cases hvi with
      | nil => rw [List.zip_nil_left] at hz; cases hz
      | cons a t hvi' =>
        cases hwi with
        | nil => rw [List.zip_nil_right] at hz; cases hz
        | cons c u hwi' =>
          rw [List.zip_cons_cons] at hz
          injection hz with hyx hrest
          injection hyx with hy hx
          subst hy hx
          rw [lexLt_cons] at hR
          simp only [List.length_cons] at hlen
          obtain ⟨e, he, hiff⟩ := eqAt_int A.in1 ⟨hp, g, d, tk, os⟩ a t c u
          refine wpAny_bind (he prog w _ _ ?_)
          cases e with
          | true =>
            rw [if_pos (hiff.mp rfl)] at hR
            wp_walk
            exact ⟨rfl, rfl, _, _, _, _, hrest, hvi', hwi', by omega, hR⟩
          | false =>
            rw [if_neg (fun q => absurd (hiff.mpr q) Bool.false_ne_true)] at hR
            have hri := rcLt_int A.in1 ⟨hp, g, d, tk, os⟩ a t c u prog w
            wp_walk using hri
            exact ⟨_, rfl, by simpa using hR⟩
    case fin =>
      rintro ⟨b1, b2⟩ s' ⟨hb', rfl, vs, ws, ns', ms', hz, hvi, hwi, hlen, hR⟩
      simp only at hb'
      subst hb'
      have hv : lexLt ns' ms' = decide (items.size < items2.size) := by
        cases hvi with
        | nil =>
          cases hwi with
          | nil =>
            simp only [List.length_nil] at hlen
            rw [lexLt_nil_nil]
            exact (decide_eq_false (by omega)).symm
          | cons c u hw =>
            simp only [List.length_nil, List.length_cons] at hlen
            rw [lexLt_nil_cons]
            exact (decide_eq_true (by omega)).symm
        | cons a t hv =>
          cases hwi with
          | nil =>
            simp only [List.length_nil, List.length_cons] at hlen
            rw [lexLt_cons_nil]
            exact (decide_eq_false (by omega)).symm
          | cons c u hw =>
            rw [List.zip_cons_cons] at hz
            cases hz
      rw [hv] at hR
      wp_walk
      exact ⟨_, rfl, by simpa [Builtin.Tuple.tupleCompareSizes] using hR⟩
    case h =>
      exact ⟨rfl, rfl, items.toList, items2.toList, ns, ms, rfl, hi, hj, by omega, h⟩
end

section
variable {prog : Program} {w : World} {A : Around} {E : Value → Shared → Prop} {s : Shared}

theorem lt_tupInts {l b : Addr} {items items2 : Array Value} {ns ms : List Int} {Q : Value → Shared → Prop} (hl : IsTup s.heap l items) (hb : IsTup s.heap b items2) (hi : IntsAre items.toList ns) (hj : IntsAre items2.toList ms)
    (hu : A.units < cLine) (h : Q (.bool (lexLt ns ms)) s) : wpAny (model prog w) A (compareOp .Lt (.ref l) (.ref b)) Q E s := by
  obtain ⟨⟨cls, dd, data, sl⟩, ho, hc, n, hd⟩ := id hl
  obtain ⟨⟨cls2, dd2, data2, sl2⟩, ho2, hc2, n2, hd2⟩ := id hb
  simp only at hc hd hc2 hd2
  subst hc hd hc2 hd2
  exact richCompare_meets_room (op := .Lt) ⟨_, ho, rfl⟩ ⟨_, ho2, rfl⟩ PySem.F.slot_tuple_lt PySem.F.entry_tuple_lt (PySem.F.args_tuple_lt_2 _ _) (tuple_lt_ints l b items items2 n n2 dd dd2 sl sl2 ns ms hi hj)
    ⟨ho, ho2, show Value.bool (lexLt ns ms) ≠ Value.notImplemented ∧ Q (.bool (lexLt ns ms)) s from ⟨(fun x => nomatch x), h⟩⟩ hu

/-- t + u, t not empty -/
theorem cat_tup {t b : Addr} {vs ws : List Value} {Q : Value → Shared → Prop} (ht : IsTup s.heap t vs.toArray) (hb : IsTup s.heap b ws.toArray) (hv : vs ≠ [])
    (h1 : ws = [] → Q (.ref t) s) (h2 : ws ≠ [] → Q (.ref s.heap.objs.size) { s with heap := s.heap.push { cls := .type "tuple", data := .seq (vs ++ ws).toArray } })
    (hsz : vs.length + ws.length ≤ sizeLine) : wpAny (model prog w) A (binaryOp .Add (.ref t) (.ref b)) Q E s := by
  obtain ⟨⟨cls, dd, data, sl⟩, ho, hc, n, hd⟩ := id ht
  obtain ⟨⟨cls2, dd2, data2, sl2⟩, ho2, hc2, n2, hd2⟩ := id hb
  simp only at hc hd hc2 hd2
  subst hc hd hc2 hd2
  have e : vs.toArray ++ ws.toArray = (vs ++ ws).toArray := by simp
  by_cases hw : ws = []
  · exact concat_meets ⟨_, ho, rfl⟩ ⟨_, ho2, rfl⟩ noFill_tuple_add seq_tuple_add PySem.F.slot_tuple_add PySem.F.entry_tuple_add (PySem.F.args_tuple_add_2 _ _)
      (tuple_addW1 t b vs.toArray ws.toArray n n2 dd dd2 sl sl2 (by simpa using hv) (by simp [hw])) ⟨ho, ho2, h1 hw⟩
  · refine concat_meets ⟨_, ho, rfl⟩ ⟨_, ho2, rfl⟩ noFill_tuple_add seq_tuple_add PySem.F.slot_tuple_add PySem.F.entry_tuple_add (PySem.F.args_tuple_add_2 _ _)
      (tuple_addW2 t b vs.toArray ws.toArray n n2 dd dd2 sl sl2 (by simpa using hv) (by simpa using hw) (by rw [List.size_toArray, List.size_toArray]; exact hsz)) ⟨ho, ho2, ?_⟩
    rw [e]
    exact h2 hw

/-! ### t[a:b], not the whole -/
/-- a slice's bound as a place among n (d where it is left out) -/
def sIx (n d : Nat) : Option Int → Nat
  | none => d
  | some v => if v < 0 then (v + (n : Int)).toNat else min v.toNat n
theorem sIx_none (n d : Nat) : sIx n d none = d := rfl
theorem sIx_nat (n d k : Nat) : sIx n d (some (k : Int)) = min k n := by
  show (if (k : Int) < 0 then ((k : Int) + (n : Int)).toNat else min (k : Int).toNat n) = min k n
  rw [if_neg (by omega), Int.toNat_natCast]
theorem sIx_le (n d : Nat) (hd : d ≤ n) (o : Option Int) : sIx n d o ≤ n := by
  cases o with
  | none => exact hd
  | some v =>
    show (if v < 0 then (v + (n : Int)).toNat else min v.toNat n) ≤ n
    by_cases hv : v < 0
    · rw [if_pos hv]; omega
    · rw [if_neg hv]; exact Nat.min_le_right _ _
theorem clip_eq (v : Int) (n d : Nat) : (if v < 0 then max (v + (n : Int)) 0 else min v (n : Int)) = ((sIx n d (some v) : Nat) : Int) := by
  show (if v < 0 then max (v + (n : Int)) 0 else min v (n : Int)) = (((if v < 0 then (v + (n : Int)).toNat else min v.toNat n) : Nat) : Int)
  by_cases hv : v < 0
  · simp only [if_pos hv]; omega
  · simp only [if_neg hv]; omega
theorem adjust_gen (lo hi : Option Int) (n : Nat) : Builtin.Slice.sliceAdjust lo hi 1 (n : Int) = (((sIx n 0 lo : Nat) : Int), ((sIx n n hi : Nat) : Int)) := by
  have h1 : ¬ ((1 : Int) < 0) := by omega
  unfold Builtin.Slice.sliceAdjust
  simp only [h1, if_false]
  refine Prod.ext ?_ ?_
  · cases lo with
    | none => rfl
    | some v => exact clip_eq v n 0
  · cases hi with
    | none => rfl
    | some v => exact clip_eq v n n
theorem places_gen (i j : Nat) : Builtin.Slice.slicePlaces (i : Int) (j : Int) 1 = j - i := by
  unfold Builtin.Slice.slicePlaces
  have h1 : (1 : Int) > 0 := by omega
  simp only [h1, if_true, Int.ediv_one]
  split <;> omega
theorem slicePart_ {v : Value} {o : Option Int} {Q : Option Int → Shared → Prop} (p : IsPart v o) (h : Q o s) : wpAny (model prog w) A (Builtin.Slice.slicePartIndex v) Q E s := by
  cases p with
  | none => exact slicePart_none h
  | int i t => exact slicePart_int h
theorem sliceApplied_gen {sl : Addr} {vl vu : Value} {lo hi : Option Int} {n : Nat} {Q : Int × Int × Nat → Shared → Prop} (hs : s.heap.IsSliceOf sl vl vu .none) (pl : IsPart vl lo) (pu : IsPart vu hi)
    (h : Q (((sIx n 0 lo : Nat) : Int), 1, sIx n n hi - sIx n 0 lo) s) : wpAny (model prog w) A (Builtin.Slice.sliceApplied (.ref sl) (pure (n : Int))) Q E s := by
  obtain ⟨os, hos, hcs, hds⟩ := id hs
  unfold Builtin.Slice.sliceApplied Builtin.Slice.sliceFields
  refine wpAny_bind (wpAny_bind (wpAny_field hos hds (x := vl) rfl (wpAny_bind (wpAny_field hos hds (x := vu) rfl (wpAny_bind (wpAny_field hos hds (x := .none) rfl (wpAny_pure ?_)))))))
  refine wpAny_bind (slicePart_none ?_)
  show wpAny _ _ (if ((1 : Int) == 0) = true then _ else _) _ _ s
  rw [if_neg (by decide)]
  refine wpAny_bind (slicePart_ pl (wpAny_bind (slicePart_ pu (wpAny_bind (wpAny_pure ?_)))))
  show wpAny _ _ (match Builtin.Slice.sliceAdjust lo hi 1 (n : Int) with | (lo, hi) => pure (lo, (1 : Int), Builtin.Slice.slicePlaces lo hi 1)) _ _ s
  rw [adjust_gen lo hi n]
  show wpAny _ _ (pure (((sIx n 0 lo : Nat) : Int), (1 : Int), Builtin.Slice.slicePlaces ((sIx n 0 lo : Nat) : Int) ((sIx n n hi : Nat) : Int) 1)) _ _ s
  rw [places_gen]
  exact wpAny_pure h
theorem pick_gen (xs : Array Value) (i k : Nat) : ((List.range k).filterMap fun (m : Nat) => xs[((i : Int) + (m : Int) * 1).toNat]?).toArray = ((xs.toList.drop i).take k).toArray := by
  have e : (fun (m : Nat) => xs[((i : Int) + (m : Int) * 1).toNat]?) = fun m => xs[i + m]? := by
    funext m
    have : ((i : Int) + (m : Int) * 1).toNat = i + m := by omega
    rw [this]
  rw [e]
  have := pick_run xs i k
  rw [List.filterMap_map] at this
  have e2 : ((fun x => xs[x]?) ∘ fun x => i + x) = fun m => xs[i + m]? := rfl
  rw [e2] at this
  rw [this]

theorem getItem_tuple_cut {t sl : Addr} {items : Array Value} {vl vu : Value} {lo hi : Option Int} {Q : Value → Shared → Prop} (ht : IsTup s.heap t items) (hs : s.heap.IsSliceOf sl vl vu .none) (pl : IsPart vl lo) (pu : IsPart vu hi)
    (hw : ¬ (sIx items.size 0 lo = 0 ∧ sIx items.size items.size hi = items.size))
    (h : Q (.ref s.heap.objs.size) { s with heap := s.heap.push { cls := .type "tuple", data := .seq ((items.toList.drop (sIx items.size 0 lo)).take (sIx items.size items.size hi - sIx items.size 0 lo)).toArray } })
    (hsz : items.size ≤ sizeLine) : wpAny (model prog w) A (getItem (.ref t) (.ref sl)) Q E s := by
  have htake : sizeOk (.seq ((items.toList.drop (sIx items.size 0 lo)).take (sIx items.size items.size hi - sIx items.size 0 lo)).toArray) := by
    show ((items.toList.drop (sIx items.size 0 lo)).take (sIx items.size items.size hi - sIx items.size 0 lo)).toArray.size ≤ sizeLine
    rw [List.size_toArray, List.length_take, List.length_drop, Array.length_toList]
    omega
  have hj : sIx items.size items.size hi ≤ items.size := sIx_le _ _ (Nat.le_refl _) hi
  obtain ⟨os, hos, hcs, hds⟩ := id hs
  have hTs : s.TypeIs (.ref sl) "slice" := ⟨os, hos, hcs⟩
  unfold getItem
  try with_reducible refine wpAny_holding ?_
  first | refine wpAny_bind (wpAny_pure ?_) | skip
  refine wpAny_bind (wpAny_sequenceKey ht.typeIs (by decide) ?_)
  refine wpAny_bind (wpAny_callSpecial?_slot (name := Str.ofString "__getitem__") ht.typeIs PyProof.Rows.slot_tuple_getitem
    (wpAny_call_entry PyProof.Rows.slot_tuple_getitem ht.typeIs entry_tuple_getitem ?_ (args_tuple_getitem _ _)))
  show wpAny _ _ (Builtin.Tuple.tupleItemsOf (.ref t) >>= _) _ _ s
  refine wpAny_bind (tupleItemsOf_ ht ?_)
  refine wpAny_bind (wpAny_typeOf hTs ?_)
  rw [if_pos (by decide)]
  refine wpAny_bind (sliceApplied_gen hs pl pu ?_)
  have hno : ¬ ((((sIx items.size 0 lo : Nat) : Int) == 0 && (1 : Int) == 1 && (sIx items.size items.size hi - sIx items.size 0 lo) == items.size) = true) := by
    intro q
    rw [Bool.and_eq_true, Bool.and_eq_true] at q
    have q1 : ((sIx items.size 0 lo : Nat) : Int) = 0 := eq_of_beq q.1.1
    have q2 : sIx items.size items.size hi - sIx items.size 0 lo = items.size := eq_of_beq q.2
    exact hw ⟨by omega, by omega⟩
  show wpAny _ _ (if (((sIx items.size 0 lo : Nat) : Int) == 0 && (1 : Int) == 1 && (sIx items.size items.size hi - sIx items.size 0 lo) == items.size) = true then _ else _) _ _ s
  rw [if_neg hno, pick_gen]
  first
    | exact wpAny_bind (m := Builtin.Tuple.tupleExact _) (wpAny_newObj_type (wpAny_pure ⟨_, rfl, wpAny_pure h⟩) htake)
    | exact wpAny_bind (m := Builtin.Tuple.tupleExact _) (wpAny_newObj_type (wpAny_bind (wpAny_pure (wpAny_pure ⟨_, rfl, wpAny_pure h⟩))) htake)
    | exact wpAny_bind (wpAny_bind (m := Builtin.Tuple.tupleExact _) (wpAny_newObj_type (wpAny_pure (wpAny_pure ⟨_, rfl, wpAny_pure h⟩)) htake))
    | exact wpAny_bind (wpAny_bind (m := Builtin.Tuple.tupleExact _) (wpAny_newObj_type (wpAny_pure ⟨_, rfl, wpAny_pure h⟩) htake))
end
end HT

namespace L2
open PySem PySem.Spec PyProof.Rows

/-! ### the parts of a slice -/
abbrev TO := St → Hp → (Option Int → Hp → Prop) → Prop
/-- a slice's part (left out, or an int) -/
def PO (X : Cx) (e : Option Expr) (t : TO) : Prop :=
  ∀ (pins : List (Addr × Obj)) (s : Shared) (σ : St) (H : Hp) (Q : Option Int → Hp → Prop), Inv X pins σ H s → t σ H Q →
    wpAny (model X.prog X.w) X.A (evalPart e X.env) (fun u s' => ∃ o H', Inv X pins σ H' s' ∧ IsPart u o ∧ Q o H') X.xe s
def tNoPart : TO := fun _ H Q => Q none H
def tPart (t : TE) : TO := fun σ H Q => t σ H fun x H1 => ∃ i, x = .int i ∧ Q (some i) H1

theorem intsAre_of {ns : List Int} : ∀ {us : List Value}, Vals (ns.map V.int) us → IntsAre us ns := by
  induction ns with
  | nil => intro us r; rw [List.map_nil] at r; cases r; exact .nil
  | cons n ns ih =>
    intro us r
    rw [List.map_cons] at r
    cases r with
    | cons r1 r2 =>
      obtain ⟨t, e⟩ := r1
      subst e
      exact .cons n t (ih r2)

section
variable {X : Cx} {e : Expr} {te : TE} {lo hi : Option Expr} {tl th : TO} {pos p2 : Pos}

theorem po_none : PO X none tNoPart := by
  intro pins s σ H Q I h
  rw [evalPart_none]
  exact wpAny_pure ⟨none, H, I, .none, h⟩
theorem po_some (h : PE X e te) : PO X (some e) (tPart te) := by
  intro pins s σ H Q I hw
  rw [evalPart_some]
  refine thn (h pins s σ H _ I hw) fun u s1 ⟨x, H1, I1, r1, q1⟩ => ?_
  obtain ⟨i, rfl, q⟩ := q1
  obtain ⟨t, rfl⟩ := r1
  exact ⟨some i, H1, I1, .int i t, q⟩

/-- what a slice of a value is, by values: the slice object stands at sl -/
def SlR (X : Cx) (r : V → Option Int → Option Int → Hp → VK → Prop) : Prop :=
  ∀ (pins : List (Addr × Obj)) (s : Shared) (σ : St) (H : Hp) (x : V) (v vl vu : Value) (lo hi : Option Int) (sl : Addr) (Q : VK), Inv X pins σ H s → RelV x v → s.heap.IsSliceOf sl vl vu .none → IsPart vl lo → IsPart vu hi → r x lo hi H Q →
    ∃ T id, typeLookup (.type T) "__getitem__" = pure (some (.builtin id)) ∧ s.TypeIs v T ∧ wpAny (model X.prog X.w) X.A (getItem v (.ref sl)) (EP X pins σ Q) X.xe s
theorem SlR.or {r r' : V → Option Int → Option Int → Hp → VK → Prop} (h : SlR X r) (h' : SlR X r') : SlR X (fun x lo hi H Q => r x lo hi H Q ∨ r' x lo hi H Q) := by
  intro pins s σ H x v vl vu lo hi sl Q I rx hs pl pu q
  rcases q with q | q
  · exact h pins s σ H x v vl vu lo hi sl Q I rx hs pl pu q
  · exact h' pins s σ H x v vl vu lo hi sl Q I rx hs pl pu q
def tSl (r : V → Option Int → Option Int → Hp → VK → Prop) (te : TE) (tl th : TO) : TE := fun σ H Q => te σ H fun x H1 => tl σ H1 fun l H2 => th σ H2 fun u H3 => r x l u H3 Q
/-- a[lo:hi], any a -/
theorem pe_slice {r : V → Option Int → Option Int → Hp → VK → Prop} (hr : SlR X r) (he : PE X e te) (hl : PO X lo tl) (hu : PO X hi th) : PE X (.Subscript e (.Slice lo hi none p2) pos) (tSl r te tl th) := by
  intro pins s σ H Q I h
  refine Subscript_ (thn (he pins s σ H _ I h) fun v s1 ⟨x, H1, I1, r1, q1⟩ => ?_)
  refine wpAny_Slice (thn (hl pins s1 σ H1 _ I1 q1) fun vl s2 ⟨l, H2, I2, pl, q2⟩ => thn (hu pins s2 σ H2 _ I2 q2) fun vu s3 ⟨u, H3, I3, pu, q3⟩ => ?_)
  rw [evalPart_none]
  refine wpAny_pure ?_
  have I4 : Inv X pins σ H3 { s3 with heap := s3.heap.push { cls := .type "slice", data := .fields #[vl, vu, .none] } } := I3.kept (t' := s3.toks) fun b ob q => Heap.get?_push_of_some _ q
  obtain ⟨T, id, hT, ht, hg⟩ := hr pins { s3 with heap := s3.heap.push { cls := .type "slice", data := .fields #[vl, vu, .none] } } σ H3 x v vl vu l u s3.heap.objs.size Q I4 r1 (Heap.IsSliceOf.new ..) pl pu q3
  show wpAny (model X.prog X.w) X.A (subscriptTail e (.Slice lo hi none p2) v (.ref s3.heap.objs.size)) (EP X pins σ Q) X.xe { s3 with heap := s3.heap.push { cls := .type "slice", data := .fields #[vl, vu, .none] } }
  exact tail_any (ops := [.ref s3.heap.objs.size, v]) ht hT hg (by with_unfolding_all rfl)

/-- the items of xs[lo:hi] -/
def cutV (xs : List V) (lo hi : Option Int) : List V := (xs.drop (HT.sIx xs.length 0 lo)).take (HT.sIx xs.length xs.length hi - HT.sIx xs.length 0 lo)
theorem cutV_length (xs : List V) (lo hi : Option Int) : (cutV xs lo hi).length ≤ xs.length := by
  unfold cutV
  rw [List.length_take, List.length_drop]
  omega
/-- t[lo:hi], not the whole of it (the whole would be t itself) -/
def rSlT (K : PySem.W.Frag) : V → Option Int → Option Int → Hp → VK → Prop := fun x lo hi H Q => ∃ a xs, x = .ref a ∧ SqT K H a xs ∧
  ¬ (HT.sIx xs.length 0 lo = 0 ∧ HT.sIx xs.length xs.length hi = xs.length) ∧ ∀ p, H p = none → Q (.ref p) (upd H p (.tup (cutV xs lo hi)))
theorem sl_tup : SlR X (rSlT X.K) := by
  intro pins s σ H x v vl vu lo hi sl Q I rx hs pl pu h
  obtain ⟨a, xs, rfl, hx, hw, q⟩ := h
  cases rx
  obtain ⟨its, r, ht, hz⟩ := I.tuple hx
  have hlen : its.toArray.size = xs.length := by rw [List.size_toArray]; exact r.length.symm
  refine ⟨"tuple", _, PyProof.Rows.slot_tuple_getitem.lookup, ht.typeIs, ?_⟩
  refine HT.getItem_tuple_cut ht hs pl pu (by rw [hlen]; exact hw) ?_ (by rw [hlen]; exact hz)
  rw [hlen]
  refine ⟨.ref s.heap.objs.size, _, I.laid (t' := s.toks) (o := .tup (cutV xs lo hi)) (fun b ob q => Heap.get?_push_of_some _ q) (Nat.le_refl _) ?_, rfl, q _ (I.hok.fresh (Nat.le_refl _))⟩
  exact ⟨Nat.le_trans (cutV_length xs lo hi) hz, _, (r.drop (HT.sIx xs.length 0 lo)).take (HT.sIx xs.length xs.length hi - HT.sIx xs.length 0 lo), IsTup.new _ _⟩

/-! ### t < u, t + u -/
def rLtT (K : PySem.W.Frag) : R2 := fun x y H Q => ∃ a b ns ms, x = .ref a ∧ y = .ref b ∧ SqT K H a (ns.map V.int) ∧ SqT K H b (ms.map V.int) ∧ Q (.bl (HT.lexLt ns ms)) H
theorem op_ltT (hu : X.A.units < cLine) : OpR X (compareOp .Lt) (rLtT X.K) := by
  intro pins s σ H x y v u Q I rx ry h
  obtain ⟨a, b, ns, ms, rfl, rfl, ha, hb, q⟩ := h
  cases rx
  cases ry
  obtain ⟨its, r1, p1, _⟩ := I.tuple ha
  obtain ⟨its2, r2, p2, _⟩ := I.tuple hb
  have i1 : IntsAre its.toArray.toList ns := intsAre_of r1
  have i2 : IntsAre its2.toArray.toList ms := intsAre_of r2
  exact HT.lt_tupInts p1 p2 i1 i2 hu ⟨.bl (HT.lexLt ns ms), H, I, rfl, q⟩
/-- t + u, t not empty: u empty gives t itself -/
def rCatT (K : PySem.W.Frag) : R2 := fun x y H Q => ∃ a b xs ys, x = .ref a ∧ y = .ref b ∧ SqT K H a xs ∧ SqT K H b ys ∧ xs ≠ [] ∧ xs.length + ys.length ≤ sizeLine ∧
  (ys = [] → Q (.ref a) H) ∧ (ys ≠ [] → ∀ p, H p = none → Q (.ref p) (upd H p (.tup (xs ++ ys))))
theorem Vals.nil_iff {xs : List V} {us : List Value} (r : Vals xs us) : us = [] ↔ xs = [] := by
  cases r with
  | nil => simp
  | cons _ _ => simp
theorem op_catT : OpR X (binaryOp .Add) (rCatT X.K) := by
  intro pins s σ H x y v u Q I rx ry h
  obtain ⟨a, b, xs, ys, rfl, rfl, ha, hb, hx, hz, q1, q2⟩ := h
  cases rx
  cases ry
  obtain ⟨its, r1, p1, _⟩ := I.tuple ha
  obtain ⟨its2, r2, p2, _⟩ := I.tuple hb
  refine HT.cat_tup p1 p2 (fun z => hx (r1.nil_iff.mp z)) (fun z => ⟨.ref a, H, I, rfl, q1 (r2.nil_iff.mp z)⟩) (fun z => ?_) (by rw [← r1.length, ← r2.length]; exact hz)
  refine ⟨.ref s.heap.objs.size, _, I.laid (t' := s.toks) (o := .tup (xs ++ ys)) (fun b ob q => Heap.get?_push_of_some _ q) (Nat.le_refl _) ?_, rfl, q2 (fun w => z (r2.nil_iff.mpr w)) _ (I.hok.fresh (Nat.le_refl _))⟩
  exact ⟨by rw [List.length_append]; exact hz, _, r1.append r2, IsTup.new _ _⟩
/-- tuple(t) -/
theorem call_tupleT : CallR X (.type "tuple") (fun xs H Q => ∃ a ys, xs = [.ref a] ∧ SqT X.K H a ys ∧ Q (.ref a) H) := by
  intro pins s σ H xs us Q I r h
  obtain ⟨a, ys, rfl, ha, q⟩ := h
  obtain ⟨u, rfl, ru⟩ := vals1 r
  cases ru
  obtain ⟨its, _, p1, _⟩ := I.tuple ha
  exact call_tuple_same (items := its.toArray) p1 ⟨.ref a, H, I, rfl, q⟩
end
end L2

namespace L2
open PySem PySem.Spec PyProof.Rows

/-! ### places -/
/-- the place that an index of any sign means -/
def ixN (n : Nat) (i : Int) : Option Nat := if 0 ≤ i then (if i < n then some i.toNat else none) else if -(n : Int) ≤ i then some (i + n).toNat else none
def atI {α : Type} (xs : List α) (i : Int) : Option α := (ixN xs.length i).bind fun j => xs[j]?
theorem ixN_seq {n : Nat} {i : Int} {j : Nat} (h : ixN n i = some j) : seqIndex? i n = some j ∧ j < n ∧ -(n : Int) ≤ i ∧ i < n := by
  unfold ixN at h
  by_cases h0 : 0 ≤ i
  · rw [if_pos h0] at h
    by_cases h1 : i < n
    · rw [if_pos h1] at h
      have e : i.toNat = j := Option.some.inj h
      exact ⟨by rw [seqIndex_of h0 h1, e], by omega, by omega, h1⟩
    · rw [if_neg h1] at h; cases h
  · rw [if_neg h0] at h
    by_cases h1 : -(n : Int) ≤ i
    · rw [if_pos h1] at h
      have e : (i + n).toNat = j := Option.some.inj h
      exact ⟨by rw [seqIndex_neg (by omega) h1, e], by omega, h1, by omega⟩
    · rw [if_neg h1] at h; cases h
theorem atI_get {α : Type} {xs : List α} {i : Int} {v : α} (h : atI xs i = some v) : ∃ j, seqIndex? i xs.length = some j ∧ xs[j]? = some v ∧ j < xs.length ∧ -(xs.length : Int) ≤ i ∧ i < xs.length := by
  unfold atI at h
  cases e : ixN xs.length i with
  | none => rw [e] at h; cases h
  | some j =>
    rw [e] at h
    obtain ⟨h1, h2, h3, h4⟩ := ixN_seq e
    exact ⟨j, h1, h, h2, h3, h4⟩
theorem atI_nat {α : Type} {xs : List α} {j : Nat} {v : α} (h : xs[j]? = some v) : atI xs (j : Int) = some v := by
  have hj : j < xs.length := (List.getElem?_eq_some_iff.mp h).1
  have e : ixN xs.length (j : Int) = some j := by
    unfold ixN
    rw [if_pos (by omega), if_pos (by omega)]; simp
  unfold atI; rw [e]; exact h
theorem atI_last {α : Type} (xs : List α) (v : α) : atI (xs ++ [v]) (-1) = some v := by
  have hl : (xs ++ [v]).length = xs.length + 1 := by simp
  have e : ixN (xs ++ [v]).length (-1) = some xs.length := by
    unfold ixN
    rw [hl, if_neg (by decide), if_pos (by omega)]
    congr 1
    omega
  unfold atI
  rw [e]
  show (xs ++ [v])[xs.length]? = some v
  simp

/-! ### what may be subscripted -/
/-- what stands as an index of a plain subscript -/
def PlainIx (b : Expr) : Prop := ∀ o i, subscripted b false o i = operate [o, i] (getItem o i)
/-- a subscript by values -/
def IxR (X : Cx) (r : R2) : Prop :=
  ∀ (value slice : Expr) (pins : List (Addr × Obj)) (s : Shared) (σ : St) (H : Hp) (x y : V) (v u : Value) (Q : VK), Inv X pins σ H s → RelV x v → RelV y u → r x y H Q →
    subscripted slice false v u = operate [v, u] (getItem v u) → wpAny (model X.prog X.w) X.A (subscriptTail value slice v u) (EP X pins σ Q) X.xe s
/-- a call of a builtin's method by values: the receiver, the arguments -/
def MtR (X : Cx) (id : String) (r : V → List V → Hp → VK → Prop) : Prop :=
  ∀ (pins : List (Addr × Obj)) (s : Shared) (σ : St) (H : Hp) (x : V) (xs : List V) (v : Value) (us : List Value) (Q : VK), Inv X pins σ H s → RelV x v → Vals xs us → r x xs H Q →
    wpAny (model X.prog X.w) X.A (call (.builtin id) (v :: us)) (EP X pins σ Q) X.xe s
section
variable {X : Cx} {a b : Expr} {ta tb : TE} {pos : Pos}
theorem IxR.or {r r' : R2} (h : IxR X r) (h' : IxR X r') : IxR X (fun x y H Q => r x y H Q ∨ r' x y H Q) := by
  intro value slice pins s σ H x y v u Q I rx ry q hs
  rcases q with q | q
  · exact h value slice pins s σ H x y v u Q I rx ry q hs
  · exact h' value slice pins s σ H x y v u Q I rx ry q hs
theorem MtR.or {id : String} {r r' : V → List V → Hp → VK → Prop} (h : MtR X id r) (h' : MtR X id r') : MtR X id (fun x xs H Q => r x xs H Q ∨ r' x xs H Q) := by
  intro pins s σ H x xs v us Q I rx rs q
  rcases q with q | q
  · exact h pins s σ H x xs v us Q I rx rs q
  · exact h' pins s σ H x xs v us Q I rx rs q
/-- a[b] -/
theorem pe_ix {r : R2} (hr : IxR X r) (ha : PE X a ta) (hb : PE X b tb) (hs : PlainIx b) : PE X (.Subscript a b pos) (tOp r ta tb) := by
  intro pins s σ H Q I h
  exact Subscript_ (binT ha hb I h fun v u s2 x y H2 I2 rx ry q => hr a b pins s2 σ H2 x y v u Q I2 rx ry q (hs _ _))

def rIxL (K : PySem.W.Frag) : R2 := fun x y H Q => ∃ p xs i v, x = .ref p ∧ y = .int i ∧ SqL K H p xs ∧ atI xs i = some v ∧ Q v H
def rIxT (K : PySem.W.Frag) : R2 := fun x y H Q => ∃ p xs i v, x = .ref p ∧ y = .int i ∧ SqT K H p xs ∧ atI xs i = some v ∧ Q v H
def rIxS : R2 := fun x y H Q => ∃ z i c, x = .str z ∧ y = .int i ∧ z.length ≤ sizeLine ∧ atI z.cps.toList i = some c ∧ Q (.str ⟨#[c]⟩) H
theorem ix_list : IxR X (rIxL X.K) := by
  intro value slice pins s σ H x y v u Q I rx ry h hs
  obtain ⟨p, xs, i, z, rfl, rfl, hq, he, q⟩ := h
  cases rx
  obtain ⟨t, rfl⟩ := ry
  obtain ⟨its, r, pl, hz⟩ := I.list hq
  obtain ⟨j, h1, h2, h3, h4, h5⟩ := atI_get he
  obtain ⟨w, ew, rw'⟩ := r.get h2
  have hl := r.length
  have hn := line63
  have fin : EP X pins σ Q w s := ⟨z, H, I, rw', q⟩
  by_cases h0 : 0 ≤ i
  · have hj : i.toNat = j := by
      rw [seqIndex_of h0 h5] at h1
      exact Option.some.inj h1
    exact item_listR pl.isList h0 (by omega) (by rw [hj]; simpa using ew) fin hs
  · have hj : (i + (its.toArray.size : Int)).toNat = j := by
      rw [seqIndex_neg (by omega) h4] at h1
      rw [List.size_toArray, ← hl]
      exact Option.some.inj h1
    exact subscriptTail_builtinR (x := w) pl.isList.typeIs slot_list_getitem.lookup
      (wpAny_getItem_list_neg (Q := fun r s' => r = w ∧ EP X pins σ Q r s') pl.isList (by omega) (by rw [List.size_toArray] <;> omega) (by omega) (by rw [hj]; simpa using ew) ⟨rfl, fin⟩) hs
theorem ix_tup : IxR X (rIxT X.K) := by
  intro value slice pins s σ H x y v u Q I rx ry h hs
  obtain ⟨p, xs, i, z, rfl, rfl, hq, he, q⟩ := h
  cases rx
  obtain ⟨t, rfl⟩ := ry
  obtain ⟨its, r, pl, hz⟩ := I.tuple hq
  obtain ⟨j, h1, h2, h3, h4, h5⟩ := atI_get he
  obtain ⟨w, ew, rw'⟩ := r.get h2
  have hl := r.length
  have hn := line63
  have fin : EP X pins σ Q w s := ⟨z, H, I, rw', q⟩
  exact subscriptTail_builtinR (x := w) pl.typeIs slot_tuple_getitem.lookup
    (getItem_tuple (j := j) (Q := fun r s' => r = w ∧ EP X pins σ Q r s') pl (by omega) (by omega) (by rw [List.size_toArray, ← hl]; exact h1) (by simpa using ew) ⟨rfl, fin⟩) hs
theorem ix_str : IxR X rIxS := by
  intro value slice pins s σ H x y v u Q I rx ry h hs
  obtain ⟨z, i, c, rfl, rfl, hz, he, q⟩ := h
  obtain ⟨t, rfl⟩ := rx
  obtain ⟨t', rfl⟩ := ry
  obtain ⟨j, h1, h2, h3, h4, h5⟩ := atI_get he
  have hl : z.cps.toList.length = z.length := by simp [Str.length]
  rw [hl] at h1 h4 h5
  have hn := line63
  exact tail_any (typeIs_str s z t) slot_str_getitem.lookup (getItem_str (c := c) (by
    have e1 : decide (i < -(2 ^ 63 : Int)) = false := decide_eq_false (by omega)
    have e2 : decide (i ≥ 2 ^ 63) = false := decide_eq_false (by omega)
    rw [e1, e2, Bool.or_false]) (by rw [h1]; simpa using h2) ⟨.str ⟨#[c]⟩, H, I.tok _, ⟨_, rfl⟩, q⟩) hs
/-- list, tuple or str -/
def rIx (K : PySem.W.Frag) : R2 := fun x y H Q => rIxL K x y H Q ∨ rIxT K x y H Q ∨ rIxS x y H Q
theorem ix_seq : IxR X (rIx X.K) := ix_list.or (ix_tup.or ix_str)

/-! ### xs[i] = v, any sign -/
/-- the list's object behind a store -/
theorem mapSeq_set (its : List Value) (n j : Nat) (u : Value) : Obj.mapSeq (·.setIfInBounds j u) { cls := .type "list", data := .seq its.toArray n } = { cls := .type "list", data := .seq (its.set j u).toArray n } := by
  simp [Obj.mapSeq]
theorem Inv.lst {pins : List (Addr × Obj)} {σ : St} {H : Hp} {s : Shared} {p : Addr} {xs : List V} (I : Inv X pins σ H s) (h : H p = some (.lst xs)) :
    ∃ (its : List Value) (n : Nat), Vals xs its ∧ s.heap.get? p = some { cls := .type "list", data := .seq its.toArray n } ∧ xs.length ≤ sizeLine := by
  obtain ⟨z, its, n, r, e⟩ := I.hok p _ h
  exact ⟨its, n, r, e, z⟩
/-- the list at p is written by an update of its object -/
theorem Inv.lstUpd {pins : List (Addr × Obj)} {σ : St} {H : Hp} {s : Shared} {p : Addr} {xs ys : List V} {its its' : List Value} {n n' : Nat} {f : Obj → Obj} (I : Inv X pins σ H s) (h : H p = some (.lst xs))
    (ho : s.heap.get? p = some { cls := .type "list", data := .seq its.toArray n }) (hf : f { cls := .type "list", data := .seq its.toArray n } = { cls := .type "list", data := .seq its'.toArray n' }) (r : Vals ys its') (hz : ys.length ≤ sizeLine) (t : Nat) :
    Inv X pins σ (upd H p (.lst ys)) { s with heap := s.heap.update p f, toks := t } := by
  have e : (s.heap.update p f).get? p = some { cls := .type "list", data := .seq its'.toArray n' } := by
    rw [Heap.get?_update_self f ho (by rw [hf] <;> rfl), hf]
  refine I.write (x := p) (e := p) (by rw [h]; trivial) (.inl rfl) (fun b u hb q => (Heap.get?_update_other _ _ (Ne.symm hb)).trans q) ⟨_, e⟩ ?_
  exact ⟨hz, its', n', r, e⟩
def rSetL : V → V → V → Hp → (Hp → Prop) → Prop := fun o i v H Q => ∃ p xs k j, o = .ref p ∧ i = .int k ∧ H p = some (.lst xs) ∧ ixN xs.length k = some j ∧ Q (upd H p (.lst (xs.set j v)))
theorem set_list : PSet X rSetL := by
  intro pins s σ H o i v ov iv u Q I ro ri rv h
  obtain ⟨p, xs, k, j, rfl, rfl, hp, hj, q⟩ := h
  cases ro
  obtain ⟨t, rfl⟩ := ri
  obtain ⟨its, n, r, ho, hz⟩ := I.lst hp
  obtain ⟨h1, h2, h3, h4⟩ := ixN_seq hj
  have hl := r.length
  have hn := line63
  have I' : Inv X pins σ (upd H p (.lst (xs.set j v))) { s with heap := s.heap.update p (Obj.mapSeq (·.setIfInBounds j u)) } :=
    I.lstUpd hp ho (mapSeq_set its n j u) (r.set rv j) (by rw [List.length_set]; exact hz) s.toks
  by_cases h0 : 0 ≤ k
  · have hk : k.toNat = j := by
      rw [seqIndex_of h0 h4] at h1
      exact Option.some.inj h1
    exact PySem.W.ki_setAt ho h0 (by omega) (by rw [List.size_toArray, ← hl]; exact h4) (by rw [hk]; exact ⟨_, I', q⟩)
  · have hk : (k + (its.toArray.size : Int)).toNat = j := by
      rw [seqIndex_neg (by omega) h3] at h1
      rw [List.size_toArray, ← hl]
      exact Option.some.inj h1
    exact PySem.W.ki_setBack ho (by omega) (by rw [List.size_toArray, ← hl]; exact h3) (by omega) (by rw [hk]; exact ⟨_, I', q⟩)

/-! ### slices -/
theorem slice_bounds (lo hi : Option Int) (n : Nat) : (sliceBounds lo hi none n).1 = ((HT.sIx n 0 lo : Nat) : Int) ∧ (sliceBounds lo hi none n).2.1 = ((HT.sIx n n hi : Nat) : Int) ∧ (sliceBounds lo hi none n).2.2 = 1 := by
  refine ⟨?_, ?_, rfl⟩
  · cases lo with
    | none => simp [sliceBounds, HT.sIx]
    | some i =>
      simp only [sliceBounds, HT.sIx, Option.getD_none, show (1 : Int) > 0 by decide, if_true]
      by_cases h : i < 0
      · simp only [h, if_true] <;> omega
      · simp only [h, if_false] <;> omega
  · cases hi with
    | none => simp [sliceBounds, HT.sIx]
    | some i =>
      simp only [sliceBounds, HT.sIx, Option.getD_none, show (1 : Int) > 0 by decide, if_true]
      by_cases h : i < 0
      · simp only [h, if_true] <;> omega
      · simp only [h, if_false] <;> omega
theorem slicePick_cut (its : List Value) (lo hi : Option Int) : slicePick its.toArray lo hi none = ((its.drop (HT.sIx its.length 0 lo)).take (HT.sIx its.length its.length hi - HT.sIx its.length 0 lo)).toArray := by
  obtain ⟨h1, h2, h3⟩ := slice_bounds lo hi its.toArray.size
  unfold slicePick
  rw [h1, h2, h3]
  simp only [sliceRange_one, pick_run, List.size_toArray] <;> rfl
/-- xs[lo:hi] of a list: a new list -/
def rSlL (K : PySem.W.Frag) : V → Option Int → Option Int → Hp → VK → Prop := fun x lo hi H Q => ∃ a xs, x = .ref a ∧ SqL K H a xs ∧ ∀ p, H p = none → Q (.ref p) (upd H p (.lst (cutV xs lo hi)))
theorem sl_list : SlR X (rSlL X.K) := by
  intro pins s σ H x v vl vu lo hi sl Q I rx hs pl pu h
  obtain ⟨a, xs, rfl, hx, q⟩ := h
  cases rx
  obtain ⟨its, r, ht, hz⟩ := I.list hx
  have hlen := r.length
  refine ⟨"list", _, slot_list_getitem.lookup, ht.isList.typeIs, ?_⟩
  refine wpAny_getItem_list_slice ht.isList hs pl pu .none (by simp) ?_ (by rw [List.size_toArray] <;> omega)
  rw [slicePick_cut, ← hlen]
  refine ⟨.ref s.heap.objs.size, _, I.laid (t' := s.toks) (o := .lst (cutV xs lo hi)) (fun b ob q => Heap.get?_push_of_some _ q) (Nat.le_refl _) ?_, rfl, q _ (I.hok.fresh (Nat.le_refl _))⟩
  exact ⟨Nat.le_trans (cutV_length xs lo hi) hz, _, 0, (r.drop (HT.sIx xs.length 0 lo)).take (HT.sIx xs.length xs.length hi - HT.sIx xs.length 0 lo), Heap.get?_push_size _ rfl⟩

/-! ### in, not in: flat items -/
def flatV : V → Bool
  | .non => true
  | .bl _ => true
  | .int _ => true
  | .str _ => true
  | _ => false
/-- == of flat values -/
def eqV : V → V → Bool
  | .non, .non => true
  | .bl a, .bl b => a == b
  | .bl a, .int b => (if a then 1 else 0) == b
  | .int a, .bl b => a == (if b then 1 else 0)
  | .int a, .int b => a == b
  | .str a, .str b => a == b
  | _, _ => false
theorem eqAt_V {A : Around} {s : Shared} {y x : V} {u v : Value} (ry : RelV y u) (rx : RelV x v) (fy : flatV y = true) (fx : flatV x = true) : SeqAt.EqAt A s u v (eqV y x) := by
  cases y with
  | non =>
    cases ry
    cases x with
    | non => cases rx; exact SeqAt.EqAt.same _
    | bl b => cases rx; exact SeqAt.EqAt.none_bool b
    | int b => obtain ⟨t, rfl⟩ := rx; exact SeqAt.EqAt.none_int b t
    | str b => obtain ⟨t, rfl⟩ := rx; exact SeqAt.EqAt.none_str b t
    | _ => exact absurd (show false = true from fx) Bool.false_ne_true
  | bl a =>
    cases ry
    cases x with
    | non => cases rx; exact SeqAt.EqAt.bool_none a
    | bl b => cases rx; exact SeqAt.EqAt.bool_bool a b
    | int b => obtain ⟨t, rfl⟩ := rx; exact SeqAt.EqAt.bool_int a b t
    | str b => obtain ⟨t, rfl⟩ := rx; exact SeqAt.EqAt.bool_str a b t
    | _ => exact absurd (show false = true from fx) Bool.false_ne_true
  | int a =>
    obtain ⟨t', rfl⟩ := ry
    cases x with
    | non => cases rx; exact SeqAt.EqAt.int_none a t'
    | bl b => cases rx; exact SeqAt.EqAt.int_bool a t' b
    | int b => obtain ⟨t, rfl⟩ := rx; exact SeqAt.EqAt.int_int a t' b t
    | str b => obtain ⟨t, rfl⟩ := rx; exact SeqAt.EqAt.int_str a t' b t
    | _ => exact absurd (show false = true from fx) Bool.false_ne_true
  | str a =>
    obtain ⟨t', rfl⟩ := ry
    cases x with
    | non => cases rx; exact SeqAt.EqAt.str_none a t'
    | bl b => cases rx; exact SeqAt.EqAt.str_bool a t' b
    | int b => obtain ⟨t, rfl⟩ := rx; exact SeqAt.EqAt.str_int a t' b t
    | str b => obtain ⟨t, rfl⟩ := rx; exact SeqAt.EqAt.str_str a t' b t
    | _ => exact absurd (show false = true from fx) Bool.false_ne_true
  | _ => exact absurd (show false = true from fy) Bool.false_ne_true
/-- the items' answers, read off the values (a value's own answer does not lean on its token) -/
def eqU (x : V) (u : Value) : Bool := match u with
  | .none => eqV .non x
  | .bool b => eqV (.bl b) x
  | .int i _ => eqV (.int i) x
  | .str z _ => eqV (.str z) x
  | _ => false
theorem eqU_of {x y : V} {u : Value} (r : RelV y u) (f : flatV y = true) : eqU x u = eqV y x := by
  cases y with
  | non => cases r; rfl
  | bl b => cases r; rfl
  | int i => obtain ⟨t, rfl⟩ := r; rfl
  | str z => obtain ⟨t, rfl⟩ := r; rfl
  | _ => exact absurd (show false = true from f) Bool.false_ne_true
theorem any_eqU {x : V} : ∀ {xs : List V} {us : List Value}, Vals xs us → xs.all flatV = true → us.any (eqU x) = xs.any fun y => eqV y x
  | _, _, .nil, _ => rfl
  | y :: xs, u :: us, .cons r t, f => by
    rw [List.all_cons, Bool.and_eq_true] at f
    rw [List.any_cons, List.any_cons, eqU_of r f.1, any_eqU t f.2]
theorem mem_eqAt {A : Around} {s : Shared} {x : V} {v : Value} (rx : RelV x v) (fx : flatV x = true) : ∀ {xs : List V} {us : List Value}, Vals xs us → xs.all flatV = true → ∀ u ∈ us, SeqAt.EqAt A s u v (eqU x u)
  | _, _, .nil, _ => fun u hu => by cases hu
  | y :: xs, u :: us, .cons r t, f => fun u' hu => by
    rw [List.all_cons, Bool.and_eq_true] at f
    rcases List.mem_cons.mp hu with rfl | hu
    · rw [eqU_of r f.1]; exact eqAt_V r rx f.1 fx
    · exact mem_eqAt rx fx t f.2 u' hu
def inV (x : V) (xs : List V) : Bool := xs.any fun y => eqV y x
/-- x in a list or tuple of flat items -/
def rIn (K : PySem.W.Frag) (neg : Bool) : R2 := fun x y H Q => ∃ p xs, y = .ref p ∧ (SqL K H p xs ∨ SqT K H p xs) ∧ flatV x = true ∧ xs.all flatV = true ∧ Q (.bl (if neg then !inV x xs else inV x xs)) H
theorem op_in_seq : OpR X (compareOp .In) (rIn X.K false) := by
  intro pins s σ H x y v u Q I rx ry h
  obtain ⟨p, xs, rfl, hq, fx, fs, q⟩ := h
  cases ry
  rcases hq with hq | hq
  · obtain ⟨its, r, pl, hz⟩ := I.list hq
    refine SeqAt.in_listAt (eqU x) pl.isList (fun w hw => mem_eqAt rx fx r fs w (by simpa using hw)) ⟨.bl _, H, I, rfl, ?_⟩
    rw [show its.toArray.any (eqU x) = its.any (eqU x) by simp, any_eqU r fs]
    exact q
  · obtain ⟨its, r, pl, hz⟩ := I.tuple hq
    refine SeqAt.in_tupleAt (eqU x) pl (fun w hw => mem_eqAt rx fx r fs w (by simpa using hw)) ⟨.bl _, H, I, rfl, ?_⟩
    rw [show its.toArray.any (eqU x) = its.any (eqU x) by simp, any_eqU r fs]
    exact q
theorem op_notIn_seq : OpR X (compareOp .NotIn) (rIn X.K true) := by
  intro pins s σ H x y v u Q I rx ry h
  obtain ⟨p, xs, rfl, hq, fx, fs, q⟩ := h
  cases ry
  rcases hq with hq | hq
  · obtain ⟨its, r, pl, hz⟩ := I.list hq
    refine SeqAt.notIn_listAt (eqU x) pl.isList (fun w hw => mem_eqAt rx fx r fs w (by simpa using hw)) ⟨.bl _, H, I, rfl, ?_⟩
    rw [show its.toArray.any (eqU x) = its.any (eqU x) by simp, any_eqU r fs]
    exact q
  · obtain ⟨its, r, pl, hz⟩ := I.tuple hq
    refine SeqAt.notIn_tupleAt (eqU x) pl (fun w hw => mem_eqAt rx fx r fs w (by simpa using hw)) ⟨.bl _, H, I, rfl, ?_⟩
    rw [show its.toArray.any (eqU x) = its.any (eqU x) by simp, any_eqU r fs]
    exact q
theorem op_notIn_str : OpR X (compareOp .NotIn) (fun x y H Q => ∃ i j, x = .str i ∧ y = .str j ∧ Q (.bl (!(!(Builtin.Str.occurrences j i 0 j.length 1).isEmpty))) H) := by
  intro pins s σ H x y v u Q I rx ry h
  obtain ⟨i, j, rfl, rfl, q⟩ := h
  obtain ⟨t, rfl⟩ := rx
  obtain ⟨t', rfl⟩ := ry
  exact notIn_str ⟨.bl _, H, I, rfl, q⟩

/-! ### len, list(x), tuple(x) of any list or tuple that is read -/
theorem call_len_seq : CallR X (.builtin "len") (fun xs H Q => ∃ p ys, xs = [.ref p] ∧ (SqL X.K H p ys ∨ SqT X.K H p ys) ∧ Q (.int ys.length) H) := by
  intro pins s σ H xs us Q I r h
  obtain ⟨p, ys, rfl, hq, q⟩ := h
  obtain ⟨u, rfl, rx⟩ := vals1 r
  cases rx
  have hn := line63
  rcases hq with hq | hq
  · obtain ⟨its, r', pl, hz⟩ := I.list hq
    have hlen := r'.length
    exact Calls.call_len_list pl.isList (by simp only [List.size_toArray] <;> omega) ⟨.int ys.length, H, I.tok _, ⟨s.toks + 1, by rw [List.size_toArray, hlen]⟩, q⟩
  · obtain ⟨its, r', pl, hz⟩ := I.tuple hq
    have hlen := r'.length
    exact len_tuple pl (by simp only [List.size_toArray] <;> omega) ⟨.int ys.length, H, I.tok _, ⟨s.toks + 1, by rw [List.size_toArray, hlen]⟩, q⟩
theorem call_len_str : CallR X (.builtin "len") (fun xs H Q => ∃ z, xs = [.str z] ∧ z.length ≤ sizeLine ∧ Q (.int z.length) H) := by
  intro pins s σ H xs us Q I r h
  obtain ⟨z, rfl, hz, q⟩ := h
  obtain ⟨u, rfl, t, rfl⟩ := vals1 r
  have hn := line63
  exact len_str (by omega) ⟨.int z.length, H, I.tok _, ⟨_, rfl⟩, q⟩
theorem CallR.or {f : Value} {r r' : List V → Hp → VK → Prop} (h : CallR X f r) (h' : CallR X f r') : CallR X f (fun xs H Q => r xs H Q ∨ r' xs H Q) := by
  intro pins s σ H xs us Q I rs q
  rcases q with q | q
  · exact h pins s σ H xs us Q I rs q
  · exact h' pins s σ H xs us Q I rs q
theorem call_list_of : CallR X (.type "list") (fun xs H Q => ∃ p ys, xs = [.ref p] ∧ (SqL X.K H p ys ∨ SqT X.K H p ys) ∧ ∀ l, H l = none → Q (.ref l) (upd H l (.lst ys))) := by
  intro pins s σ H xs us Q I r h
  obtain ⟨p, ys, rfl, hq, q⟩ := h
  obtain ⟨u, rfl, rx⟩ := vals1 r
  cases rx
  have fin : ∀ (its : List Value), Vals ys its → ys.length ≤ sizeLine → ∀ (h' : Heap) (c' : Nat), (∀ b o', s.heap.get? b = some o' → h'.get? b = some o') →
      h'.get? s.heap.objs.size = some { cls := .type "list", dict := none, data := .seq its.toArray c', slots := #[] } → EP X pins σ Q (.ref s.heap.objs.size) { s with heap := h' } := fun its r' hz h' c' kp e =>
    ⟨.ref s.heap.objs.size, _, I.laid (t' := s.toks) kp (Nat.le_refl _) (show ObjOk X.prog X.w _ h' _ (.lst ys) from ⟨hz, its, c', r', e⟩), rfl, q _ (I.hok.fresh (Nat.le_refl _))⟩
  rcases hq with hq | hq
  · obtain ⟨its, r', pl, hz⟩ := I.list hq
    have hlen := r'.length
    obtain ⟨o, ho, hc, n, hd⟩ := pl.isList
    exact call_list_seq p (.inl rfl) ho hc hd (fun h' c' kp e => fin its r' hz h' c' kp e) (by simp only [List.size_toArray] <;> omega)
  · obtain ⟨its, r', pl, hz⟩ := I.tuple hq
    have hlen := r'.length
    obtain ⟨o, ho, hc, n, hd⟩ := pl
    exact call_list_seq p (.inr rfl) ho hc hd (fun h' c' kp e => fin its r' hz h' c' kp e) (by simp only [List.size_toArray] <;> omega)
theorem call_tuple_of : CallR X (.type "tuple") (fun xs H Q => ∃ p ys, xs = [.ref p] ∧ ((SqL X.K H p ys ∧ ∀ l, H l = none → Q (.ref l) (upd H l (.tup ys))) ∨ (SqT X.K H p ys ∧ Q (.ref p) H))) := by
  intro pins s σ H xs us Q I r h
  obtain ⟨p, ys, rfl, h⟩ := h
  obtain ⟨u, rfl, rx⟩ := vals1 r
  cases rx
  rcases h with ⟨hq, q⟩ | ⟨hq, q⟩
  · obtain ⟨its, r', pl, hz⟩ := I.list hq
    have hlen := r'.length
    refine call_tuple_list pl.isList (fun h' kp => ?_) (by simp only [List.size_toArray] <;> omega)
    have I1 : Inv X pins σ H { s with heap := h' } := I.kept (t' := s.toks) kp
    have I2 : Inv X pins σ (upd H h'.objs.size (.tup ys)) { s with heap := h'.push { cls := .type "tuple", data := .seq its.toArray } } :=
      I1.laid (t' := s.toks) (fun b o e => Heap.get?_push_of_some _ e) (Nat.le_refl _) (show ObjOk X.prog X.w _ _ _ (.tup ys) from ⟨hz, its, r', IsTup.new _ _⟩)
    exact ⟨.ref h'.objs.size, _, I2, rfl, q _ (I1.hok.fresh (Nat.le_refl _))⟩
  · obtain ⟨its, r', pl, hz⟩ := I.tuple hq
    exact call_tuple_same pl ⟨.ref p, H, I, rfl, q⟩

/-! ### the call of a builtin's method: o.m(..) -/
/-- the value is of that builtin type -/
def tyV (K : PySem.W.Frag) (T : String) (x : V) (H : Hp) : Prop := match x with
  | .str _ => T = "str"
  | .int _ => T = "int"
  | .ref p => (T = "list" ∧ ∃ xs, SqL K H p xs) ∨ (T = "tuple" ∧ ∃ o, K.lookup p = some o ∧ o.cls = .type "tuple" ∧ o.dict = none) ∨
      (T = "dict" ∧ ((∃ kvs, H p = some (.dK kvs)) ∨ ∃ kvs, H p = some (.dT kvs))) ∨ (T = "set" ∧ ∃ S n, H p = some (.set S n))
  | _ => False
theorem tyV_is {pins : List (Addr × Obj)} {σ : St} {H : Hp} {s : Shared} {T : String} {x : V} {v : Value} (I : Inv X pins σ H s) (r : RelV x v) (ty : tyV X.K T x H) :
    s.TypeIs v T ∧ ∀ a, v = .ref a → ∃ ob, s.heap.get? a = some ob ∧ ob.dict = none := by
  cases x with
  | str z =>
    obtain ⟨t, rfl⟩ := r
    cases (show T = "str" from ty)
    exact ⟨typeIs_str s z t, fun _ e => nomatch e⟩
  | int i =>
    obtain ⟨t, rfl⟩ := r
    cases (show T = "int" from ty)
    exact ⟨typeIs_int s i t, fun _ e => nomatch e⟩
  | ref p =>
    cases r
    rcases ty with ⟨rfl, xs, hq⟩ | ⟨rfl, o, hk, hc, hd⟩ | ⟨rfl, hk⟩ | ⟨rfl, S, n, hk⟩
    · obtain ⟨its, _, pl, _⟩ := I.list hq
      refine ⟨pl.isList.typeIs, fun a e => ?_⟩
      cases e
      obtain ⟨o, n, e, c, hd, _⟩ := pl
      exact ⟨o, e, hd⟩
    · refine ⟨⟨o, I.kIn p o hk, hc⟩, fun a e => ?_⟩
      cases e
      exact ⟨o, I.kIn _ o hk, hd⟩
    · have z : ∃ o, s.heap.get? p = some o ∧ o.ExactDict := by
        rcases hk with ⟨kvs, hk⟩ | ⟨kvs, hk⟩
        · obtain ⟨_, _, _, _, o, _, _, e, ex, _⟩ := I.hok p _ hk
          exact ⟨o, e, ex⟩
        · obtain ⟨_, _, _, _, o, _, _, e, ex, _⟩ := I.hok p _ hk
          exact ⟨o, e, ex⟩
      obtain ⟨o, e, ex⟩ := z
      refine ⟨⟨o, e, ex.1⟩, fun a e2 => ?_⟩
      cases e2
      exact ⟨o, e, ex.2.1⟩
    · obtain ⟨o, _, _, _, e, ex, _⟩ := I.hok p _ hk
      refine ⟨⟨o, e, ex.1⟩, fun a e2 => ?_⟩
      cases e2
      exact ⟨o, e, ex.2.1⟩
  | _ => exact False.elim ty
def tBM0 (K : PySem.W.Frag) (T : String) (r : V → List V → Hp → VK → Prop) (to : TE) : TE := fun σ H Q => to σ H fun x H1 => tyV K T x H1 ∧ r x [] H1 Q
def tBM (K : PySem.W.Frag) (T : String) (r : V → List V → Hp → VK → Prop) (to : TE) (t : TA) : TE := fun σ H Q => to σ H fun x H1 => tyV K T x H1 ∧ t σ H1 fun xs H2 => r x xs H2 Q
variable {o e : Expr} {es : List Expr} {to : TE} {t : TA} {name : Str} {apos cpos : Pos} {T id : String} {r : V → List V → Hp → VK → Prop}
theorem pe_bm0 (pa : PlainAttrs T) (slot : Slot T name id) (hty : typeOf (.builtin id) = pure (.type "method_descriptor")) (hm : MtR X id r) (ho : PE X o to)
    (hbase : attributeBase o name X.env (eval o X.env) = eval o X.env := by rfl) (hline : (apos.endLine == cpos.line) = true := by rfl) : PE X (.Call (.Attribute o name apos) [] [] cpos) (tBM0 X.K T r to) := by
  intro pins s σ H Q I h
  refine wpAny_Call_method0_late hbase hline (thn (ho pins s σ H _ I h) fun v s1 ⟨x, H1, I1, r1, ty, q1⟩ => ?_)
  obtain ⟨h1, h2⟩ := tyV_is I1 r1 ty
  exact ⟨T, id, pa, slot, hty, h1, h2, Calls.callWith_builtin rfl (PySem.evalArgs_none (hm pins s1 σ H1 x [] v [] Q I1 r1 .nil q1))⟩
theorem pe_bm (pa : PlainAttrs T) (slot : Slot T name id) (hty : typeOf (.builtin id) = pure (.type "method_descriptor")) (hm : MtR X id r) (ho : PE X o to) (ha : PA X (e :: es) t)
    (hbase : attributeBase o name X.env (eval o X.env) = eval o X.env := by rfl)
    (hfew : ((backTo cpos (starEach (e :: es) X.env)).all (fun x => !x.1) && (backToKw cpos (keywordEach [] X.env)).all (fun x => x.1.isSome)
      && decide ((e :: es).length + ([] : List Keyword).length + (if ([] : List Keyword).isEmpty then 0 else 1) < 30)) = true := by rfl)
    (hline : (apos.endLine == cpos.line) = true := by rfl) (hs : starEach (e :: es) X.env = (false, eval e X.env) :: starEach es X.env := by rfl) (hplain : (backTo cpos (starEach es X.env)).any (·.1) = false := by rfl) :
    PE X (.Call (.Attribute o name apos) (e :: es) [] cpos) (tBM X.K T r to t) := by
  intro pins s σ H Q I h
  refine wpAny_Call_method_late hbase hfew hline rfl (thn (ho pins s σ H _ I h) fun v s1 ⟨x, H1, I1, r1, ty, q1⟩ => ?_)
  obtain ⟨h1, h2⟩ := tyV_is I1 r1 ty
  refine ⟨T, id, pa, slot, hty, h1, h2, ?_⟩
  have hA := ha cpos pins s1 σ H1 _ I1 q1
  rw [hs] at hA ⊢
  refine Calls.callWith_builtin (by show (false || (backTo cpos (starEach es X.env)).any (·.1)) = false; rw [hplain] <;> rfl) (Calls.evalArgs_plain ?_)
  exact thn hA fun us s2 ⟨vs, H2, I2, r2, q2⟩ => hm pins s2 σ H2 x vs v us Q I2 r1 r2 q2
/- xs.append(e), list.index on a module's tuple .. are MtR facts of 06m -/
end
end L2

namespace L2
open PySem PySem.Spec PyProof.Rows

def MtM (X : Cx) (id : String) (r : V → List V → Hp → VK → Prop) : Prop :=
  ∀ (pins : List (Addr × Obj)) (s : Shared) (σ : St) (H : Hp) (x : V) (xs : List V) (v : Value) (us : List Value) (Q : VK), Inv X pins σ H s → RelV x v → Vals xs us → r x xs H Q →
    wpAny (model X.prog X.w) X.A (call (.builtin id) (v :: us)) (EP X pins σ Q) X.xe s

/-! ### lists of values -/
theorem Vals.one : ∀ {x : V} {us : List Value}, Vals [x] us → ∃ u, us = [u] ∧ RelV x u
  | _, _, .cons r .nil => ⟨_, rfl, r⟩
theorem Vals.two : ∀ {x y : V} {us : List Value}, Vals [x, y] us → ∃ u v, us = [u, v] ∧ RelV x u ∧ RelV y v
  | _, _, _, .cons r (.cons q .nil) => ⟨_, _, rfl, r, q⟩
theorem Vals.zero : ∀ {us : List Value}, Vals [] us → us = []
  | _, .nil => rfl
theorem Vals.dropLast {xs : List V} {us : List Value} (h : Vals xs us) : Vals xs.dropLast us.dropLast := by
  induction h with
  | nil => exact .nil
  | cons r t ih =>
    cases t with
    | nil => exact .nil
    | cons q t' => exact .cons r ih
theorem Vals.eraseIdx : ∀ {xs : List V} {us : List Value} (i : Nat), Vals xs us → Vals (xs.eraseIdx i) (us.eraseIdx i)
  | _, _, _, .nil => .nil
  | _, _, 0, .cons _ t => t
  | _, _, i + 1, .cons r t => .cons r (Vals.eraseIdx i t)
theorem Vals.reverse {xs : List V} {us : List Value} (h : Vals xs us) : Vals xs.reverse us.reverse := by
  induction h with
  | nil => exact .nil
  | cons r t ih => rw [List.reverse_cons, List.reverse_cons]; exact Vals.append ih (.cons r .nil)
theorem Vals.rep {xs : List V} {us : List Value} (h : Vals xs us) : ∀ k : Nat, Vals (List.replicate k xs).flatten (List.replicate k us).flatten
  | 0 => .nil
  | k + 1 => by
    rw [List.replicate_succ, List.replicate_succ, List.flatten_cons, List.flatten_cons]
    exact Vals.append h (Vals.rep h k)
theorem erase_last {α : Type} (l : List α) : l.eraseIdx (l.length - 1) = l.dropLast := by
  induction l with
  | nil => rfl
  | cons a r ih =>
    cases r with
    | nil => rfl
    | cons b r =>
      have e : (a :: b :: r).length - 1 = ((b :: r).length - 1) + 1 := by
        have h1 : (a :: b :: r).length = r.length + 2 := rfl
        have h2 : (b :: r).length = r.length + 1 := rfl
        omega
      rw [e, List.eraseIdx_cons_succ, ih]
      all_goals rfl
theorem len_erase {α : Type} : ∀ (l : List α) (i : Nat), (l.eraseIdx i).length ≤ l.length
  | [], _ => Nat.le_refl _
  | _ :: _, 0 => Nat.le_succ _
  | _ :: r, i + 1 => Nat.succ_le_succ (len_erase r i)
theorem foldl_rep (its : List Value) : ∀ (k : Nat) (acc : List Value),
    List.foldl (fun x1 x2 => x1 ++ x2) acc.toArray (List.replicate k its.toArray) = (acc ++ (List.replicate k its).flatten).toArray
  | 0, acc => by simp
  | k + 1, acc => by
    have e : acc.toArray ++ its.toArray = (acc ++ its).toArray := by simp
    have e2 : (acc ++ its) ++ (List.replicate k its).flatten = acc ++ (List.replicate (k + 1) its).flatten := by
      rw [List.replicate_succ, List.flatten_cons, List.append_assoc]
    rw [← e2, ← foldl_rep its k (acc ++ its), ← e, List.replicate_succ, List.foldl_cons]

section
variable {X : Cx} {pins : List (Addr × Obj)} {σ : St} {H : Hp} {s : Shared} {l b : Addr} {xs ys zs : List V}

/-! ### the two steps: a tracked list is rewritten, a new list is laid -/
theorem Inv.lset {its its' : List Value} {n : Nat} {f : Array Value → Array Value} {t' : Nat} (I : Inv X pins σ H s) (hH : H l = some (.lst xs))
    (e : s.heap.get? l = some { cls := .type "list", data := .seq its.toArray n }) (hf : f its.toArray = its'.toArray) (hv : Vals ys its') (hz : ys.length ≤ sizeLine) :
    Inv X pins σ (upd H l (.lst ys)) { s with heap := s.heap.update l (Obj.mapSeq f), toks := t' } := by
  have q := PySem.IsL.update e f
  rw [hf] at q
  refine I.write (x := l) (e := l) (by rw [hH]; exact trivial) (.inl rfl) (fun b' u hb hu => (Heap.get?_update_other s.heap (Obj.mapSeq f) (Ne.symm hb)).trans hu) ⟨_, q⟩ ?_
  exact ⟨hz, its', _, hv, q⟩
theorem Inv.lnew {its : List Value} {t' : Nat} (I : Inv X pins σ H s) (hv : Vals ys its) (hz : ys.length ≤ sizeLine) :
    Inv X pins σ (upd H s.heap.objs.size (.lst ys)) { s with heap := s.heap.push { cls := .type "list", data := .seq its.toArray }, toks := t' } :=
  I.laid (fun _ _ q => Heap.get?_push_of_some _ q) (Nat.le_refl _) ⟨hz, its, 0, hv, Heap.get?_push_size _ rfl⟩
theorem Inv.fresh (I : Inv X pins σ H s) : H s.heap.objs.size = none := I.hok.fresh (Nat.le_refl _)
theorem Inv.lstM (I : Inv X pins σ H s) (hH : H l = some (.lst xs)) : xs.length ≤ sizeLine ∧ ∃ (its : List Value) (n : Nat), Vals xs its ∧ xs.length = its.length ∧ s.heap.get? l = some { cls := .type "list", data := .seq its.toArray n } := by
  obtain ⟨z, its, n, r, e⟩ := I.hok l _ hH
  exact ⟨z, its, n, r, r.length, e⟩

theorem notLongL {n : Nat} (h : n ≤ sizeLine) : Builtin.List.listTooLong n = false := by
  unfold Builtin.List.listTooLong
  exact decide_eq_false (by omega)
end

section
variable {X : Cx}

/-! ### methods -/
def rAppend : V → List V → Hp → VK → Prop := fun x vs H Q => ∃ l xs y, x = .ref l ∧ vs = [y] ∧ H l = some (.lst xs) ∧ xs.length < sizeLine ∧ Q .non (upd H l (.lst (xs ++ [y])))
theorem mt_append : MtM X "list.append" rAppend := by
  intro pins s σ H x vs v us Q I rx rv h
  obtain ⟨l, xs, y, rfl, rfl, hH, hz, q⟩ := h
  cases rx
  obtain ⟨u, rfl, ru⟩ := rv.one
  obtain ⟨z, its, n, r, hl, e⟩ := I.lstM hH
  refine call_meets F.slot_list_append ⟨_, e, rfl⟩ F.entry_list_append (F.args_list_append_2 _ _) (PySem.list_append l its.toArray n u (by rw [List.size_toArray]; omega)) ⟨e, ?_⟩
  refine ⟨.non, _, I.lset (its' := its ++ [u]) hH e (by simp) (r.append (.cons ru .nil)) ?_, rfl, q⟩
  rw [List.length_append, List.length_singleton]
  omega

def rExtend : V → List V → Hp → VK → Prop := fun x vs H Q => ∃ l b xs zs, x = .ref l ∧ vs = [.ref b] ∧ H l = some (.lst xs) ∧ H b = some (.lst zs) ∧ xs.length + zs.length ≤ sizeLine ∧ Q .non (upd H l (.lst (xs ++ zs)))
theorem mt_extend : MtM X "list.extend" rExtend := by
  intro pins s σ H x vs v us Q I rx rv h
  obtain ⟨l, b, xs, zs, rfl, rfl, hH, hB, hz, q⟩ := h
  cases rx
  obtain ⟨u, rfl, ru⟩ := rv.one
  cases ru
  obtain ⟨z, its, n, r, hl, e⟩ := I.lstM hH
  obtain ⟨z2, its2, n2, r2, hl2, e2⟩ := I.lstM hB
  have hsz : its.toArray.size + its2.toArray.size ≤ sizeLine := by rw [List.size_toArray, List.size_toArray]; omega
  have hlong : ¬ (!its.toArray.isEmpty && Builtin.List.listTooLong (its.toArray.size + its2.toArray.size)) = true := by
    rw [notLongL hsz, Bool.and_false]
    exact Bool.false_ne_true
  refine call_meets F.slot_list_extend ⟨_, e, rfl⟩ F.entry_list_extend (F.args_list_extend_2 _ _)
    (AutoSeq1.list_extend_list_list_0 l its.toArray n b its2.toArray n2 hlong (by rw [List.size_toArray]; omega) (by omega)) ⟨e, e2, ?_⟩
  refine ⟨.non, _, I.lset (its' := its ++ its2) hH e (by simp) (r.append r2) ?_, rfl, q⟩
  rw [List.length_append]
  omega

def rPop : V → List V → Hp → VK → Prop := fun x vs H Q => ∃ l xs y, x = .ref l ∧ vs = [] ∧ H l = some (.lst xs) ∧ xs[xs.length - 1]? = some y ∧ Q y (upd H l (.lst xs.dropLast))
theorem mt_pop : MtM X "list.pop" rPop := by
  intro pins s σ H x vs v us Q I rx rv h
  obtain ⟨l, xs, y, rfl, rfl, hH, hy, q⟩ := h
  cases rx
  have hus := rv.zero
  subst hus
  obtain ⟨z, its, n, r, hl, e⟩ := I.lstM hH
  obtain ⟨u, hu, ru⟩ := r.get hy
  have hy' : its.toArray[its.toArray.size - 1]? = some u := by
    show its.toArray[its.length - 1]? = some u
    rw [← Array.getElem?_toList, ← hl]
    exact hu
  refine call_meets F.slot_list_pop ⟨_, e, rfl⟩ F.entry_list_pop (F.args_list_pop_1 _) (MeetsSeq.list_pop_last l its.toArray n u hy' (by rw [List.size_toArray]; omega)) ⟨e, ?_⟩
  refine ⟨y, _, I.lset (its' := its.dropLast) hH e ?_ r.dropLast ?_, ru, q⟩
  · show its.toArray.eraseIdxIfInBounds (its.toArray.size - 1) = its.dropLast.toArray
    rw [List.size_toArray, List.eraseIdxIfInBounds_toArray, erase_last]
  · rw [List.length_dropLast]
    omega

def rPopAt : V → List V → Hp → VK → Prop := fun x vs H Q => ∃ l xs i k y, x = .ref l ∧ vs = [.int i] ∧ H l = some (.lst xs) ∧ -(2 ^ 63) ≤ i ∧ i < 2 ^ 63 ∧ seqIndex? i xs.length = some k ∧ xs[k]? = some y ∧ Q y (upd H l (.lst (xs.eraseIdx k)))
theorem mt_popAt : MtM X "list.pop" rPopAt := by
  intro pins s σ H x vs v us Q I rx rv h
  obtain ⟨l, xs, i, k, y, rfl, rfl, hH, h1, h2, hk, hy, q⟩ := h
  cases rx
  obtain ⟨u, rfl, ru⟩ := rv.one
  obtain ⟨t, rfl⟩ := ru
  obtain ⟨z, its, n, r, hl, e⟩ := I.lstM hH
  obtain ⟨w, hw, rw'⟩ := r.get hy
  refine call_meets F.slot_list_pop ⟨_, e, rfl⟩ F.entry_list_pop (F.args_list_pop_2 _ _)
    (MeetsSeq.list_pop_at l its.toArray n i t k w (fitsIndex_both h1 h2) (by rw [List.size_toArray, ← hl]; exact hk) (by rw [← Array.getElem?_toList]; exact hw) (by rw [List.size_toArray]; omega)) ⟨e, ?_⟩
  refine ⟨y, _, I.lset (its' := its.eraseIdx k) hH e ?_ (r.eraseIdx k) ?_, rw', q⟩
  · show its.toArray.eraseIdxIfInBounds k = (its.eraseIdx k).toArray
    rw [List.eraseIdxIfInBounds_toArray]
  · have := len_erase xs k
    omega

def rReverse : V → List V → Hp → VK → Prop := fun x vs H Q => ∃ l xs, x = .ref l ∧ vs = [] ∧ H l = some (.lst xs) ∧ Q .non (upd H l (.lst xs.reverse))
theorem mt_reverse : MtM X "list.reverse" rReverse := by
  intro pins s σ H x vs v us Q I rx rv h
  obtain ⟨l, xs, rfl, rfl, hH, q⟩ := h
  cases rx
  have hus := rv.zero
  subst hus
  obtain ⟨z, its, n, r, hl, e⟩ := I.lstM hH
  refine call_meets F.slot_list_reverse ⟨_, e, rfl⟩ F.entry_list_reverse (F.args_list_reverse_1 _) (AutoSeq1.list_reverse_list_0 l its.toArray n (by rw [List.size_toArray]; omega)) ⟨e, ?_⟩
  refine ⟨.non, _, I.lset (its' := its.reverse) hH e (by simp) r.reverse ?_, rfl, q⟩
  rw [List.length_reverse]
  omega

def rClear : V → List V → Hp → VK → Prop := fun x vs H Q => ∃ l xs, x = .ref l ∧ vs = [] ∧ H l = some (.lst xs) ∧ Q .non (upd H l (.lst []))
theorem mt_clear : MtM X "list.clear" rClear := by
  intro pins s σ H x vs v us Q I rx rv h
  obtain ⟨l, xs, rfl, rfl, hH, q⟩ := h
  cases rx
  have hus := rv.zero
  subst hus
  obtain ⟨z, its, n, r, hl, e⟩ := I.lstM hH
  refine call_meets F.slot_list_clear ⟨_, e, rfl⟩ F.entry_list_clear (F.args_list_clear_1 _) (AutoSeq1.list_clear_list_0 l its.toArray n (by rw [List.size_toArray]; omega)) ⟨e, ?_⟩
  exact ⟨.non, _, I.lset (its' := []) (ys := []) hH e rfl .nil (Nat.zero_le _), rfl, q⟩

/-! ### list + list, list += list, list * int -/
def rCat : R2 := fun x y H Q => ∃ l b xs zs, x = .ref l ∧ y = .ref b ∧ H l = some (.lst xs) ∧ H b = some (.lst zs) ∧ xs.length + zs.length ≤ sizeLine ∧ ∀ p, H p = none → Q (.ref p) (upd H p (.lst (xs ++ zs)))
theorem op_cat : OpR X (binaryOp .Add) rCat := by
  intro pins s σ H x y v u Q I rx ry h
  obtain ⟨l, b, xs, zs, rfl, rfl, hH, hB, hz, q⟩ := h
  cases rx
  cases ry
  obtain ⟨z, its, n, r, hl, e⟩ := I.lstM hH
  obtain ⟨z2, its2, n2, r2, hl2, e2⟩ := I.lstM hB
  refine PySem.P.add_list e e2 ?_ (by rw [List.size_toArray, List.size_toArray]; omega)
  have ea : its.toArray ++ its2.toArray = (its ++ its2).toArray := by simp
  rw [ea]
  exact ⟨.ref _, _, I.lnew (t' := s.toks) (r.append r2) (by rw [List.length_append]; omega), rfl, q _ I.fresh⟩
/-- a list times an int (a negative one is nothing) -/
def rRep : R2 := fun x y H Q => ∃ l k xs, x = .ref l ∧ y = .int k ∧ H l = some (.lst xs) ∧ -(2 ^ 63) ≤ k ∧ k < 2 ^ 63 ∧ xs.length * k.toNat ≤ sizeLine ∧
  ∀ p, H p = none → Q (.ref p) (upd H p (.lst (List.replicate k.toNat xs).flatten))
theorem len_rep {α : Type} (xs : List α) (k : Nat) : (List.replicate k xs).flatten.length = k * xs.length := by
  induction k with
  | zero => simp
  | succ k ih => rw [List.replicate_succ, List.flatten_cons, List.length_append, ih, Nat.succ_mul, Nat.add_comm]
theorem op_rep : OpR X (binaryOp .Mult) rRep := by
  intro pins s σ H x y v u Q I rx ry h
  obtain ⟨l, k, xs, rfl, rfl, hH, h1, h2, hz, q⟩ := h
  cases rx
  obtain ⟨t, rfl⟩ := ry
  obtain ⟨z, its, n, r, hl, e⟩ := I.lstM hH
  have hlen : its.toArray.size * k.toNat ≤ sizeLine := by rw [List.size_toArray, ← hl]; exact hz
  have hcap : ¬ its.toArray.size * k.toNat > (2 ^ 63 - 1) / 8 := by
    have : (sizeLine : Nat) ≤ (2 ^ 63 - 1) / 8 := by decide
    omega
  have hfit : ¬ (!Builtin.List.listFitsIndex k) = true := by
    rw [fitsIndex_both h1 h2]
    exact Bool.false_ne_true
  have hlong : ¬ Builtin.List.listTooLong (its.toArray.size * k.toNat) = true := by
    rw [notLongL hlen]
    exact Bool.false_ne_true
  have hnew : List.foldl (fun x1 x2 => x1 ++ x2) #[] (List.replicate (if its.toArray.isEmpty = true then 0 else k.toNat) its.toArray) = (List.replicate k.toNat its).flatten.toArray := by
    have f0 : ∀ m : Nat, List.foldl (fun x1 x2 => x1 ++ x2) #[] (List.replicate m its.toArray) = (List.replicate m its).flatten.toArray := fun m => by
      have := foldl_rep its m []
      rw [List.nil_append] at this
      exact this
    rw [f0]
    cases its with
    | nil => simp
    | cons a r' => rw [if_neg (by simp)]
  refine wpAny_binaryOp_repeat_ref (T := "list") (U := "int") (by decide) ⟨_, e, rfl⟩ (fun s' => typeIs_int s' k t) noFill_list_mul F.fills_int_mul F.slot_int_rmul repeat_list F.slot_int_index.lookup
    (call_meets F.slot_int_rmul (typeIs_int s k t) F.entry_int_rmul (F.args_int_rmul_2 _ _) (int___rmul___int_list k t l its.toArray n)
      ⟨e, rfl, ⟨_, e, rfl⟩, call_meets F.slot_list_mul ⟨_, e, rfl⟩ F.entry_list_mul (F.args_list_mul_2 _ _) (AutoListH.list___mul___list_int_3 l its.toArray n k t hfit hcap hlong) ⟨e, ?_⟩⟩)
  rw [hnew]
  exact ⟨.ref _, _, I.lnew (t' := s.toks) (r.rep k.toNat) (by rw [len_rep, Nat.mul_comm]; exact hz), rfl, q _ I.fresh⟩

/-! ### del xs[i] -/
theorem del_list {pins : List (Addr × Obj)} {s : Shared} {σ : St} {H : Hp} {l : Addr} {xs : List V} {i : Int} {t : Tok} {k : Nat} {Q : Unit → Shared → Prop} (I : Inv X pins σ H s) (hH : H l = some (.lst xs))
    (h1 : -(2 ^ 63) ≤ i) (h2 : i < 2 ^ 63) (hk : seqIndex? i xs.length = some k) (h : ∀ s', Inv X pins σ (upd H l (.lst (xs.eraseIdx k))) s' → Q () s') :
    wpAny (model X.prog X.w) X.A (delItem (.ref l) (.int i t)) Q X.xe s := by
  obtain ⟨z, its, n, r, hl, e⟩ := I.lstM hH
  refine PySem.P.delItem_list (k := k) e (fitsIndex_both h1 h2) (by rw [List.size_toArray, ← hl]; exact hk) (h _ ?_) (by rw [List.size_toArray]; omega)
  refine I.lset (its' := its.eraseIdx k) (t' := s.toks) hH e ?_ (r.eraseIdx k) ?_
  · show its.toArray.eraseIdxIfInBounds k = (its.eraseIdx k).toArray
    rw [List.eraseIdxIfInBounds_toArray]
  · have := len_erase xs k
    omega
end

/-! ### xs[a:b] = ys -/
section
variable {prog : Program} {w : World} {A : Around} {E : Value → Shared → Prop} {s : Shared}
theorem splice_eq (its its2 : List Value) (a c : Nat) : its.toArray.extract 0 a ++ its2.toArray ++ its.toArray.extract c its.toArray.size = (its.take a ++ its2 ++ its.drop c).toArray := by
  apply Array.toList_inj.mp
  first
    | (simp
       exact List.take_of_length_le (by simp))
    | simp [List.take_of_length_le]
    | simp
theorem bounds_run {a c n : Nat} (hac : a ≤ c) (hc : c ≤ n) : sliceBounds (some (a : Int)) (some (c : Int)) none n = ((a : Int), (c : Int), 1) := by
  simp only [sliceBounds, Option.getD_none]
  have h1 : ¬ ((a : Int) < 0) := by omega
  have h2 : ¬ ((c : Int) < 0) := by omega
  simp only [h1, h2, if_false, show (1 : Int) > 0 by decide, if_true]
  congr 1
  · omega
  · congr 1; omega
set_option maxRecDepth 100000 in
/-- list.__setitem__ with a slice of step one and another list -/
theorem setItem_slice {l b sl : Addr} {items new : Array Value} {n n2 : Nat} {vl vu : Value} {a c : Nat} {Q : Unit → Shared → Prop}
    (e : s.heap.get? l = some { cls := .type "list", data := .seq items n }) (e2 : s.heap.get? b = some { cls := .type "list", data := .seq new n2 }) (hne : l ≠ b)
    (hs : s.heap.IsSliceOf sl vl vu .none) (pl : IsPart vl (some (a : Int))) (pu : IsPart vu (some (c : Int))) (hac : a ≤ c) (hc : c ≤ items.size)
    (hsz : items.size + new.size ≤ sizeLine) (h : Q () { s with heap := s.heap.update l (Obj.mapSeq fun xs => xs.extract 0 a ++ new ++ xs.extract c xs.size) }) :
    wpAny (model prog w) A (setItem (.ref l) (.ref sl) (.ref b)) Q E s := by
  have hl : s.heap.IsList l items := PySem.IsL.isList e
  have hb : s.heap.IsList b new := PySem.IsL.isList e2
  obtain ⟨os, hos, hcs, hds⟩ := id hs
  have hTs : s.TypeIs (.ref sl) "slice" := ⟨os, hos, hcs⟩
  have hstep : ¬ ((rawPart none == rawInt 0) = true) := Bool.false_ne_true
  have hsame : Builtin.List.listSameRef (.ref l) (.ref b) = false := by
    unfold Builtin.List.listSameRef
    exact beq_eq_false_iff_ne.mpr hne
  have hmax : (max (a : Int) (c : Int)).toNat = c := by omega
  have hz' : ((fun xs : Array Value => xs.extract 0 a ++ new ++ xs.extract c xs.size) items).size ≤ sizeLine + 1 := by
    simp only [Array.size_append, Array.size_extract]
    omega
  unfold setItem
  try with_reducible refine wpAny_holding ?_
  first | refine wpAny_bind (wpAny_pure ?_) | skip
  refine wpAny_bind (wpAny_sequenceKey hl.typeIs (by decide) ?_)
  refine wpAny_bind (wpAny_callSpecial?_slot (name := Str.ofString "__setitem__") hl.typeIs slot_list_setitem
    (wpAny_call_entry slot_list_setitem hl.typeIs entry_list_setitem ?_ (args_list_setitem _ _ _)))
  show wpAny _ _ (Builtin.List.listSubscript? (.ref sl) >>= _) _ _ s
  refine wpAny_bind ?_
  unfold Builtin.List.listSubscript?
  refine wpAny_bind (wpAny_specialOf hTs slice_no_index ?_)
  simp only [Option.isNone_none, if_true]
  refine wpAny_pure ?_
  show wpAny _ _ (typeOf (.ref sl) >>= _) _ _ s
  refine wpAny_bind (wpAny_typeOf hTs ?_)
  first
    | rw [if_neg (by decide)]
    | refine PySem.W.KFB.if_not (by decide) ?_
  rw [listSliceParts_eq]
  refine wpAny_bind (wpAny_bind (wpAny_field hos hds (x := .none) rfl (wpAny_bind (wpAny_listPart .none ?_))))
  rw [if_neg hstep]
  refine wpAny_bind (wpAny_field hos hds (x := vl) rfl (wpAny_bind (wpAny_listPart pl ?_)))
  refine wpAny_bind (wpAny_field hos hds (x := vu) rfl (wpAny_bind (wpAny_listPart pu (wpAny_pure ?_))))
  first
    | simp only [hsame, Bool.false_eq_true, if_false]
    | refine PySem.W.KFB.if_not hsame ?_
    | (dsimp only
       rw [if_neg (by rw [hsame]; exact Bool.false_ne_true)])
  refine wpAny_bind (m := Builtin.List.listAllItems (.ref b) "must assign iterable to extended slice") ?_
  unfold Builtin.List.listAllItems
  refine wpAny_bind (wpAny_typeOf hb.typeIs ?_)
  first
    | refine PySem.W.KFB.if_so (by decide) ?_
    | rw [if_pos (by decide)]
    | simp only [beq_self_eq_true, Bool.true_or, if_true]
  unfold Builtin.List.listItems
  refine wpAny_bind (wpAny_seqItems e2 rfl (wpAny_pure ?_))
  refine wpAny_bind (wpAny_bind (wpAny_seqItems e rfl (wpAny_pure ?_)))
  refine wpAny_bind (wpAny_of_eq ((sliceIndices_raw (some (a : Int)) (some (c : Int)) none items.size (by simp)).trans (congrArg (pure : Int × Int × Int → Sem (Int × Int × Int)) (bounds_run hac hc))) ?_)
  show wpAny _ _ (if ((1 : Int) == 1) = true then _ else _) _ _ s
  rw [if_pos (by decide)]
  refine wpAny_bind (wpAny_rule ?_)
  first
    | simp only [notLongL hsz, Bool.false_eq_true, if_false]
    | refine PySem.W.KFB.if_not (notLongL hsz) ?_
  first | refine wpAny_bind (wpAny_pure ?_) | skip
  show wpAny _ _ (updateSeq l (fun xs => xs.extract 0 ((a : Int)).toNat ++ new ++ xs.extract (max (a : Int) (c : Int)).toNat xs.size) >>= _) _ _ s
  rw [hmax, Int.toNat_natCast]
  refine wpAny_bind (wpAny_updateSeq (hz := Nat.le_trans (Nat.le_add_right _ _) hsz) (_hz' := hz') e rfl ?_)
  refine wpAny_bind (wpAny_letGo ?_)
  first
    | exact wpAny_bind (wpAny_pure (wpAny_pure ⟨.none, rfl, wpAny_pure h⟩))
    | exact wpAny_pure ⟨.none, rfl, wpAny_pure h⟩
end

section
variable {X : Cx}
/-- xs[a:c] = ys of another list, at the value level: sl is the slice object that was just made -/
theorem set_slice {pins : List (Addr × Obj)} {s : Shared} {σ : St} {H : Hp} {l b sl : Addr} {xs ys : List V} {a c : Int} {vl vu : Value} {Q : Unit → Shared → Prop} (I : Inv X pins σ H s)
    (hH : H l = some (.lst xs)) (hB : H b = some (.lst ys)) (hne : l ≠ b) (hs : s.heap.IsSliceOf sl vl vu .none) (ra : RelV (.int a) vl) (rc : RelV (.int c) vu) (h0 : 0 ≤ a) (hac : a ≤ c) (hc : c ≤ xs.length)
    (hz : xs.length + ys.length ≤ sizeLine) (h : ∀ s', Inv X pins σ (upd H l (.lst (xs.take a.toNat ++ ys ++ xs.drop c.toNat))) s' → Q () s') :
    wpAny (model X.prog X.w) X.A (setItem (.ref l) (.ref sl) (.ref b)) Q X.xe s := by
  obtain ⟨ta, rfl⟩ := ra
  obtain ⟨tc, rfl⟩ := rc
  obtain ⟨z, its, n, r, hl, e⟩ := I.lstM hH
  obtain ⟨z2, its2, n2, r2, hl2, e2⟩ := I.lstM hB
  obtain ⟨a', rfl⟩ := Int.eq_ofNat_of_zero_le h0
  obtain ⟨c', rfl⟩ := Int.eq_ofNat_of_zero_le (Int.le_trans h0 hac)
  simp only [Int.toNat_natCast] at h
  refine setItem_slice (a := a') (c := c') e e2 hne hs (.int _ _) (.int _ _) (by omega) (by rw [List.size_toArray]; omega) (by rw [List.size_toArray, List.size_toArray]; omega) (h _ ?_)
  refine I.lset (its' := its.take a' ++ its2 ++ its.drop c') (t' := s.toks) hH e ?_ (Vals.append (Vals.append (r.take _) r2) (r.drop _)) ?_
  · exact splice_eq its its2 a' c'
  · rw [List.length_append, List.length_append, List.length_take, List.length_drop]
    omega
end
end L2

namespace Att
open PySem PySem.W PySem.Calls PyProof.Rows

/-! ### the script -/
theorem ints_of_wellAll {P : Params} {h : Heap} : ∀ (ns : List Int) (vs : List Value), WellAll P h vs (ns.map WData.int) → IntsAre vs ns := by
  intro ns
  induction ns with
  | nil =>
    intro vs w
    rw [List.map_nil] at w
    cases w
    exact .nil
  | cons n ns ih =>
    intro vs w
    rw [List.map_cons] at w
    cases w with
    | cons a b =>
      cases a
      exact .cons _ _ (ih _ b)

theorem script_of {l : OpenLaw} {n : Nat} (hn : l.most = some n) {P : Params} {h : Heap} {args : List WData} {vals : List Value}
    (hpre : l.row.toRowW.claim.pre args = true) (hwl : WellAll P h vals args) :
    ∃ a vs ns, vals = [Value.ref a] ∧ args = [WData.list (ns.map WData.int)] ∧ h.get? a = some { cls := .type "list", data := .seq vs.toArray } ∧ IntsAre vs ns ∧ ns.length ≤ n := by
  have hsh : WShape.hasAll [] args [.list .int] = true := (pre_splitW hpre).1
  have hc : l.pre.holds [] { args := args } = true := (pre_splitW hpre).2
  obtain ⟨d, r, rfl, h1, h2⟩ := hasAllW_cons hsh
  obtain rfl := hasAllW_nil h2
  obtain ⟨xs, rfl, h3⟩ := hasW_list h1
  obtain ⟨ns, rfl⟩ := items_int h3
  have hlen : ns.length ≤ n := by
    unfold OpenLaw.pre at hc
    have h4 : (WTm.not (.lt (.lit (.int (n : Int))) (.len (.arg 0)))).holds [] { args := [.list (ns.map .int)] } = true := by
      have h4 := (holds_andW hc).1
      rw [hn] at h4
      exact h4
    have h5 := condW_of h4 (w_not (w_lt w_lit (w_len_list (w_arg rfl))))
    rw [List.length_map] at h5
    refine Nat.le_of_not_lt fun q => ?_
    have q' : (n : Int) < ((ns.length : Nat) : Int) := by omega
    first
      | (rw [decide_eq_true q'] at h5; exact absurd h5 (by decide))
      | (simp at h5; omega)
  cases hwl with
  | cons w1 w2 =>
    cases w2
    cases w1 with
    | list ho hall => exact ⟨_, _, ns, rfl, rfl, ho, ints_of_wellAll ns _ hall, hlen⟩

theorem post_true (l : OpenLaw) (args : List WData) : l.row.toRowW.claim.post args (.bool true) args = true :=
  postW_of (r := l.row.toRowW) (X := (true == true))
    (show WShape.has [] (.bool true) .bool = true by first | rfl | decide | simp [WShape.has, WShape.arms, WShape.armsAll])
    (show (WTm.eq .res (.lit (.bool true))).value [] { args := args, res := some (.bool true), after := args } = some (.bool (true == true)) from w_eq_bool (w_res rfl) w_lit) rfl

/-! ### the attachment: holds_open's last premise (the goal 'hc' behind k_head) from a wpAny of the law's body -/
theorem attach {l : OpenLaw} {n : Nat} {q : Program} {loose : List Str} {XP : (Str → Option Value) → Heap → Prop} {YP : World → Heap → Prop} {d : DefRec} {x : Str}
    (hn : l.most = some n) (hdf : d.params.defaults = [])
    (hbind : ∀ pm cd doc v : Value, bindArgs (docDef d.name d.params d.body d.scope pm cd doc) ⟨[v], []⟩ = pure [(x, v)])
    (hx : d.scope.names.lookup x = some .local ∨ d.scope.names.lookup x = some .cell)
    (hk : d.scope.kind = .function) (hco : d.scope.isCoroutine = false) (hgen : d.scope.isGenerator = false)
    (body : ∀ (w : World) (s₀ s₁ s : Shared) (mg mb : Str → Option Value) (fa : Addr) (o : Obj) (pm cd doc : Value) (a : Addr) (vs : List Value) (ns : List Int),
      Ground q loose [] XP w s₀ mg mb s₁.heap → YP w s₁.heap →
      s₁.heap.get? fa = some o → o.data = .func (docDef d.name d.params d.body d.scope pm cd doc) → s₁.heap.CodeRec cd d.name → mg d.name = some (.ref fa) →
      s₁.heap.get? a = some { cls := .type "list", data := .seq vs.toArray } → IntsAre vs ns → ns.length ≤ n →
      s.gens = #[] → s.os = s₁.os →
      Fr s₁.heap s₁.heap.objs.size s.heap (bindL (envOfC d.name d.scope s₁.heap.objs.size fa cd).kindOf [(x, .ref a)] fun _ => none) →
      Cl s₁.heap.objs.size (cellsFrom (s₁.heap.objs.size + 1) d.scope.names []) s.heap (bindC (envOfC d.name d.scope s₁.heap.objs.size fa cd).kindOf [(x, .ref a)] fun _ => none) →
      wpAny (model l.prog w) (callerA.deeper (envOfC d.name d.scope s₁.heap.objs.size fa cd)) (execs d.body (envOfC d.name d.scope s₁.heap.objs.size fa cd))
        (fun f s' => f = .ret (.bool true) ∧ OldK s₁.heap s'.heap ∧ s'.os = s₁.os ∧ AllBare s'.gens) (fun _ _ => False) s) :
    WalkO q loose XP YP l.row.toRowW d [] (fun f vs => PySem.call f vs) := by
  intro w s₀ s₁ mg mb G Y fa o pm cd doc dV kV ho hd hcd hD hmg hg args vals as hpre hlay hrd hwl hlo
  obtain rfl : dV = .none := Dflts.none hD hdf
  obtain rfl : kV = .none := Dflts.noKw hD
  obtain ⟨a, vs, ns, rfl, rfl, hobj, hints, hlen⟩ := script_of hn hpre hwl
  refine enter_call ?_
  refine call_cells_ret (o := o) (by rw [depth_caller]; decide) ho (fd_plain hd) G.T.nolimit hcd (hbind pm cd doc (.ref a)) (fun y hy => ?_) (fun h₁ tk F X => ?_) hco hgen hk
  · obtain rfl : y = (x, Value.ref a) := List.mem_singleton.mp hy
    rcases hx with e | e
    · exact .inl e
    · exact .inr ⟨e, cellsFrom_some _ _ _ (.inl e)⟩
  · refine wpAny_mono (body w s₀ s₁ { s₁ with heap := h₁, toks := tk } mg mb fa o pm cd doc a vs ns G Y ho (fd_plain hd) hcd hmg hobj hints hlen hg rfl F X) (fun f s' hq => ?_) (fun _ _ hq => hq)
    obtain ⟨rfl, h2, h3, h4⟩ := hq
    exact ⟨.inl ⟨.bool true, .bool true, [], rfl, fun _ => rfl, .bool true, post_true l _, fun _ => ⟨List.Pairwise.nil, fun _ hm => (nomatch hm)⟩⟩, h2, h3, h4⟩

/-- the same from a codeAny of the CALL (for a layer whose function contracts speak of calls) -/
theorem attach_call {l : OpenLaw} {n : Nat} {q : Program} {loose : List Str} {XP : (Str → Option Value) → Heap → Prop} {YP : World → Heap → Prop} {d : DefRec}
    (hn : l.most = some n) (hdf : d.params.defaults = [])
    (call : ∀ (w : World) (s₀ s₁ : Shared) (mg mb : Str → Option Value) (fa : Addr) (o : Obj) (pm cd doc : Value) (a : Addr) (vs : List Value) (ns : List Int),
      Ground q loose [] XP w s₀ mg mb s₁.heap → YP w s₁.heap →
      s₁.heap.get? fa = some o → o.data = .func (docDef d.name d.params d.body d.scope pm cd doc) → s₁.heap.CodeRec cd d.name → mg d.name = some (.ref fa) →
      s₁.heap.get? a = some { cls := .type "list", data := .seq vs.toArray } → IntsAre vs ns → ns.length ≤ n → s₁.gens = #[] →
      codeAny (model l.prog w) callerA (.call (.ref fa) ⟨[.ref a], []⟩) (fun r s' => r = .ok (.ret (.bool true)) ∧ OldK s₁.heap s'.heap ∧ s'.os = s₁.os ∧ AllBare s'.gens) s₁) :
    WalkO q loose XP YP l.row.toRowW d [] (fun f vs => PySem.call f vs) := by
  intro w s₀ s₁ mg mb G Y fa o pm cd doc dV kV ho hd hcd hD hmg hg args vals as hpre hlay hrd hwl hlo
  obtain rfl : dV = .none := Dflts.none hD hdf
  obtain rfl : kV = .none := Dflts.noKw hD
  obtain ⟨a, vs, ns, rfl, rfl, hobj, hints, hlen⟩ := script_of hn hpre hwl
  refine enter_call (codeAny_mono (call w s₀ s₁ mg mb fa o pm cd doc a vs ns G Y ho (fd_plain hd) hcd hmg hobj hints hlen hg) fun r s' hq => ?_)
  obtain ⟨rfl, h2, h3, h4⟩ := hq
  exact ⟨.inl ⟨.bool true, .bool true, [], rfl, fun _ => rfl, .bool true, post_true l _, fun _ => ⟨List.Pairwise.nil, fun _ hm => (nomatch hm)⟩⟩, h2, h3, h4⟩

/-- the same where the top left finished generators (o_head chose holds_openN): nothing may have changed at all and no generator may be left -/
theorem attachN {l : OpenLaw} {n : Nat} {q : Program} {loose : List Str} {XP : (Str → Option Value) → Heap → Prop} {YP : World → Heap → Prop} {d : DefRec} {x : Str}
    (hn : l.most = some n) (hdf : d.params.defaults = [])
    (hbind : ∀ pm cd doc v : Value, bindArgs (docDef d.name d.params d.body d.scope pm cd doc) ⟨[v], []⟩ = pure [(x, v)])
    (hx : d.scope.names.lookup x = some .local ∨ d.scope.names.lookup x = some .cell)
    (hk : d.scope.kind = .function) (hco : d.scope.isCoroutine = false) (hgen : d.scope.isGenerator = false)
    (body : ∀ (w : World) (s₀ s₁ s : Shared) (mg mb : Str → Option Value) (fa : Addr) (o : Obj) (pm cd doc : Value) (a : Addr) (vs : List Value) (ns : List Int),
      Ground q loose [] XP w s₀ mg mb s₁.heap → YP w s₁.heap →
      s₁.heap.get? fa = some o → o.data = .func (docDef d.name d.params d.body d.scope pm cd doc) → s₁.heap.CodeRec cd d.name → mg d.name = some (.ref fa) →
      s₁.heap.get? a = some { cls := .type "list", data := .seq vs.toArray } → IntsAre vs ns → ns.length ≤ n →
      s.gens = #[] → s.os = s₁.os →
      Fr s₁.heap s₁.heap.objs.size s.heap (bindL (envOfC d.name d.scope s₁.heap.objs.size fa cd).kindOf [(x, .ref a)] fun _ => none) →
      Cl s₁.heap.objs.size (cellsFrom (s₁.heap.objs.size + 1) d.scope.names []) s.heap (bindC (envOfC d.name d.scope s₁.heap.objs.size fa cd).kindOf [(x, .ref a)] fun _ => none) →
      wpAny (model l.prog w) (callerA.deeper (envOfC d.name d.scope s₁.heap.objs.size fa cd)) (execs d.body (envOfC d.name d.scope s₁.heap.objs.size fa cd))
        (fun f s' => f = .ret (.bool true) ∧ (∀ b o, s₁.heap.get? b = some o → s'.heap.get? b = some o) ∧ s'.os = s₁.os ∧ s'.gens = #[]) (fun _ _ => False) s) :
    WalkN q loose XP YP l.row.toRowW d [] (fun f vs => PySem.call f vs) := by
  intro w s₀ s₁ mg mb G Y fa o pm cd doc dV kV ho hd hcd hD hmg hg args vals as hpre hlay hrd hwl hlo
  obtain rfl : dV = .none := Dflts.none hD hdf
  obtain rfl : kV = .none := Dflts.noKw hD
  obtain ⟨a, vs, ns, rfl, rfl, hobj, hints, hlen⟩ := script_of hn hpre hwl
  refine enter_callW ?_
  refine call_cells_ret (o := o) (by rw [depth_caller]; decide) ho (fd_plain hd) G.T.nolimit hcd (hbind pm cd doc (.ref a)) (fun y hy => ?_) (fun h₁ tk F X => ?_) hco hgen hk
  · obtain rfl : y = (x, Value.ref a) := List.mem_singleton.mp hy
    rcases hx with e | e
    · exact .inl e
    · exact .inr ⟨e, cellsFrom_some _ _ _ (.inl e)⟩
  · refine wpAny_mono (body w s₀ s₁ { s₁ with heap := h₁, toks := tk } mg mb fa o pm cd doc a vs ns G Y ho (fd_plain hd) hcd hmg hobj hints hlen hg rfl F X) (fun f s' hq => ?_) (fun _ _ hq => hq)
    obtain ⟨rfl, h2, h3, h4⟩ := hq
    exact ⟨.inl ⟨.bool true, .bool true, [], rfl, fun _ => rfl, .bool true, post_true l _, fun _ => ⟨List.Pairwise.nil, fun _ hm => (nomatch hm)⟩⟩, h2, h3, h4⟩

/-! ### rules over ANY heap (no ledger) from facts about the written part K: the library's own take a ledger (News) for what they write -/
section
variable {prog : Program} {w : World} {A : Around} {E : Value → Shared → Prop} {s : Shared} {K : Frag}

/-- a def of the module, or a method (qual 'C.m'), entered: the frame is the next address; cells behind it -/
theorem call_fn {R : Result → Shared → Prop} {name qual : Str} {params : Arguments} {body : List Stmt} {scope : Scope} {dV kV doc pm cdv ct oc : Value} {an od : Option Addr} {osl : Array (Option Value)} {f : Addr} {args : Args} {binds : List (Str × Value)}
    (X : K.In s.heap) (hlim : s.heap.NoLimit) (ho : K.lookup f = some ⟨oc, od, .func (fnOf name qual params body scope dV kV doc pm an cdv ct), osl⟩) (hcd : codeIn K cdv qual = true) (hroom : A.depth < recursionLimit)
    (hbind : BindsTo s (fnOf name qual params body scope dV kV doc pm an cdv ct) args binds)
    (hkind : (binds.all fun y => scope.names.lookup y.1 == some .local || scope.names.lookup y.1 == some .cell) = true)
    (h : ∀ s₁, InCallC s s.heap.objs.size (bindL (envOfC qual scope s.heap.objs.size f cdv).kindOf binds fun _ => none) (cellsFrom (s.heap.objs.size + 1) scope.names [])
        (bindC (envOfC qual scope s.heap.objs.size f cdv).kindOf binds fun _ => none) s₁ →
      wpAny (model prog w) (A.deeper (envOfC qual scope s.heap.objs.size f cdv)) (execs body (envOfC qual scope s.heap.objs.size f cdv))
        (fun fl s' => R (.ok (.ret (match fl with | .ret v => v | _ => .none))) s')
        (fun e s' => wpAny (model prog w) (A.deeper (envOfC qual scope s.heap.objs.size f cdv)) (leaving (envOfC qual scope s.heap.objs.size f cdv) e) (fun _ s'' => R (.error e) s'') (fun e' s'' => R (.error e') s'') s') s₁)
    (hco : scope.isCoroutine = false) (hgen : scope.isGenerator = false) (hk : scope.kind = .function) : codeAny (model prog w) A (.call (.ref f) args) R s := by
  refine codeAny_call_function hroom (X _ _ ho) rfl hco hgen rfl (codeRec_of X hcd) (hbind _ _ _ _ ?_)
  refine wpAny_newFunctionEnv_cells hk (kindsX hkind _) fun env he s₁ x => ?_
  subst he
  exact ⟨hlim.keeps x.toInCall.keep, codeAny_func (h s₁ x)⟩

/-- C(..): dict at size, instance at size + 1, then __init__ -/
theorem make_obj {R : Result → Shared → Prop} {C fI : Addr} {rest : List Value} {kw : List (Str × Value)}
    (X : K.In s.heap) (hm : makesIn K C = true) (hi : findIn K (.ref C) "__init__" = some (some (.ref fI))) (hf : isFn K (.ref fI) = true)
    (h : codeAny (model prog w) (A.under (.builtin "type.__call__" ⟨.ref C :: rest, kw⟩)) (.call (.ref fI) ⟨.ref (s.heap.objs.size + 1) :: rest, kw⟩) (InitBack (s.heap.objs.size + 1) R)
      { s with heap := (s.heap.push emptyDict).push (instObj C s.heap.objs.size) }) : codeAny (model prog w) A (.call (.ref C) ⟨rest, kw⟩) R s := by
  obtain ⟨hh, g, d, t, os⟩ := s
  exact make_core (makes_of X hm) (looks_findIn X hi) (fun self => bind_fn X self (beq_iff_eq.mp hf)) (.inl rfl) h

/-- x.name where the instance's dict holds the name and the class does not -/
theorem get_field {x C : Addr} {ox : Obj} {es : List DictEntry} {n : Nat} {name : Str} {expr : Bool} {v : Value} {Q : Value → Shared → Prop}
    (X : K.In s.heap) (I : PySem.W.InstAt s.heap x ox C (some (dictOf es n))) (hg : plainGet K C name = true) (hh : hasDictIn K C = true) (ha : findIn K (.ref C) name = some none)
    (hl : getL name es = some (some v)) (hv : handedIn v = true) (h : Q v { s with toks := s.toks + 1 }) : wpAny (model prog w) A (getAttr (.ref x) name expr) Q E s :=
  get_value X I (plainGet_of hg).1 (findObj_own hh ha rfl hl) hv h

/-- x.m(..): the method found in the class -/
theorem get_method {x C f : Addr} {ox : Obj} {es : List DictEntry} {n : Nat} {name : Str} {pl : Sem Bool} {Q : Value × List Value → Shared → Prop}
    (X : K.In s.heap) (I : PySem.W.InstAt s.heap x ox C (some (dictOf es n))) (hg : plainGet K C name = true) (hf : findIn K (.ref C) name = some (some (.ref f))) (ht : isFn K (.ref f) = true)
    (hl : getL name es = some none) (h : Q (.ref f, [.ref x]) s) : wpAny (model prog w) A (getMethod (.ref x) name pl) Q E s :=
  method_fn X I (plainGet_of hg).1 (plainGet_of hg).2 hf (beq_iff_eq.mp ht) (by show (lookIn name (dictOf es n)).map _ = _; rw [lookIn_dict, hl]; rfl) h

/-! the whole heap as the ledger: makes every rule that writes through a ledger a rule over any heap -/
def noObjs (h : Heap) : Heap := { h with objs := #[] }
theorem noObjs_get (h : Heap) (b : Addr) : (noObjs h).get? b = none := by
  cases e : (noObjs h).get? b with
  | none => rfl
  | some o => exact absurd (Heap.lt_size e) (Nat.not_lt_zero _)
def ledger (h : Heap) (L d : Addr) : List (Addr × Obj) := (List.range h.objs.size).filterMap fun a => if a = L ∨ a = d then none else (h.get? a).map fun o => (a, o)
theorem mem_ledger {h : Heap} {L d a : Addr} {o : Obj} : (a, o) ∈ ledger h L d ↔ a ≠ L ∧ a ≠ d ∧ h.get? a = some o := by
  unfold ledger
  rw [List.mem_filterMap]
  constructor
  · rintro ⟨b, _, e⟩
    split at e
    · cases e
    · rename_i hb
      obtain ⟨o', ho, e'⟩ := Option.map_eq_some_iff.mp e
      cases e'
      exact ⟨fun q => hb (.inl q), fun q => hb (.inr q), ho⟩
  · rintro ⟨n1, n2, ho⟩
    refine ⟨a, List.mem_range.mpr (Heap.lt_size ho), ?_⟩
    rw [if_neg (show ¬ (a = L ∨ a = d) from fun q => q.elim n1 n2), ho] <;> rfl
theorem news_ledger {h : Heap} {L d : Addr} {od : Obj} (hne : d ≠ L) (ho : h.get? d = some od) : News (noObjs h) L h ([] ++ (d, od) :: ledger h L d) := by
  rintro ⟨a, o⟩ hp
  rcases List.mem_cons.mp hp with e | hp
  · cases e
    exact ⟨ho, hne, noObjs_get _ _⟩
  · obtain ⟨n1, n2, e⟩ := mem_ledger.mp hp
    exact ⟨e, n1, noObjs_get _ _⟩
theorem fr_all {h : Heap} {L : Addr} {m : Str → Option Value} (n : h.Ns L m) : Fr (noObjs h) L h m :=
  ⟨n, fun b o e => (by rw [noObjs_get] at e; cases e), Nat.zero_le _⟩
/-- Upd of the head entry (for append_K, setItem_K ..) -/
theorem upd_ledger {h : Heap} {L d : Addr} {o o' : Obj} : Upd d o o' ((d, o) :: ledger h L d) ((d, o') :: ledger h L d) :=
  .head fun ⟨_, _⟩ hp => (mem_ledger.mp hp).2.1

/-- x.name = v over any heap: L is any namespace of the heap (the frame's, say): its map stays, its object is not told; all else but the dict stays -/
theorem set_field {x C dx L : Addr} {ox : Obj} {m : Str → Option Value} {es es' : List DictEntry} {n n' : Nat} {name : Str} {v : Value} {Q : Unit → Shared → Prop}
    (X : K.In s.heap) (I : PySem.W.InstAt s.heap x ox C (some (dictOf es n))) (hd : ox.dict = some dx) (hL : s.heap.Ns L m) (hne : dx ≠ L)
    (hs : findIn K (.ref C) "__setattr__" = some (some (.builtin "object.__setattr__"))) (hp : plainOver K C = true) (ht : takerIn K C name = some none) (hh : hasDictIn K C = true) (hl : (getL name es).isSome = true)
    (e : (putL name (PyData.keyHash w.params name) (.str name (s.toks + 1)) v es, putN name es n) = (es', n')) (hz : es'.length ≤ 1000)
    (h : ∀ h' : Heap, h'.Ns L m → h'.get? dx = some (dictOf es' n') → (∀ b o, b ≠ dx → b ≠ L → s.heap.get? b = some o → h'.get? b = some o) → Q () { s with heap := h', toks := s.toks + 2 }) :
    wpAny (model prog w) A (setAttr (.ref x) name v) Q E s := by
  obtain ⟨e1, e2⟩ := Prod.mk.inj e
  have hdx : s.heap.get? dx = some (dictOf es n) := by
    have := I.dict
    rw [hd] at this
    exact this
  refine set_plain X I hs (osa_dict (s := { s with toks := s.toks + 1 }) (h₀ := noObjs s.heap) (L := L) (m := m) (od := dictOf es n) (od' := dictOf es' n') (es := es') (n := n') (pre := []) (post := ledger s.heap L dx)
    (fr_all hL) (news_ledger hne hdx) X I hd hp ht hh hl (fun _ q => nomatch q) (fun ⟨_, _⟩ q => (mem_ledger.mp q).2.1) (by rw [putName_dict, e1, e2]) rfl hz fun h' F' N' => ?_)
  exact h h' F'.ns (N'.get (List.Mem.head _)) fun b o n1 n2 ho => N'.get (List.Mem.tail _ (mem_ledger.mpr ⟨n2, n1, ho⟩))
end
end Att

namespace L2
open PySem PySem.Spec PyProof.Rows

theorem vals_ints : ∀ {vs : List Value} {ns : List Int}, IntsAre vs ns → Vals (ns.map V.int) vs
  | _, _, .nil => .nil
  | _, _, .cons n t h => .cons ⟨t, rfl⟩ (vals_ints h)

/-- nothing is tracked but the script, known to the object (or it is an object of the module) -/
def Only (H : Hp) : Prop := ∀ b, H b = none ∨ ∃ o xs, H b = some (.frz o (.lst xs))

/-- THE HEAD: the law's promise, at the heap behind the top. F, the promise of the law's def, may use that base is part of the heap (so K.In base, base.Ns mainGlobals mg stand in Mod) -/
theorem law_call {P : Program} {w : World} {K : PySem.W.Frag} {mg mb : Str → Option Value} {CX : CXT} {k : Nat} {fa a : Addr} {fd : FuncData} {x : Str} {sp : Sp} {s₁ : Shared} {vs : List Value} {ns : List Int}
    (KX : K.In s₁.heap) (hns : s₁.heap.Ns mainGlobals mg) (hb : s₁.heap.Ns builtinsNs mb) (hbb : ∀ x : Str, x ≠ "__name__" → mb x = bootBuiltins x) (hlim : s₁.heap.NoLimit) (hg : s₁.gens = #[])
    (ha : s₁.heap.get? a = some { cls := .type "list", data := .seq vs.toArray }) (hi : IntsAre vs ns) (hl : ns.length ≤ sizeLine) (hr : Room k callerA)
    (F : ∀ base : Heap, K.In base → base.Ns mainGlobals mg → FnOk P w K mg base CX k fa fd [x] sp) (hbind : ∀ (s : Shared) (u : Value), BindsTo s fd ⟨[u], []⟩ [(x, u)])
    (hsp : ∀ H : Hp, Only H → SqL K H a (ns.map V.int) → sp [.ref a] H (fun v _ => v = .bl true) fun _ _ _ => False)
    (hCX : ∀ H e s', CX [] H s₁ (fun _ _ _ => False) e s' → False) :
    codeAny (model P w) callerA (.call (.ref fa) ⟨[.ref a], []⟩) (fun r s' => r = .ok (.ret (.bool true)) ∧ OldK s₁.heap s'.heap ∧ s'.os = s₁.os ∧ AllBare s'.gens) s₁ := by
  have rv := vals_ints hi
  have lenV := hi.length
  -- from an abstract heap in which nothing but the script may be tracked
  have core : ∀ H : Hp, Only H → SqL K H a (ns.map V.int) → HOk P w H s₁.heap → (∀ b, H b ≠ none → b = a) → (H a ≠ none → K.lookup a = none) →
      codeAny (model P w) callerA (.call (.ref fa) ⟨[.ref a], []⟩) (fun r s' => r = .ok (.ret (.bool true)) ∧ OldK s₁.heap s'.heap ∧ s'.os = s₁.os ∧ AllBare s'.gens) s₁ := by
    intro H hO hS hok hA hK
    have base_of : ∀ {b : Addr} {o : Obj}, s₁.heap.get? b = some o → H b = none → (hidT s₁.heap H).get? b = some o := fun e n => hidT_get e n
    have noA : ∀ {b : Addr} {o : Obj} {es : Array DictEntry} {ep : Nat}, s₁.heap.get? b = some o → o.data = .dict es ep → H b = none := fun {b o es ep} e d => by
      cases q : H b with
      | none => rfl
      | some u =>
        have e' : b = a := hA b (by rw [q]; simp)
        subst e'
        rw [ha] at e; cases e
        have d' : Data.seq vs.toArray _ = Data.dict es ep := d
        cases d'
    have nsK : ∀ {b : Addr} {m : Str → Option Value}, s₁.heap.Ns b m → (hidT s₁.heap H).Ns b m := fun {b m} ⟨o, es, ep, e, d, r⟩ => ⟨o, es, ep, base_of e (noA e d), d, r⟩
    have hKb : K.In (hidT s₁.heap H) := fun b o e => base_of (KX b o e) (by
      cases q : H b with
      | none => rfl
      | some u =>
        have e' : b = a := hA b (by rw [q]; simp)
        subst e'
        rw [hK (by rw [q]; simp)] at e; cases e)
    have hM : Mod K mg (hidT s₁.heap H) := ⟨hKb, nsK hns, ⟨mb, nsK hb, hbb⟩, let ⟨mc, h1, h2⟩ := hlim; ⟨mc, nsK h1, h2⟩⟩
    have e0 : Env0 P w K mg (hidT s₁.heap H) callerA [] s₁ H := ⟨rfl, hM, fun b o e => of_hidT e, Nat.le_of_eq (hidT_size _ _), trivial, fun b hb => absurd (show b ∈ ([] : List Addr) from hb) (by simp), hok, .of_eq hg⟩
    refine codeAny_mono ((F _ hKb (nsK hns)).run callerA [] s₁ H ⟨[.ref a], []⟩ [.ref a] [.ref a] _ _ hr e0 (hbind s₁ (.ref a)) (.cons rfl .nil) (hsp H hO hS)) fun r s' h => ?_
    cases r with
    | error e => exact (hCX H e s' h).elim
    | ok fl =>
      cases fl with
      | next => exact False.elim h
      | brk => exact False.elim h
      | cont => exact False.elim h
      | ret u =>
        obtain ⟨v, H', os, bare, un, hok', r', q⟩ := h
        have q' : v = .bl true := q
        subst q'
        obtain rfl : u = Value.bool true := r'
        refine ⟨rfl, OldK.of_keep fun b o e => ?_, os, bare⟩
        cases q : H b with
        | none => exact un.keep b o e q (by intro z; exact absurd (show b ∈ ([] : List Addr) from z) (by simp)) (by simp)
        | some u =>
          rcases hO b with z | ⟨ob, xs, z⟩
          · rw [q] at z; cases z
          · have z2 := un.frzs b ob _ z
            obtain ⟨e1, _⟩ := hok b _ z
            obtain ⟨e2, _⟩ := hok' b _ z2
            rw [e] at e1; cases e1
            exact e2
  cases hk : K.lookup a with
  | some o =>
    -- the script is one of the module's own objects
    have e := KX a o hk
    rw [ha] at e
    cases e
    refine core (fun _ => none) (fun _ => .inl rfl) (.inr ⟨_, vs.toArray, _, hk, rfl, rfl, rfl, by rw [List.size_toArray, lenV]; exact hl, by simpa using rv⟩) (fun b u z => by have z' : (none : Option HO) = some u := z; cases z') (fun b z => absurd rfl z) fun z => absurd rfl z
  | none =>
    refine core (fun b => if b = a then some (.frz { cls := .type "list", data := .seq vs.toArray } (.lst (ns.map V.int))) else none) (fun b => ?_) (.inl (.inr ⟨{ cls := .type "list", data := .seq vs.toArray }, if_pos rfl⟩)) (fun b u z => ?_) (fun b z => ?_) fun _ => hk
    · by_cases hb : b = a
      · exact .inr ⟨_, _, if_pos hb⟩
      · exact .inl (if_neg hb)
    · by_cases hb : b = a
      · have z' := (if_pos hb).symm.trans z
        cases z'
        subst hb
        exact ⟨ha, by rw [List.length_map]; exact hl, vs, _, rv, ha⟩
      · have z' := (if_neg hb).symm.trans z
        cases z'
    · by_cases hb : b = a
      · exact hb
      · exact absurd (if_neg hb) z
end L2

namespace L2
open PySem PySem.Spec PyProof.Rows

abbrev KOf {K : PySem.W.Frag} {h : Heap} (_ : K.In h) : PySem.W.Frag := K

/-- the goal that k_head leaves (case hc), from the law's promise. F gives the function object fd (K's own) once, then the promise over every base -/
theorem walk_of {l : PySem.W.OpenLaw} {n k : Nat} {q : Program} {loose : List Str} {XP : (Str → Option Value) → Heap → Prop} {YP : World → Heap → Prop} {d : DefRec} {K : Params → PySem.W.Frag} {CX : World → CXT} {sp : World → Sp} {x : Str}
    (hn : l.most = some n) (hn2 : n ≤ sizeLine) (hdf : d.params.defaults = []) (hr : Room k callerA)
    (hY : ∀ (w : World) (h : Heap), YP w h → (K w.params).In h)
    (F : ∀ (w : World) (mg : Str → Option Value) (fa : Addr) (h : Heap), (K w.params).In h → h.Ns mainGlobals mg → mg d.name = some (.ref fa) →
      ∃ fd : FuncData, (∀ (s : Shared) (u : Value), BindsTo s fd ⟨[u], []⟩ [(x, u)]) ∧
        ∀ base : Heap, (K w.params).In base → base.Ns mainGlobals mg → FnOk l.prog w (K w.params) mg base (CX w) k fa fd [x] (sp w))
    (hsp : ∀ (w : World) (H : Hp) (a : Addr) (ns : List Int), ns.length ≤ n → Only H → SqL (K w.params) H a (ns.map V.int) → sp w [.ref a] H (fun v _ => v = .bl true) fun _ _ _ => False)
    (hCX : ∀ (w : World) (H : Hp) (s : Shared) (e : Value) (s' : Shared), CX w [] H s (fun _ _ _ => False) e s' → False) :
    PySem.W.WalkO q loose XP YP l.row.toRowW d [] (fun f vs => PySem.call f vs) := by
  refine Att.attach_call hn hdf fun w s₀ s₁ mg mb fa o pm cd doc a vs ns G Y ho hd hcd hmg hobj hints hlen hg => ?_
  have KX := hY w _ Y
  obtain ⟨fd, hb, hF⟩ := F w mg fa _ KX G.T.g hmg
  exact law_call KX G.T.g G.T.b G.T.builtins G.T.nolimit hg hobj hints (Nat.le_trans hlen hn2) hr hF hb (fun H hO hS => hsp w H a ns hlen hO hS) fun H e s' => hCX w H s₁ e s'
/-- the same where the promise hangs on the written part alone: (sp := My.sp_law), no hole under a binder -/
theorem walk_ofK {l : PySem.W.OpenLaw} {n k : Nat} {q : Program} {loose : List Str} {XP : (Str → Option Value) → Heap → Prop} {YP : World → Heap → Prop} {d : DefRec} {K : Params → PySem.W.Frag} {CX : CXT} {sp : PySem.W.Frag → Sp} {x : Str}
    (hn : l.most = some n) (hn2 : n ≤ sizeLine) (hdf : d.params.defaults = []) (hr : Room k callerA)
    (hY : ∀ (w : World) (h : Heap), YP w h → (K w.params).In h)
    (F : ∀ (w : World) (mg : Str → Option Value) (fa : Addr) (h : Heap), (K w.params).In h → h.Ns mainGlobals mg → mg d.name = some (.ref fa) →
      ∃ fd : FuncData, (∀ (s : Shared) (u : Value), BindsTo s fd ⟨[u], []⟩ [(x, u)]) ∧
        ∀ base : Heap, (K w.params).In base → base.Ns mainGlobals mg → FnOk l.prog w (K w.params) mg base CX k fa fd [x] (sp (K w.params)))
    (hsp : ∀ (K : PySem.W.Frag) (H : Hp) (a : Addr) (ns : List Int), ns.length ≤ n → Only H → SqL K H a (ns.map V.int) → sp K [.ref a] H (fun v _ => v = .bl true) fun _ _ _ => False)
    (hCX : ∀ (H : Hp) (s : Shared) (e : Value) (s' : Shared), CX [] H s (fun _ _ _ => False) e s' → False) :
    PySem.W.WalkO q loose XP YP l.row.toRowW d [] (fun f vs => PySem.call f vs) :=
  walk_of (K := K) (CX := fun _ => CX) (sp := fun w => sp (K w.params)) hn hn2 hdf hr hY F (fun w H a ns h1 h2 h3 => hsp (K w.params) H a ns h1 h2 h3) fun _ H s e s' => hCX H s e s'
end L2

/- THE LAST THEOREM (shape; LID, My.* are yours):
   My.Adr: a structure of the addresses that your layer names (classes, functions); My.Txt K t: a structure (Prop) of the equations over K;
   My.txt_mk : {K} {implicit addresses ..} (e1 : nsIn K mainGlobals "law" = some (some (.ref f))) (e2 : K.lookup f = some ⟨oc, od, .func (fnOf "law" "law" params body scope dV kV doc pm an cdv ct), sl⟩) (e3 : codeIn K cdv "law" = true) .. : ∃ t, My.Txt K t

set_option maxRecDepth 100000 in
set_option maxHeartbeats 0 in
theorem PySem.Challenge.cw_LID_holds : PySem.Challenge.rw_LID.Holds := by
  w_on; o_law; k_head; (case hw => w_witness2)
  k_fill
  refine L2.walk_of (l := PySem.Challenge.rw_LID) (n := 63) (k := 40) (x := "script") (CX := fun w => ..) (sp := fun _ => My.sp_law) rfl (by decide) rfl ⟨rfl, by decide, by decide⟩ (fun w h Y => PySem.W.kIn_of Y) ?F ?S ?C
  case F =>
    intro w mg fa h KX G hmg
    have T : ∃ t, My.Txt (L2.KOf KX) t := by
      dsimp only [L2.KOf]                          -- K must stand as «<heap const> w.params» for k_is
      refine' My.txt_mk ?e1 ?e2 ?e3 ..
      (case e1 => PySem.W.k_is)                    -- in the order: a name -> its address -> its object -> its parts
      (case e2 => PySem.W.k_is)
      ..
    obtain ⟨t, T⟩ := T
    have e0 := hmg.symm.trans (PySem.W.mg_of KX G T.law)
    cases e0                                       -- fa is the law's own address
    exact ⟨_, fun s u => .of_eq rfl, fun base kb nb => My.law_fn T kb nb⟩     -- if «.of_eq rfl» comes too early: refine' ⟨_, ?b, fun base kb nb => My.law_fn T kb nb⟩; exact fun s u => .of_eq rfl
  case S => exact fun w H a ns hl hO hS => ..
  case C => exact ..
(the tactic k_is has no namespace: write k_is) -/

/-! SHORT WORDS over the layer: a def of the text, its body, what a loop and a test want. -/
namespace L2
open PySem PySem.Spec PyProof.Rows

/-! ### the text by places -/
/-- the j-th statement of a class's body -/
def inClass (s : Stmt) (j : Nat) : Stmt := match s with
  | .ClassDef _ _ _ body _ _ _ _ _ _ _ => body.getD j (.Pass ⟨0, 0, 0, 0⟩)
  | _ => .Pass ⟨0, 0, 0, 0⟩
def defArgs (s : Stmt) : Arguments := match s with
  | .FunctionDef _ a _ _ _ _ _ _ _ _ => a
  | _ => { posonlyargs := [], args := [], vararg := none, kwonlyargs := [], kw_defaults := [], kwarg := none, defaults := [] }
def defBody (s : Stmt) : List Stmt := match s with
  | .FunctionDef _ _ b _ _ _ _ _ _ _ => b
  | _ => []
def defScope (s : Stmt) : Scope := match s with
  | .FunctionDef _ _ _ _ _ _ sc _ _ _ => sc
  | _ => { kind := .function, names := [], isGenerator := false, isCoroutine := false }

/-! ### no exception leaves a def -/
abbrev CX0 : CXT := fun _ _ _ _ _ _ => False
abbrev E0 : XK := fun _ _ _ => False
theorem pass0 {X : Cx} : Passes CX0 X E0 := fun _ _ _ _ _ _ _ h => h.elim

/-! ### a def (or method) of the text as it stands behind the top -/
structure Fun (K : PySem.W.Frag) (x qual : Str) (st : Stmt) (f : Addr) (fd : FuncData) : Prop where
  ex : ∃ (oc : Value) (od : Option Addr) (kV doc pm : Value) (an : Option Addr) (cdv ct : Value) (osl : Array (Option Value)),
    fd = PySem.W.fnOf x qual (defArgs st) (defBody st) (defScope st) .none kV doc pm an cdv ct ∧ K.lookup f = some ⟨oc, od, .func fd, osl⟩ ∧ PySem.W.codeIn K cdv qual = true
  kp : PySem.W.keepIn K (.ref f) = true
section
variable {P : Program} {w : World} {K : PySem.W.Frag} {mg : Str → Option Value} {base : Heap}
/-- THE RULE for a def: its body as a term of rules, and the reading of that term -/
theorem Fun.ok {x qual : Str} {st : Stmt} {f : Addr} {fd : FuncData} {N ps : List Str} {k : Nat} {sp : Sp} (F : Fun K x qual st f fd) (S : FnScope N ps (defScope st)) (len : ∀ vs H Q E, sp vs H Q E → vs.length = ps.length)
    (hbody : ∀ (cdv : Value) (A : Around) (outer : List Env) (s : Shared) (H : Hp) (vs : List V) (Q : VK) (E : XK), Room k (A.deeper (envOfC qual (defScope st) s.heap.objs.size f cdv)) → sp vs H Q E →
      ∃ t, PSs (cxOf CX0 P w K mg base N qual (defScope st) f cdv A outer s H E).nox (defBody st) t ∧ t { nx := fun _ H' => Q .non H', rt := Q } (start N vs) H) : FnOk P w K mg base CX0 (k + 1) f fd ps sp := by
  obtain ⟨oc, od, kV, doc, pm, an, cdv, ct, osl, rfl, lk, hcd⟩ := F.ex
  refine fn_of lk hcd S len fun A outer s H vs Q E hr hsp => ?_
  obtain ⟨t, h, q⟩ := hbody cdv A outer s H vs Q E hr hsp
  exact ⟨t, h.nox, q⟩
/-- how its arguments bind (no defaults): h is «fun _ _ _ _ _ _ us hl => match us, hl with | [_, _], _ => rfl», one _ a parameter -/
theorem Fun.binds {x qual : Str} {st : Stmt} {f : Addr} {fd : FuncData} {ps : List Str} (F : Fun K x qual st f fd)
    (h : ∀ (kV doc pm : Value) (an : Option Addr) (cdv ct : Value) (us : List Value), us.length = ps.length → bindArgs (PySem.W.fnOf x qual (defArgs st) (defBody st) (defScope st) .none kV doc pm an cdv ct) ⟨us, []⟩ = pure (ps.zip us)) : Binds K fd ps [] := by
  obtain ⟨oc, od, kV, doc, pm, an, cdv, ct, osl, rfl, lk, hcd⟩ := F.ex
  exact .all (h kV doc pm an cdv ct)
theorem fun_mk {x qual : Str} {st : Stmt} {f : Addr} {oc : Value} {od an : Option Addr} {osl : Array (Option Value)} {kV doc pm cdv ct : Value} (l : K.lookup f = some ⟨oc, od, .func (PySem.W.fnOf x qual (defArgs st) (defBody st) (defScope st) .none kV doc pm an cdv ct), osl⟩)
    (c : PySem.W.codeIn K cdv qual = true) (k : PySem.W.keepIn K (.ref f) = true) : Fun K x qual st f (PySem.W.fnOf x qual (defArgs st) (defBody st) (defScope st) .none kV doc pm an cdv ct) := ⟨⟨oc, od, kV, doc, pm, an, cdv, ct, osl, rfl, l, c⟩, k⟩
end
theorem hu_of {A : Around} {k : Nat} (hr : Room k A) : A.units + 1 < cLine := Nat.lt_of_le_of_lt (Nat.add_le_add_left (by decide : 1 ≤ 64) _) hr.units
theorem small1000 {n : Nat} (h : n ≤ 1000) : n < sizeLine := Nat.lt_of_le_of_lt h (by decide)

/-! ### expressions in short: the name that stands in the i-th slot -/
section
variable {X : Cx}
theorem pv (i : Nat) {x : Str} {pos : Pos} (hN : X.N[i]? = some x := by rfl) (hv : Vis X.env.scope x := by first | exact Or.inl rfl | exact Or.inr (Or.inl rfl) | exact Or.inr (Or.inr rfl)) (hd : (x == ("__debug__" : Str)) = false := by decide)
    (hcd : (x == ("__classdict__" : Str)) = false := by decide) : PE X (.Name x pos) (tVar i) := pe_var hN hv hd hcd
end

/-! ### tests -/
theorem iteF {A B : Prop} (h : B) : if false = true then A else B := by
  rw [if_neg Bool.false_ne_true]
  exact h
theorem iteT {A B : Prop} (h : A) : if true = true then A else B := by
  rw [if_pos rfl]
  exact h
theorem ite2 {c A B : Prop} [Decidable c] (h1 : c → A) (h2 : ¬ c → B) : if c then A else B := by
  by_cases h : c
  · rw [if_pos h]
    exact h1 h
  · rw [if_neg h]
    exact h2 h
theorem iteNS {c A B : Prop} [Decidable c] (hc : c) (h : B) : if (!decide c) = true then A else B := by
  rw [decide_eq_true hc]
  exact iteF h

/-! ### heaps -/
/-- all that was tracked is as it was -/
def Same (H H' : Hp) : Prop := ∀ b o, H b = some o → H' b = some o
theorem Same.refl (H : Hp) : Same H H := fun _ _ h => h
theorem Same.trans {H H1 H2 : Hp} (a : Same H H1) (b : Same H1 H2) : Same H H2 := fun c o h => b c o (a c o h)
theorem Same.free {H H' : Hp} (e : Same H H') {l : Addr} (h : H' l = Option.none) : H l = Option.none := by
  cases q : H l with
  | none => rfl
  | some o =>
    rw [e l o q] at h
    cases h
theorem Same.seq {K : PySem.W.Frag} {H H' : Hp} {a : Addr} {xs : List V} (e : Same H H') (h : SqL K H a xs) : SqL K H' a xs := by
  rcases h with (h | ⟨o, h⟩) | h
  · exact .inl (.inl (e _ _ h))
  · exact .inl (.inr ⟨o, e _ _ h⟩)
  · exact .inr h

end L2

set_option Elab.async false
set_option linter.all false
set_option maxRecDepth 100000
set_option maxHeartbeats 4000000
namespace L2
open PySem PySem.Spec PyProof.Rows

/-! ### a comprehension of one clause over a list -/
/-- the block's context: its own names, the list D that grows and the iterator it may turn -/
def cxC (X : Cx) (scope : Scope) (cl : List (Str × Addr)) (N : List Str) (C it D : Addr) (s : Shared) (H : Hp) : Cx where
  prog := X.prog
  w := X.w
  K := X.K
  mg := X.mg
  base := X.base
  A := X.A
  N := N
  s₀ := s
  H₀ := H
  env := compEnvC scope cl C X.env
  outer := X.stack
  stack := X.stack
  ex := [it, D]
  calm := X.calm
  fn := fun _ => false
  pn := []
  xe := fun _ _ => False

/-- what is fixed of the block's names: N = the loop's name and the free ones, js the free ones' slots outside -/
structure CompSc (X : Cx) (scope : Scope) (cl : List (Str × Addr)) (N : List Str) (x : Str) (js : List Nat) : Prop where
  clos : closureFor scope X.env = pure cl
  nocell : ∀ y ∈ scope.names, y.2 ≠ .cell
  kind : scope.kind = .function
  names : ∀ y ∈ scope.names, y.2 = .local → scope.names.lookup y.1 = some .local
  xl : scope.names.lookup x = some .local
  sub : ∀ y c, cl.lookup y = some c → X.env.cells.lookup y = some c
  has : ∀ y, ((relabel scope X.env).names.lookup y = some .cell ∨ (relabel scope X.env).names.lookup y = some .free) → ∃ c, cl.lookup y = some c
  N0 : N[0]? = some x
  nd : N.Nodup
  len : N.length = js.length + 1
  fr : ∀ (i j : Nat) (y : Str), js[i]? = some j → N[i + 1]? = some y → X.N[j]? = some y ∧ X.env.scope.names.lookup y = some .cell ∧ (relabel scope X.env).names.lookup y = some .cell ∧ ∃ c, cl.lookup y = some c

/-- the block's values -/
def inn (σ : St) (js : List Nat) (v : Option V) : St := v :: js.map fun j => σ.getD j none

/-- the tests of a clause -/
def PIf (X : Cx) (ifs : List Expr) (t : TT) : Prop :=
  ∀ (pins : List (Addr × Obj)) (s : Shared) (σ : St) (H : Hp) (Q : Bool → Hp → Prop), Inv X pins σ H s → t σ H Q →
    wpAny (model X.prog X.w) X.A (forIn ifs true fun c r => if r = true then do let ok ← isTrue c X.env (eval c X.env); pure (ForInStep.yield ok) else pure (ForInStep.yield r)) (TP X pins σ Q) X.xe s
def tIf0 : TT := fun _ H Q => Q true H
theorem pif_nil {X : Cx} : PIf X [] tIf0 := fun pins s σ H Q I h => wpAny_tests_nil ⟨H, I, h⟩
theorem pif_one {X : Cx} {c : Expr} {t : TT} (h : PT X c t) : PIf X [c] t := fun pins s σ H Q I q => wpAny_tests_one (h pins s σ H Q I q)

theorem HOk.track {P : Program} {w : World} {H : Hp} {h h' : Heap} {a : Addr} {o : HO} (x : HOk P w H h) (hn : H a = none) (k : ∀ b u, H b ≠ none → h.get? b = some u → h'.get? b = some u)
    (new : ObjOk P w (upd H a o) h' a o) : HOk P w (upd H a o) h' := fun b u e => by
  by_cases hb : b = a
  · subst hb; rw [upd_same] at e; cases e; exact new
  · rw [upd_ne hb] at e
    refine (x b u e).stay (fun c v hc q => k c v ?_ q) (fun c q => by rw [upd_ne (ne_of_none q hn)]; exact q) fun c xs q => by rw [upd_ne (ne_of_none q hn)]; exact q
    rcases hc with z | z
    · rw [z, e]; exact fun z => nomatch z
    · rw [z]; exact fun z => nomatch z

theorem relabel_kind (scope : Scope) (env : Env) : (relabel scope env).kind = scope.kind := rfl

theorem comp_core {X : Cx} {pins : List (Addr × Obj)} {σ : St} {H : Hp} {s₂ : Shared} {elt iter : Expr} {x : Str} {px pos : Pos} {ifs : List Expr} {scope : Scope} {cl : List (Str × Addr)} {N : List Str} {js : List Nat} {a it : Addr} {xs : List V} {tc : TT} {te : TE}
    {E : Value → Shared → Prop} {RR : Value → Addr → Result → Shared → Prop} (S : CompSc X scope cl N x js) (hcalm : X.calm = true)
    (hc : ∀ C it D s H, PIf (cxC X scope cl N C it D s H) ifs tc) (he : ∀ C it D s H, PE (cxC X scope cl N C it D s H) elt te)
    (I : Inv X pins σ H s₂) (st : s₂.heap.IsListIter it a 0) (fit : FpOk X pins H it)
    (W : Nat → List V → Hp → Prop) (w0 : W 0 [] H) (wl : ∀ i ys H2, W i ys H2 → SqL X.K H2 a xs)
    (ws : ∀ i v ys H2, xs[i]? = some v → W i ys H2 → tc (inn σ js (some v)) H2 fun b H3 => if b = true then te (inn σ js (some v)) H3 fun y H4 => W (i + 1) (ys ++ [y]) H4 else W (i + 1) ys H3)
    (hz : xs.length ≤ sizeLine)
    (hRR : ∀ (D C : Addr) (s' : Shared) (H' : Hp) (ys : List V), W xs.length ys H' → H' D = none → Inv X pins σ (upd H' D (.lst ys)) s' → (∃ m, s'.heap.Ns C m) → FpOk X pins (upd H' D (.lst ys)) C → RR (.ref D) C (.ok .next) s') :
    wpAny (model X.prog X.w) X.A (newList []) (fun acc s₃ => wpAny (model X.prog X.w) X.A (newFunctionEnv scope X.env.globals cl [] X.env.qual none .none (some X.env)) (fun cenv s₄ =>
      codeAny (model X.prog X.w) X.A (.compStart (.ListComp elt [⟨.Name x px, iter, ifs, 0⟩] scope pos) 0 (.ref it) acc { cenv with scope := relabel scope X.env }) (RR acc cenv.locals) s₄) E s₃) E s₂ := by
  refine wpAny_newObj_type (wpAny_newFunctionEnv S.nocell (by intro y hy; simp at hy) (fun h₁ hns₁ hsb₁ => ?_) S.kind)
  dsimp only at hns₁ hsb₁ ⊢
  generalize hH2 : s₂.heap.push { cls := .type "list", dict := none, data := .seq ([] : List Value).toArray } = H2 at hns₁ hsb₁ ⊢
  have hC : H2.objs.size = s₂.heap.objs.size + 1 := by rw [← hH2, Heap.size_push]
  generalize hDe : s₂.heap.objs.size = D at hC ⊢
  generalize hCe : H2.objs.size = C at hC hns₁ hsb₁ ⊢
  have hDC : D ≠ C := by omega
  have up : ∀ b u, s₂.heap.get? b = some u → H2.get? b = some u := fun b u e => hH2 ▸ Heap.get?_push_of_some _ e
  have up1 : ∀ b u, H2.get? b = some u → h₁.get? b = some u := fun b u e => hsb₁.extBut b u (Nat.ne_of_lt (hCe ▸ Heap.lt_size e)) (Heap.get?_push_of_some _ e)
  have I3 : Inv X pins σ H { s₂ with heap := H2 } := I.kept (t' := s₂.toks) up
  have gD2 : H2.get? D = some { cls := .type "list", data := .seq ([] : List Value).toArray } := by rw [← hH2, ← hDe]; exact Heap.get?_push_size _ rfl
  have leD : s₂.heap.objs.size ≤ D := Nat.le_of_eq hDe
  have leC : s₂.heap.objs.size ≤ C := by rw [hDe, hC]; exact Nat.le_succ _
  have nD : H D = none := I.hok.fresh leD
  have fD : FpOk X pins H D := I.fpOk leD nD
  have nC : H C = none := I.hok.fresh leC
  have fC : FpOk X pins H C := I.fpOk leC nC
  have itlt : it < s₂.heap.objs.size := by obtain ⟨o, e, _⟩ := st; exact Heap.lt_size e
  have itD : it ≠ D := Nat.ne_of_lt (Nat.lt_of_lt_of_le itlt leD)
  have itC : it ≠ C := Nat.ne_of_lt (Nat.lt_of_lt_of_le itlt leC)
  -- the block's context
  let X' : Cx := cxC X scope cl N C it D { s₂ with heap := H2 } H
  have ok : X'.Ok := by
    refine ⟨I.ok.mod, S.kind, I.ok.glob, I.ok.blt, Nat.le_of_eq hCe, fun y z c e1 e2 => I.ok.inj y z c (S.sub y c e1) (S.sub z c e2), S.has, fun y c z _ => (nomatch z), I.ok.hd, I.ok.frames, .inl rfl, fun b hb => ?_, fun b o e => I3.bs b o e, ?_, fun b o e hb => ?_, fun b hb => ?_, I3.stack, I3.stkFree⟩
    · have hb' : b = it ∨ b = D := by simpa [X', cxC] using hb
      refine ⟨?_, fun y c e z => ?_⟩
      · show b ≠ C
        rcases hb' with rfl | rfl
        · exact itC
        · exact hDC
      · have e' := S.sub y c e
        rcases hb' with rfl | rfl
        · exact fit.2.2.2.2.1 y c e' z
        · exact fD.2.2.2.2.1 y c e' z
    · show X.base.objs.size ≤ H2.objs.size
      rw [hCe]
      exact Nat.le_trans (Nat.le_trans I.ok.bsz I.sz) leC
    · have hb' : b = it ∨ b = D := by simpa [X', cxC] using hb
      have q := I.ok.bs b o e
      rcases hb' with rfl | rfl
      · rcases fit.2.2.2.1 with z | z
        · exact I.ok.noex b o e z
        · exact absurd (Nat.lt_of_lt_of_le (Heap.lt_size q.1) z) (Nat.lt_irrefl _)
      · exact absurd (Nat.lt_of_lt_of_le (Heap.lt_size (I.bk b o e)) leD) (Nat.lt_irrefl _)
    · have hb' : b = it ∨ b = D := by simpa [X', cxC] using hb
      intro z
      have z' : b ∈ X.env.locals :: X.fs := I.stkSub b z
      rcases hb' with rfl | rfl
      · exact (List.mem_cons.mp z').elim fit.2.1 fit.2.2.1
      · exact (List.mem_cons.mp z').elim fD.2.1 fD.2.2.1
  have stkD : ∀ b, b = it ∨ b = D → b ∉ frs X.stack := fun b hb z => by
    have z' : b ∈ X.env.locals :: X.fs := I.stkSub b z
    rcases hb with rfl | rfl
    · exact (List.mem_cons.mp z').elim fit.2.1 fit.2.2.1
    · exact (List.mem_cons.mp z').elim fD.2.1 fD.2.2.1
  have fp' : ∀ {H' : Hp}, (∀ b ∈ [it, D], H' b = none) → ∀ b ∈ [it, D], FpOk X' [] H' b := fun {H'} hn b hb => by
    have hb' : b = it ∨ b = D := by simpa using hb
    refine ⟨hn b hb, ?_, stkD b hb', .inl hb, fun y c e z => ?_, fun p hp => nomatch hp⟩
    · show b ≠ C
      rcases hb' with rfl | rfl
      · exact itC
      · exact hDC
    · have e' := S.sub y c e
      rcases hb' with rfl | rfl
      · exact fit.2.2.2.2.1 y c e' z
      · exact fD.2.2.2.2.1 y c e' z
  have Iin : Inv X' [] (inn σ js none) H { s₂ with heap := h₁, toks := s₂.toks + ([] : List (Str × Value)).length } := by
    refine ⟨ok, rfl, I.bare, Un.kept up1, ⟨_, hns₁, fun i y v e1 e2 e3 => ?_⟩, fun y c e => ?_, nC, fun y c e => I.freeC y c (S.sub y c e), fun p hp => (nomatch hp), I3.hok.kept up1, ?_⟩
    · cases i with
      | zero => exact nomatch e2
      | succ i =>
        have e2' : (js.map fun j => σ.getD j none)[i]? = some (some v) := e2
        rw [List.getElem?_map] at e2'
        cases ej : js[i]? with
        | none => rw [ej] at e2'; cases e2'
        | some j =>
          rw [ej] at e2'
          have e2'' : σ.getD j none = some v := Option.some.inj e2'
          have e4 : σ[j]? = some (some v) := by
            rw [List.getD_eq_getElem?_getD] at e2''
            cases e5 : σ[j]? with
            | none => rw [e5] at e2''; cases e2''
            | some o => rw [e5] at e2''; exact congrArg some e2''
          obtain ⟨hX, hk, hk', c, hcl⟩ := S.fr i j y ej e1
          obtain ⟨m, hm, hl⟩ := I.loc
          obtain ⟨u, r, q⟩ := hl j y v hX e4 (.inr (.inl hk))
          refine ⟨u, r, .inr ⟨.inl hk', c, hcl, ?_⟩⟩
          rcases q with ⟨k, _⟩ | ⟨_, c', ec, ob, eb, db⟩
          · have k' : X.env.scope.names.lookup y = some .local := k
            rw [hk] at k'; cases k'
          · rw [S.sub y c hcl] at ec; cases ec
            exact ⟨ob, up1 _ _ (up _ _ eb), db⟩
    · obtain ⟨v, ob, eb, db⟩ := I.cell y c (S.sub y c e)
      exact ⟨v, ob, up1 _ _ (up _ _ eb), db⟩
    · show (inn σ js none).length = N.length
      rw [S.len]; simp [inn]
  have xl' : (relabel scope X.env).names.lookup x = some .local := lookup_relabel_local S.xl
  have loop : ∀ s₃ : Shared, s₃ = { s₂ with heap := h₁, toks := s₂.toks + ([] : List (Str × Value)).length } →
      codeAny (model X.prog X.w) X.A (.compLoop (.ListComp elt [⟨.Name x px, iter, ifs, 0⟩] scope pos) 0 (.ref it) (.ref D) (compEnvC scope cl C X.env)) (RR (.ref D) C) s₃ := by
    rintro s₃ rfl
    refine codeAny_compLoop_tests
      (fun k s' => ∃ (i : Nat) (ys : List V) (H' : Hp) (v : Option V) (its : List Value) (n : Nat), k = xs.length + 1 - i ∧ i ≤ xs.length ∧ ys.length ≤ i ∧ Inv X' [] (inn σ js v) H' s' ∧ W i ys H' ∧ s'.heap.IsListIter it a i ∧ (∀ b ∈ [it, D], H' b = none) ∧
        Vals ys its ∧ s'.heap.get? D = some { cls := .type "list", data := .seq its.toArray n }) ?_ (xs.length + 1)
      ⟨0, [], H, none, [], 0, rfl, Nat.zero_le _, Nat.le_refl _, Iin, w0, ?_, ?_, .nil, up1 _ _ gD2⟩
    · rintro k s' ⟨i, ys, H', v, its, n, rfl, hi, hyl, I', w', st', fr', rv, gD⟩
      by_cases hlt : i < xs.length
      · obtain ⟨y, hy⟩ : ∃ y, xs[i]? = some y := ⟨xs[i], List.getElem?_eq_getElem hlt⟩
        obtain ⟨itl, rl, pl, _⟩ := I'.list (wl i ys H' w')
        obtain ⟨u, hu, ru⟩ := rl.get hy
        obtain ⟨f0, f1, f2, f3, f4, f5⟩ := fp' fr' it (by simp)
        refine wpAny_pyNext_list_item st' pl.isList (x := u) (by simpa using hu) fun h' st1 sb => ?_
        have I1 : Inv X' [] (inn σ js v) H' { s' with heap := h' } := I'.turned (t' := s'.toks) (fun b o hb e => (sb.2 b hb).trans e) f0 f1 f3 f4 f5
        have gD1 : h'.get? D = some { cls := .type "list", data := .seq its.toArray n } := (sb.2 D (Ne.symm itD)).trans gD
        have ob1 : ∀ b ∈ [it, D], ∃ o, h'.get? b = some o ∧ ∀ v, o.data ≠ .cell v := fun b hb => by
          have hb' : b = it ∨ b = D := by simpa using hb
          rcases hb' with rfl | rfl
          · obtain ⟨o, e, c, d⟩ := st1
            exact ⟨o, e, fun v z => by rw [d] at z; cases z⟩
          · exact ⟨_, gD1, fun v z => nomatch z⟩
        have I2 := I1.pinned (fp' fr') ob1
        -- what the pins say later on
        have pinI : ∀ {σ3 : St} {H3 : Hp} {s3 : Shared}, Inv X' ([] ++ pinsAt [it, D] h') σ3 H3 s3 → s3.heap.IsListIter it a (i + 1) ∧ s3.heap.get? D = some { cls := .type "list", data := .seq its.toArray n } ∧ ∀ b ∈ [it, D], H3 b = none := fun {σ3 H3 s3} J => by
          refine ⟨st1.at fun o e => (J.pin (it, o) (List.mem_append_right _ (List.mem_append_right _ (mem_pinsAt (by simp) e)))).1, (J.pin (D, _) (List.mem_append_right _ (List.mem_append_right _ (mem_pinsAt (by simp) gD1)))).1, fun b hb => ?_⟩
          obtain ⟨o, e, _⟩ := ob1 b hb
          exact (J.pin (b, o) (List.mem_append_right _ (List.mem_append_right _ (mem_pinsAt hb e)))).2.1
        refine wpAny_mono ((pg_name (X := X') (i := 0) S.nd S.N0 (.inl xl') (.inr xl')) _ _ _ _ y u (fun σ2 H2 => σ2 = inn σ js (some y) ∧ H2 = H') I2 ru ⟨rfl, rfl⟩) (fun _ s4 h4 => ?_) fun _ _ z => z.elim
        obtain ⟨σ4, H4, I4, rfl, rfl⟩ := h4
        refine wpAny_mono (hc C it D _ H _ _ _ _ _ I4 (ws i y ys H4 hy w')) (fun b s5 h5 => ?_) fun _ _ z => z.elim
        obtain ⟨H5, I5, q5⟩ := h5
        cases b with
        | false =>
          have q5' : W (i + 1) ys H5 := q5
          obtain ⟨st5, gD5, fr5⟩ := pinI I5
          show ∃ m, m < _ ∧ _
          exact ⟨xs.length + 1 - (i + 1), by omega, i + 1, ys, H5, some y, its, n, rfl, hlt, Nat.le_succ_of_le hyl, I5.unpinned, q5', st5, fr5, rv, gD5⟩
        | true =>
          have q5' : te (inn σ js (some y)) H5 fun y H4 => W (i + 1) (ys ++ [y]) H4 := q5
          show wpAny _ _ _ _ _ _
          refine wpAny_mono (he C it D _ H _ _ _ _ _ I5 q5') (fun z s6 h6 => ?_) fun _ _ z => z.elim
          obtain ⟨vz, H6, I6, rz, q6⟩ := h6
          obtain ⟨st6, gD6, fr6⟩ := pinI I6
          have hl6 := rv.length
          refine call_meets F.slot_list_append ⟨_, gD6, rfl⟩ F.entry_list_append (F.args_list_append_2 _ _) (PySem.list_append D its.toArray n z (by rw [List.size_toArray]; omega)) ⟨gD6, ?_⟩
          have q := PySem.IsL.update gD6 (·.push z)
          have hf : its.toArray.push z = (its ++ [z]).toArray := by simp
          rw [hf] at q
          have oth : ∀ b o, b ≠ D → s6.heap.get? b = some o → (s6.heap.update D (Obj.mapSeq (·.push z))).get? b = some o := fun b o hb e => (Heap.get?_update_other s6.heap (Obj.mapSeq _) (Ne.symm hb)).trans e
          obtain ⟨g0, g1, g2, g3, g4, g5⟩ := fp' fr6 D (by simp)
          have I7 := I6.unpinned.turned (t' := s6.toks) (it := D) oth g0 g1 g3 g4 g5
          refine ⟨xs.length + 1 - (i + 1), by omega, i + 1, ys ++ [vz], H6, some y, its ++ [z], _, rfl, hlt, by rw [List.length_append, List.length_singleton]; omega, I7, q6, st6.at fun o e => oth it o itD e, fr6, rv.append (.cons rz .nil), q⟩
      · obtain rfl : i = xs.length := by omega
        obtain ⟨itl, rl, pl, _⟩ := I'.list (wl _ ys H' w')
        obtain ⟨f0, f1, f2, f3, f4, f5⟩ := fp' fr' it (by simp)
        have hll := rl.length
        refine wpAny_pyNext_list_end (ok.hd hcalm) st' pl.isList (by simp; omega) fun h' eb => ?_
        have I1 : Inv X' [] (inn σ js v) H' { s' with heap := h' } := I'.turned (t' := s'.toks) (fun b o hb e => eb b o hb e) f0 f1 f3 f4 f5
        have gD1 : h'.get? D = some { cls := .type "list", data := .seq its.toArray n } := eb D _ (Ne.symm itD) gD
        have nD' : H' D = none := fr' D (by simp)
        have nC' : H' C = none := I1.free
        have u0 : Un (frs X.stack) [it, D] H H' H2 h' := I1.base
        have u1 : Un (frs X.stack) [it, D] H (upd H' D (.lst ys)) H2 h' :=
          ⟨u0.keep, u0.slot, fun b o e n hx => by rw [upd_ne (fun z => hx (by simp [z]))]; exact u0.free b o e n hx, u0.there,
            fun b zs e => by rw [upd_ne (ne_of_none (u0.tups b zs e) nD')]; exact u0.tups b zs e, fun b o zs e => by rw [upd_ne (ne_of_none (u0.frzs b o zs e) nD')]; exact u0.frzs b o zs e,
            fun b ps e => by obtain ⟨m, q⟩ := u0.tbls b ps e; exact ⟨m, by rw [upd_ne (ne_of_none q nD')]; exact q⟩⟩
        have hok : HOk X.prog X.w (upd H' D (.lst ys)) h' := HOk.track I1.hok nD' (fun _ _ _ q => q) ⟨by omega, its, n, rv, gD1⟩
        have If : Inv X pins σ (upd H' D (.lst ys)) { s' with heap := h' } := by
          refine I3.call' (ch := [it, D]) I1.os u1 hok I1.bare fun b hb => ?_
          have hb' : b = it ∨ b = D := by simpa using hb
          rcases hb' with rfl | rfl
          · exact ⟨fit.2.2.2.1, fit.2.1, fit.2.2.2.2.1, fit.2.2.2.2.2⟩
          · exact ⟨fD.2.2.2.1, fD.2.1, fD.2.2.2.2.1, fD.2.2.2.2.2⟩
        obtain ⟨m, hm, _⟩ := I1.loc
        exact hRR D C _ H' ys w' nD' If ⟨m, hm⟩ ⟨by rw [upd_ne (Ne.symm hDC)]; exact nC', fC.2⟩
    · exact st.at fun o e => up1 _ _ (up _ _ e)
    · intro b hb
      have hb' : b = it ∨ b = D := by simpa using hb
      rcases hb' with rfl | rfl
      · exact fit.1
      · exact nD
  exact codeAny_compStart_list (loop _ rfl) (wpAny_pyIter_listiter (st.at fun o e => up1 _ _ (up _ _ e)) (loop _ rfl))

/-- [elt for x in iter if ..]: W i ys H: behind i turns the list is ys -/
def tLC (K : PySem.W.Frag) (ti : TE) (tc : TT) (te : TE) (js : List Nat) : TE := fun σ H Q => ti σ H fun x H1 => ∃ a xs, x = .ref a ∧ SqL K H1 a xs ∧ ∃ W : Nat → List V → Hp → Prop, W 0 [] H1 ∧ (∀ i ys H2, W i ys H2 → SqL K H2 a xs) ∧
  (∀ i v ys H2, xs[i]? = some v → W i ys H2 → tc (inn σ js (some v)) H2 fun b H3 => if b = true then te (inn σ js (some v)) H3 fun y H4 => W (i + 1) (ys ++ [y]) H4 else W (i + 1) ys H3) ∧
  ∀ ys H2, W xs.length ys H2 → ∀ p, H2 p = none → Q (.ref p) (upd H2 p (.lst ys))

section
variable {X : Cx} {elt iter : Expr} {x y : Str} {px py pos spos : Pos} {ifs : List Expr} {scope : Scope} {cl : List (Str × Addr)} {N : List Str} {js : List Nat} {ti te : TE} {tc : TT}

theorem pe_lc (hcalm : X.calm = true) (S : CompSc X scope cl N x js) (hi : PE X iter ti) (hc : ∀ C it D s H, PIf (cxC X scope cl N C it D s H) ifs tc) (he : ∀ C it D s H, PE (cxC X scope cl N C it D s H) elt te)
    (hs : ∀ x, foldedSetIterable iter X.env x = pure x := by intro _; rfl) : PE X (.ListComp elt [⟨.Name x px, iter, ifs, 0⟩] scope pos) (tLC X.K ti tc te js) := by
  intro pins s σ H Q I h
  rw [eval_ListComp]
  refine wpAny_comprehension_free (use := none) rfl hs S.clos S.kind S.names (thn (hi pins s σ H _ I h) fun xv s₁ h₁ => ?_)
  obtain ⟨v, H1, I1, r1, a, xs, rfl, hq, W, w0, wl, ws, hQ⟩ := h₁
  cases r1
  obtain ⟨its, rv, pl, hz⟩ := I1.list hq
  refine wpAny_pyIter_list pl.isList ?_
  have up : ∀ b u, s₁.heap.get? b = some u → (s₁.heap.push { cls := .type "list_iterator", data := .fields #[.ref a, .int 0 0] }).get? b = some u := fun b u e => Heap.get?_push_of_some _ e
  have I2 := I1.kept (t' := s₁.toks) up
  refine comp_core S hcalm hc he I2 ⟨_, Heap.get?_push_size _ rfl, rfl, rfl⟩ (I1.fpOk (Nat.le_refl _) I1.fresh) W w0 wl ws hz ?_
  intro D C s' H' ys w' nD If hm fC
  obtain ⟨m, hm⟩ := hm
  refine ⟨m, hm, fun h' sb => ?_⟩
  obtain ⟨f0, f1, f2, f3, f4, f5⟩ := fC
  exact ⟨.ref D, _, If.turned (t' := s'.toks) (fun b o hb e => (sb.2 b hb).trans e) f0 f1 f3 f4 f5, rfl, hQ ys H' w' D nD⟩

/-- y = [elt for x in iter if ..], y a local name of slot i -/
theorem ps_lc {i : Nat} (hcalm : X.calm = true) (hN : X.N.Nodup) (hiN : X.N[i]? = some y) (hy : X.env.scope.names.lookup y = some .local) (S : CompSc X scope cl N x js) (hi : PE X iter ti)
    (hc : ∀ C it D s H, PIf (cxC X scope cl N C it D s H) ifs tc) (he : ∀ C it D s H, PE (cxC X scope cl N C it D s H) elt te)
    (hsw : swapsWith (.ListComp elt [⟨.Name x px, iter, ifs, 0⟩] scope pos) (some (.Name y py)) spos.line X.env = pure true)
    (hs : ∀ x, foldedSetIterable iter X.env x = pure x := by intro _; rfl) : PS X (.Assign [.Name y py] (.ListComp elt [⟨.Name x px, iter, ifs, 0⟩] scope pos) spos) (tAsg (tLC X.K ti tc te js) (gName i)) := by
  intro pins s σ H Dn I h
  rw [exec_Assign_Name_used _ _ _ _ hsw]
  refine wpAny_bind (wpAny_standAt (wpAny_bind ?_))
  show wpAny _ X.A (do let _ ← comprehension (.ListComp elt [⟨.Name x px, iter, ifs, 0⟩] scope pos) scope X.env _ (newList []) false (eval iter X.env) (some (assign (.Name y py) X.env))) _ _ s
  refine wpAny_bind (wpAny_mono (wpAny_comprehension_free (use := some (assign (.Name y py) X.env)) (Q := fun _ s' => SP X pins Dn .next s') rfl hs S.clos S.kind S.names
    (thn (hi pins s σ H _ I h) fun xv s₁ h₁ => ?_)) (fun _ s' hq => wpAny_pure (wpAny_pure hq)) fun _ _ e => e)
  obtain ⟨v, H1, I1, r1, a, xs, rfl, hq, W, w0, wl, ws, hQ⟩ := h₁
  cases r1
  obtain ⟨its, rv, pl, hz⟩ := I1.list hq
  refine wpAny_pyIter_list pl.isList ?_
  have up : ∀ b u, s₁.heap.get? b = some u → (s₁.heap.push { cls := .type "list_iterator", data := .fields #[.ref a, .int 0 0] }).get? b = some u := fun b u e => Heap.get?_push_of_some _ e
  have I2 := I1.kept (t' := s₁.toks) up
  refine comp_core S hcalm hc he I2 ⟨_, Heap.get?_push_size _ rfl, rfl, rfl⟩ (I1.fpOk (Nat.le_refl _) I1.fresh) W w0 wl ws hz ?_
  intro D C s' H' ys w' nD If hm fC
  obtain ⟨m, hm⟩ := hm
  show wpAny _ X.A (assign (.Name y py) X.env (.ref D)) _ _ _
  refine wpAny_assign_Name (store_ok2 (v := .ref D) If hN hiN (.inl hy) rfl (fun s'' I'' hs'' => ?_) (.inr hy))
  obtain ⟨b, sb, hb⟩ := hs''
  obtain ⟨f0, f1, f2, f3, f4, f5⟩ := fC
  have hCb : C ≠ b := by
    rcases hb with rfl | hb
    · exact f1
    · exact fun z => f4 y b hb z.symm
  refine ⟨m, hm.sameBut sb hCb, fun h' sb' => ?_⟩
  exact ⟨_, _, I''.turned (t' := s''.toks) (fun b o hb e => (sb'.2 b hb).trans e) f0 f1 f3 f4 f5, hQ ys H' w' D nD⟩
end
end L2

set_option Elab.async false
set_option linter.all false
set_option maxRecDepth 100000
set_option maxHeartbeats 4000000
namespace L2
open PySem PySem.Spec PyProof.Rows

/-! ### isinstance against a built-in type -/
inductive Isi : String → String → Bool → Prop where
  | same (T : String) : Isi T T true
  | int_bool : Isi "int" "bool" false
  | int_str : Isi "int" "str" false
  | int_list : Isi "int" "list" false
  | int_tuple : Isi "int" "tuple" false
  | str_bool : Isi "str" "bool" false
  | str_int : Isi "str" "int" false
  | str_list : Isi "str" "list" false
  | str_tuple : Isi "str" "tuple" false
  | list_tuple : Isi "list" "tuple" false
  | tuple_list : Isi "tuple" "list" false
  | bool_int : Isi "bool" "int" true
theorem isi_kit {K : PySem.W.Frag} {ty T : String} {b : Bool} (h : Isi ty T b) : PySem.W.kitOne K (.type ty) (.type T) = some b := by
  cases h with
  | same => unfold PySem.W.kitOne; rw [if_pos (by simp)]
  | _ => kernel_rfl
/-- one of several -/
inductive IsiA (ty : String) : List V → Bool → Prop where
  | nil : IsiA ty [] false
  | yes {T : String} {r : List V} (h : Isi ty T true) : IsiA ty (.ty T :: r) true
  | no {T : String} {r : List V} {b : Bool} (h : Isi ty T false) (t : IsiA ty r b) : IsiA ty (.ty T :: r) b
theorem isiA_kit {K : PySem.W.Frag} {ty : String} : ∀ {Ts : List V} {us : List Value} {b : Bool}, IsiA ty Ts b → Vals Ts us → PySem.W.kitAny K (.type ty) us = some b
  | _, _, _, .nil, .nil => rfl
  | _, _, _, .yes h, .cons r _ => by
    cases r
    unfold PySem.W.kitAny
    rw [isi_kit h]
  | _, _, _, .no h t, .cons r q => by
    cases r
    unfold PySem.W.kitAny
    rw [isi_kit h]
    exact isiA_kit t q

section
variable {X : Cx} {e : Expr} {te : TE} {p p2 pos : Pos}
def rIsi (K : PySem.W.Frag) (T : String) : List V → Hp → VK → Prop := fun xs H Q => ∃ x ty b, xs = [x, .ty T] ∧ TyOf K H x (.type ty) ∧ Isi ty T b ∧ Q (.bl b) H
theorem call_isi {T : String} : CallR X (.builtin "isinstance") (rIsi X.K T) := by
  intro pins s σ H xs us Q I r h
  obtain ⟨x, ty, b, rfl, ht, hi, q⟩ := h
  obtain ⟨u, w', rfl, r1, r2⟩ := vals2 r
  cases r2
  exact isinst_ok I r1 ht (isi_kit hi) fun tk => ⟨.bl b, H, I.tok tk, rfl, q⟩
/-- isinstance(x, (T, ..)), the tuple written there -/
def rIsiA (K : PySem.W.Frag) : List V → Hp → VK → Prop := fun xs H Q => ∃ x a Ts ty b, xs = [x, .ref a] ∧ H a = some (.tup Ts) ∧ TyOf K H x (.type ty) ∧ IsiA ty Ts b ∧ Q (.bl b) H
theorem call_isiA : CallR X (.builtin "isinstance") (rIsiA X.K) := by
  intro pins s σ H xs us Q I r h
  obtain ⟨x, a, Ts, ty, b, rfl, ha, ht, hi, q⟩ := h
  obtain ⟨u, w', rfl, rx, r2⟩ := vals2 r
  cases r2
  obtain ⟨_, its, rv, o, eo, co, n, dt⟩ := (show ObjOk X.prog X.w H s.heap a (.tup Ts) from I.hok a _ ha)
  obtain ⟨c, d, da, sl⟩ := o
  simp only at co dt
  subst co dt
  have e := isiA_kit (K := X.K) hi rv
  have fin : ∀ tk, EP X pins σ Q (.bool b) { s with toks := tk } := fun tk => ⟨.bl b, H, I.tok tk, rfl, q⟩
  cases ht with
  | bl y => cases (show u = Value.bool y from rx); exact PySem.W.kia_tup PySem.W.kitx_bool I.kIn True.intro eo e (fun z => nomatch z) fin
  | int i => obtain ⟨t, q⟩ := (show ∃ t, u = Value.int i t from rx); cases q; exact PySem.W.kia_tup PySem.W.kitx_int I.kIn True.intro eo e (fun z => nomatch z) fin
  | str y => obtain ⟨t, q⟩ := (show ∃ t, u = Value.str y t from rx); cases q; exact PySem.W.kia_tup PySem.W.kitx_str I.kIn True.intro eo e (fun z => nomatch z) fin
  | non => cases (show u = Value.none from rx); exact PySem.W.kia_tup PySem.W.kitx_none I.kIn True.intro eo e (fun z => nomatch z) fin
  | flt y => obtain ⟨t, q⟩ := (show ∃ t, u = Value.float y t from rx); cases q; exact PySem.W.kia_tup PySem.W.kitx_float I.kIn True.intro eo e (fun z => nomatch z) fin
  | @lst a' xs ea =>
    cases (show u = Value.ref a' from rx)
    obtain ⟨_, _, n, _, h1⟩ := (show ObjOk X.prog X.w H s.heap a' (.lst xs) from I.hok a' _ ea)
    exact PySem.W.kia_tup PySem.W.kitx_list I.kIn ⟨_, h1, rfl⟩ eo e (fun z => nomatch z) fin
  | @frz a' ob xs ea =>
    cases (show u = Value.ref a' from rx)
    obtain ⟨_, _, _, n, _, h1⟩ := (show ObjOk X.prog X.w H s.heap a' (.frz ob (.lst xs)) from I.hok a' _ ea)
    exact PySem.W.kia_tup PySem.W.kitx_list I.kIn ⟨_, h1, rfl⟩ eo e (fun z => nomatch z) fin
  | @tup a' xs ea =>
    cases (show u = Value.ref a' from rx)
    obtain ⟨_, _, _, p⟩ := (show ObjOk X.prog X.w H s.heap a' (.tup xs) from I.hok a' _ ea)
    obtain ⟨o, h1, h2, _⟩ := p
    exact PySem.W.kia_tup PySem.W.kitx_tuple I.kIn ⟨o, h1, h2⟩ eo e (fun z => nomatch z) fin
  | @dK a' kvs ea =>
    cases (show u = Value.ref a' from rx)
    obtain ⟨_, _, vs, _, p⟩ := (show ObjOk X.prog X.w H s.heap a' (.dK kvs) from I.hok a' _ ea)
    obtain ⟨o, es, ep, h1, h2, _⟩ := p
    exact PySem.W.kia_tup PySem.W.kitx_dict I.kIn ⟨o, h1, h2.1⟩ eo e (fun z => nomatch z) fin
  | @dT a' kvs ea =>
    cases (show u = Value.ref a' from rx)
    obtain ⟨_, _, xs, _, o, es, ep, h1, h2, _⟩ := (show ObjOk X.prog X.w H s.heap a' (.dT kvs) from I.hok a' _ ea)
    exact PySem.W.kia_tup PySem.W.kitx_dict I.kIn ⟨o, h1, h2.1⟩ eo e (fun z => nomatch z) fin

/-! ### list(text) -/
def signsV (z : Str) : List V := z.cps.toList.map fun c => V.str ⟨#[c]⟩
theorem signsV_length (z : Str) : (signsV z).length = z.length := by simp [signsV, Str.length]
theorem vals_of_at : ∀ {xs : List V} {us : List Value}, xs.length = us.length → (∀ (j : Nat) x u, xs[j]? = some x → us[j]? = some u → RelV x u) → Vals xs us
  | [], [], _, _ => .nil
  | [], _ :: _, h, _ => by simp at h
  | _ :: _, [], h, _ => by simp at h
  | x :: xs, u :: us, h, k => .cons (k 0 x u rfl rfl) (vals_of_at (by simpa using h) fun j a b e1 e2 => k (j + 1) a b (by simpa using e1) (by simpa using e2))
def rListS : List V → Hp → VK → Prop := fun xs H Q => ∃ z, xs = [.str z] ∧ z.length ≤ sizeLine ∧ ∀ l, H l = none → Q (.ref l) (upd H l (.lst (signsV z)))
theorem call_listS (hc : X.calm = true) : CallR X (.type "list") rListS := by
  intro pins s σ H xs us Q I r h
  obtain ⟨z, rfl, hz, q⟩ := h
  obtain ⟨u, rfl, t, rfl⟩ := vals1 r
  refine call_list_str (I.ok.hd hc) z t (fun h' tk acc' c' hk hS hacc => ?_) hz
  refine ⟨.ref s.heap.objs.size, _, I.laid (t' := tk) (o := .lst (signsV z)) hk (Nat.le_refl _) ?_, rfl, q _ I.fresh⟩
  refine ⟨by rw [signsV_length]; exact hz, acc'.toList, c', ?_, by simpa using hS⟩
  refine vals_of_at (by rw [signsV_length]; simp [hacc.1, Str.length]) fun j x u e1 e2 => ?_
  obtain ⟨c, tk', hc', rfl⟩ := hacc.2 j u (by simpa using e2)
  unfold signsV at e1
  rw [List.getElem?_map, Array.getElem?_toList, hc'] at e1
  cases e1
  exact ⟨_, rfl⟩

/-! ### sep.join(list of texts) -/
theorem strsAre_of : ∀ {ys : List Str} {us : List Value}, Vals (ys.map V.str) us → StrsAre us ys
  | [], _, .nil => .nil
  | y :: ys, _, .cons r t => by
    obtain ⟨tk, e⟩ := r
    subst e
    exact .cons y tk (strsAre_of t)
def rJoin (K : PySem.W.Frag) : V → List V → Hp → VK → Prop := fun x vs H Q => ∃ sep l ys, x = .str sep ∧ vs = [.ref l] ∧ SqL K H l (ys.map V.str) ∧ (ys.map (·.length)).sum + ys.length * sep.length ≤ 16777216 ∧ Q (.str (Str.join sep ys)) H
theorem mt_join : MtR X "str.join" (rJoin X.K) := by
  intro pins s σ H x vs v us Q I rx rv h
  obtain ⟨sep, l, ys, rfl, rfl, hl, hz, q⟩ := h
  obtain ⟨t, rfl⟩ := rx
  obtain ⟨u, rfl, ru⟩ := vals1 rv
  cases ru
  obtain ⟨its, ri, pl, _⟩ := I.list hl
  refine join_list pl.isList (strsAre_of ri) hz fun t' k => ⟨.str _, H, I.tok k, ⟨t', rfl⟩, ?_⟩
  show Q (.str (Builtin.Str.glued sep ys)) H
  rw [StrLaws.glued_eq_join]
  exact q

/-! ### text.split(sep) -/
theorem vals_strValues : ∀ l : List (Str × Tok), Vals ((l.map (·.1)).map V.str) (strValues l)
  | [] => .nil
  | p :: r => .cons ⟨p.2, rfl⟩ (vals_strValues r)
def rSplit : V → List V → Hp → VK → Prop := fun x vs H Q => ∃ z y, x = .str z ∧ vs = [.str y] ∧ y.length ≠ 0 ∧ z.length + 2 ≤ sizeLine ∧ ∀ p, H p = none → Q (.ref p) (upd H p (.lst ((Txt.split z y).map V.str)))
open Builtin Builtin.Str in
theorem mt_split : MtR X "str.split" rSplit := by
  intro pins s σ H x vs v us Q I rx rv h
  obtain ⟨z, y, rfl, rfl, hy0, hz, q⟩ := h
  obtain ⟨t, rfl⟩ := rx
  obtain ⟨u, rfl, tu, rfl⟩ := vals1 rv
  have hy : (y.length == 0) = false := by simpa using hy0
  have hn : (partsBetween z (occurrences z y 0 z.length (z.length + 1)) y.length).length ≤ sizeLine := by
    have e1 := StrLaws.occ_length_le z y 0 z.length (z.length + 1)
    rw [length_partsBetween]; omega
  have fin : ∀ (l : List (Str × Tok)) (k : Nat), l.map (·.1) = Txt.split z y → l.length ≤ sizeLine → EP X pins σ Q (.ref s.heap.objs.size) { s with heap := s.heap.push { cls := .type "list", data := .seq (strValues l).toArray }, toks := k } := fun l k e hl => by
    refine ⟨.ref s.heap.objs.size, _, I.laid (t' := k) (o := .lst ((Txt.split z y).map V.str)) (fun _ _ q => Heap.get?_push_of_some _ q) (Nat.le_refl _) ⟨?_, strValues l, 0, ?_, Heap.get?_push_size _ rfl⟩, rfl, q _ I.fresh⟩
    · rw [← e]; simpa using hl
    · rw [← e]; exact vals_strValues l
  have one : 1 ≤ sizeLine := by rw [sizeLine_eq]; decide
  cases h1 : (decide (z.length < y.length) || decide (PySem.Builtin.Str.strKind z < PySem.Builtin.Str.strKind y))
  · cases hf : (occurrences z y 0 z.length (z.length + 1)).isEmpty
    · refine call_meets F.slot_str_split (typeIs_str _ _ _) F.entry_str_split (F.args_str_split_2 _ _) (meets_str_split_sep z y t tu h1 hy hf (by omega) hn) ?_
      show wants _ _ _ { s with toks := _, heap := s.heap.push { cls := .type "list", data := .seq (strsFrom s.toks (partsBetween z (occurrences z y 0 z.length (z.length + 1)) y.length)).toArray } }
      rw [strsFrom_eq]
      have e : (numbered s.toks (partsBetween z (occurrences z y 0 z.length (z.length + 1)) y.length)).map (·.1) = Txt.split z y := (numbered_texts _ _).trans ((if_neg (ne_true_of_eq_false h1)).trans (if_neg (ne_true_of_eq_false hf))).symm
      refine fin (numbered s.toks _) _ e ?_
      have e2 := congrArg List.length (numbered_texts s.toks (partsBetween z (occurrences z y 0 z.length (z.length + 1)) y.length))
      rw [List.length_map] at e2
      omega
    · exact call_meets F.slot_str_split (typeIs_str _ _ _) F.entry_str_split (F.args_str_split_2 _ _) (meets_str_split_not_found z y t tu h1 hy hf)
        (fin [(z, t)] s.toks ((if_neg (ne_true_of_eq_false h1)).trans (if_pos hf)).symm one)
  · exact call_meets F.slot_str_split (typeIs_str _ _ _) F.entry_str_split (F.args_str_split_2 _ _) (meets_str_split_cannot_occur z y t tu h1)
      (fin [(z, t)] s.toks (if_pos h1).symm one)

/-! ### slices of a text -/
/-- a text of codes -/
def strL (l : List Nat) : Str := ⟨l.toArray⟩
def cutS (z : Str) (lo hi : Option Int) : Str := strL ((z.cps.toList.drop (HT.sIx z.length 0 lo)).take (HT.sIx z.length z.length hi - HT.sIx z.length 0 lo))
theorem slice_idx (lo hi : Option Int) (n : Nat) : Builtin.Str.strSliceIndices lo hi 1 n = (List.range (HT.sIx n n hi - HT.sIx n 0 lo)).map (HT.sIx n 0 lo + ·) := by
  rw [← sliceRange_one]
  unfold Builtin.Str.strSliceIndices
  have e1 : (match lo with | none => (if (1 : Int) > 0 then (0 : Int) else (n : Int) - 1) | some i => (if (1 : Int) > 0 then max 0 (min (if i < 0 then i + (n : Int) else i) (n : Int)) else max (-1) (min (if i < 0 then i + (n : Int) else i) ((n : Int) - 1)))) = ((HT.sIx n 0 lo : Nat) : Int) := by
    cases lo with
    | none => simp [HT.sIx]
    | some i =>
      simp only [HT.sIx, show (1 : Int) > 0 by decide, if_true]
      by_cases h : i < 0
      · simp only [h, if_true]; omega
      · simp only [h, if_false]; omega
  have e2 : (match hi with | none => (if (1 : Int) > 0 then (n : Int) else -1) | some i => (if (1 : Int) > 0 then max 0 (min (if i < 0 then i + (n : Int) else i) (n : Int)) else max (-1) (min (if i < 0 then i + (n : Int) else i) ((n : Int) - 1)))) = ((HT.sIx n n hi : Nat) : Int) := by
    cases hi with
    | none => simp [HT.sIx]
    | some i =>
      simp only [HT.sIx, show (1 : Int) > 0 by decide, if_true]
      by_cases h : i < 0
      · simp only [h, if_true]; omega
      · simp only [h, if_false]; omega
  rw [← e1, ← e2]
  cases lo <;> cases hi <;> rfl
theorem slice_eq (z : Str) (lo hi : Option Int) : Txt.slice z lo hi = cutS z lo hi := by
  have ha : HT.sIx z.length 0 lo ≤ z.length := HT.sIx_le _ _ (Nat.zero_le _) lo
  have hb : HT.sIx z.length z.length hi ≤ z.length := HT.sIx_le _ _ (Nat.le_refl _) hi
  have hl : z.cps.toList.length = z.length := by simp [Str.length]
  unfold Txt.slice cutS strL
  rw [slice_idx]
  split
  · rename_i h
    rw [Bool.and_eq_true] at h
    have h2 : HT.sIx z.length z.length hi - HT.sIx z.length 0 lo = z.length := by simpa using h.2
    have h3 : HT.sIx z.length 0 lo = 0 := by omega
    apply Str.ext'
    rw [h2, h3, List.drop_zero, ← hl, List.take_length]
  · apply Str.ext'
    show (List.filterMap _ _).toArray = _
    rw [pick_run]
def rSlS : V → Option Int → Option Int → Hp → VK → Prop := fun x lo hi H Q => ∃ z, x = .str z ∧ z.length ≤ sizeLine ∧ Q (.str (cutS z lo hi)) H
theorem sl_str : SlR X rSlS := by
  intro pins s σ H x v vl vu lo hi sl Q I rx hs pl pu h
  obtain ⟨z, rfl, hz, q⟩ := h
  obtain ⟨t, rfl⟩ := rx
  refine ⟨"str", _, F.slot_str_getitem.lookup, typeIs_str _ _ _, ?_⟩
  have q' : ∀ (t' : Tok) (k : Nat), EP X pins σ Q (.str (Txt.slice z lo hi) t') { s with toks := k } := fun t' k => ⟨.str (cutS z lo hi), H, I.tok k, ⟨t', by rw [slice_eq]⟩, q⟩
  obtain ⟨o, eo, co, dt⟩ := hs
  cases pl with
  | none =>
    cases pu with
    | none => exact wpAny_getItem_str_slice (l := none) (u := none) (st := none) ⟨o, eo, co, dt⟩ rfl (post_val_or_str ⟨Nat.le_trans (Txt.slice_le z _ _) hz, fun t' k => q' t' k⟩)
    | int j tj => exact wpAny_getItem_str_slice (l := none) (u := some (j, tj)) (st := none) ⟨o, eo, co, dt⟩ rfl (post_val_or_str ⟨Nat.le_trans (Txt.slice_le z _ _) hz, fun t' k => q' t' k⟩)
  | int i ti =>
    cases pu with
    | none => exact wpAny_getItem_str_slice (l := some (i, ti)) (u := none) (st := none) ⟨o, eo, co, dt⟩ rfl (post_val_or_str ⟨Nat.le_trans (Txt.slice_le z _ _) hz, fun t' k => q' t' k⟩)
    | int j tj => exact wpAny_getItem_str_slice (l := some (i, ti)) (u := some (j, tj)) (st := none) ⟨o, eo, co, dt⟩ rfl (post_val_or_str ⟨Nat.le_trans (Txt.slice_le z _ _) hz, fun t' k => q' t' k⟩)

/-! ### sum of a list of ints -/
def rSum (K : PySem.W.Frag) : List V → Hp → VK → Prop := fun xs H Q => ∃ (p : Addr) (ns : List Int), xs = [.ref p] ∧ SqL K H p (ns.map V.int) ∧ Q (.int ns.sum) H
theorem call_sum (hc : X.calm = true) : CallR X (.builtin "sum") (rSum X.K) := by
  intro pins s σ H xs us Q I r h
  obtain ⟨p, ns, rfl, hp, q⟩ := h
  obtain ⟨u, rfl, ru⟩ := vals1 r
  cases ru
  obtain ⟨its, ri, pl, _⟩ := I.list hp
  have ia : IntsAre its ns := intsAre_of ri
  have hall := ia.allInts
  obtain ⟨xs, ex⟩ := hall.items
  have hl := pl.isList
  rw [ex] at hl
  refine sum_intListG (I.ok.hd hc) hl fun h' tk t' hk => ⟨.int ns.sum, H, I.kept (t' := tk) hk, ⟨t', ?_⟩, q⟩
  have e2 : (numsOf its).sum = ns.sum := by rw [ia.numsOf]
  have e3 : its = (intItems xs).toList := by rw [← ex]
  rw [e3, nums_intItems] at e2
  rw [preSum_eq, List.take_of_length_le (by simp), e2]

/-! ### text.find(sub, from) -/
def rFind3 : V → List V → Hp → VK → Prop := fun x vs H Q => ∃ z y i, x = .str z ∧ vs = [.str y, .int i] ∧ Q (.int (Txt.find3 z y i)) H
theorem mt_find3 : MtR X "str.find" rFind3 := by
  intro pins s σ H x vs v us Q I rx rv h
  obtain ⟨z, y, i, rfl, rfl, q⟩ := h
  obtain ⟨t, rfl⟩ := rx
  obtain ⟨u, w', rfl, ⟨t1, rfl⟩, ⟨t2, rfl⟩⟩ := vals2 rv
  exact SC.find3 ⟨.int _, H, I.tok _, ⟨_, rfl⟩, q⟩

/-! ### text * int -/
def rMulS : R2 := fun x y H Q => ∃ z n, x = .str z ∧ y = .int n ∧ MulOk z n ∧ Q (.str (Txt.mul z n)) H
theorem op_mulS : OpR X (binaryOp .Mult) rMulS := by
  intro pins s σ H x y v u Q I rx ry h
  obtain ⟨z, n, rfl, rfl, hok, q⟩ := h
  obtain ⟨t, rfl⟩ := rx
  obtain ⟨t', rfl⟩ := ry
  exact SB.mul hok fun t' k => ⟨.str _, H, I.tok k, ⟨t', rfl⟩, q⟩

/-! ### tuples of ints and texts: ==, != ; a list against the empty one -/
def plainV : V → Bool
  | .int _ => true
  | .str _ => true
  | _ => false
theorem eqV_plain {x y : V} (hx : plainV x = true) (hy : plainV y = true) : eqV x y = decide (x = y) := by
  cases x with
  | int i =>
    cases y with
    | int j => exact dec_int.symm
    | str j => exact (decide_eq_false (fun z => nomatch z)).symm
    | _ => exact absurd hy Bool.false_ne_true
  | str i =>
    cases y with
    | int j => exact (decide_eq_false (fun z => nomatch z)).symm
    | str j => exact dec_str.symm
    | _ => exact absurd hy Bool.false_ne_true
  | _ => exact absurd hx Bool.false_ne_true
theorem plain_flat {x : V} (h : plainV x = true) : flatV x = true := by
  cases x <;> first | rfl | exact absurd h Bool.false_ne_true
theorem all_eq {xs ys : List V} (hx : xs.all plainV = true) (hy : ys.all plainV = true) :
    ((List.range (min xs.length ys.length)).all (fun j => match xs[j]?, ys[j]? with | some x, some y => eqV x y | _, _ => true) && xs.length == ys.length) = decide (xs = ys) := by
  rw [Bool.eq_iff_iff, Bool.and_eq_true, List.all_eq_true, decide_eq_true_iff]
  constructor
  · rintro ⟨h1, h2⟩
    have h2' : xs.length = ys.length := by simpa using h2
    apply List.ext_getElem h2'
    intro j a b
    have h3 := h1 j (List.mem_range.mpr (by omega))
    rw [List.getElem?_eq_getElem a, List.getElem?_eq_getElem b] at h3
    have h3' : eqV xs[j] ys[j] = true := h3
    rw [eqV_plain (List.all_eq_true.mp hx _ (List.getElem_mem a)) (List.all_eq_true.mp hy _ (List.getElem_mem b))] at h3'
    simpa using h3'
  · rintro rfl
    refine ⟨fun j hj => ?_, by simp⟩
    have hj' : j < xs.length := by have := List.mem_range.mp hj; omega
    rw [List.getElem?_eq_getElem hj']
    show eqV xs[j] xs[j] = true
    rw [eqV_plain (List.all_eq_true.mp hx _ (List.getElem_mem hj')) (List.all_eq_true.mp hx _ (List.getElem_mem hj'))]
    simp
theorem items_eqAt {A : Around} {s : Shared} {xs ys : List V} {us ws : List Value} (r1 : Vals xs us) (r2 : Vals ys ws) (hx : xs.all plainV = true) (hy : ys.all plainV = true) :
    ∀ j (h1 : j < us.toArray.size) (h2 : j < ws.toArray.size), SeqAt.EqAt A s us.toArray[j] ws.toArray[j] (match xs[j]?, ys[j]? with | some x, some y => eqV x y | _, _ => true) := by
  intro j h1 h2
  have l1 := r1.length
  have l2 := r2.length
  have a1 : j < xs.length := by simp at h1; omega
  have a2 : j < ys.length := by simp at h2; omega
  obtain ⟨u, e1, q1⟩ := r1.get (List.getElem?_eq_getElem a1)
  obtain ⟨w', e2, q2⟩ := r2.get (List.getElem?_eq_getElem a2)
  have b1 : us.toArray[j] = u := by
    have := List.getElem?_eq_some_iff.mp e1
    simpa using this.2
  have b2 : ws.toArray[j] = w' := by
    have := List.getElem?_eq_some_iff.mp e2
    simpa using this.2
  rw [b1, b2, List.getElem?_eq_getElem a1, List.getElem?_eq_getElem a2]
  exact eqAt_V q1 q2 (plain_flat (List.all_eq_true.mp hx _ (List.getElem_mem a1))) (plain_flat (List.all_eq_true.mp hy _ (List.getElem_mem a2)))
def rTupE (K : PySem.W.Frag) : R2 := fun x y H Q => ∃ a b xs ys, x = .ref a ∧ y = .ref b ∧ SqT K H a xs ∧ SqT K H b ys ∧ xs.all plainV = true ∧ ys.all plainV = true ∧ Q (.bl (decide (xs = ys))) H
def rTupN (K : PySem.W.Frag) : R2 := fun x y H Q => ∃ a b xs ys, x = .ref a ∧ y = .ref b ∧ SqT K H a xs ∧ SqT K H b ys ∧ xs.all plainV = true ∧ ys.all plainV = true ∧ Q (.bl (!decide (xs = ys))) H
theorem op_eqT (hu : X.A.units < cLine) : OpR X (compareOp .Eq) (rTupE X.K) := by
  intro pins s σ H x y v u Q I rx ry h
  obtain ⟨a, b, xs, ys, rfl, rfl, ha, hb, px, py, q⟩ := h
  cases rx
  cases ry
  obtain ⟨its, r1, p1, _⟩ := I.tuple ha
  obtain ⟨its2, r2, p2, _⟩ := I.tuple hb
  refine SeqAt.RcAt.tuples p1 p2 hu (items_eqAt r1 r2 px py) _ _ _ _ (fin_bl I q ?_)
  rw [← all_eq px py]
  simp only [List.size_toArray, r1.length, r2.length]
theorem op_neT (hu : X.A.units < cLine) : OpR X (compareOp .NotEq) (rTupN X.K) := by
  intro pins s σ H x y v u Q I rx ry h
  obtain ⟨a, b, xs, ys, rfl, rfl, ha, hb, px, py, q⟩ := h
  cases rx
  cases ry
  obtain ⟨its, r1, p1, _⟩ := I.tuple ha
  obtain ⟨its2, r2, p2, _⟩ := I.tuple hb
  refine SeqAt.RcNeAt.tuples p1 p2 hu (items_eqAt r1 r2 px py) _ _ _ _ (fin_bl I q ?_)
  rw [← all_eq px py]
  simp only [List.size_toArray, r1.length, r2.length]
/-- a list against an empty one -/
def rNilE (K : PySem.W.Frag) : R2 := fun x y H Q => ∃ a b xs, x = .ref a ∧ y = .ref b ∧ SqL K H a xs ∧ SqL K H b [] ∧ Q (.bl xs.isEmpty) H
def rNilN (K : PySem.W.Frag) : R2 := fun x y H Q => ∃ a b xs, x = .ref a ∧ y = .ref b ∧ SqL K H a xs ∧ SqL K H b [] ∧ Q (.bl (!xs.isEmpty)) H
theorem op_eqNil (hu : X.A.units < cLine) : OpR X (compareOp .Eq) (rNilE X.K) := by
  intro pins s σ H x y v u Q I rx ry h
  obtain ⟨a, b, xs, rfl, rfl, ha, hb, q⟩ := h
  cases rx
  cases ry
  obtain ⟨its, r1, p1, _⟩ := I.list ha
  obtain ⟨its2, r2, p2, _⟩ := I.list hb
  have e2 := r2.zero
  subst e2
  cases r1 with
  | nil => exact SeqAt.RcAt.lists (e := fun _ => true) p1.isList p2.isList rfl hu (fun j h1 _ => absurd h1 (by simp)) _ _ _ _ (fin_bl I q rfl)
  | cons r t => exact SeqAt.RcAt.lists_lengths p1.isList p2.isList (by simp) hu _ _ _ _ (fin_bl I q rfl)
theorem op_neNil (hu : X.A.units < cLine) : OpR X (compareOp .NotEq) (rNilN X.K) := by
  intro pins s σ H x y v u Q I rx ry h
  obtain ⟨a, b, xs, rfl, rfl, ha, hb, q⟩ := h
  cases rx
  cases ry
  obtain ⟨its, r1, p1, _⟩ := I.list ha
  obtain ⟨its2, r2, p2, _⟩ := I.list hb
  have e2 := r2.zero
  subst e2
  cases r1 with
  | nil => exact SeqAt.RcNeAt.lists (e := fun _ => true) p1.isList p2.isList rfl hu (fun j h1 _ => absurd h1 (by simp)) _ _ _ _ (fin_bl I q rfl)
  | cons r t => exact SeqAt.RcNeAt.lists_lengths p1.isList p2.isList (by simp) hu _ _ _ _ (fin_bl I q rfl)

/-! ### the ints' rules, their values written out -/
def rAddI : R2 := fun x y H Q => ∃ i j, x = .int i ∧ y = .int j ∧ Q (.int (i + j)) H
def rSubI : R2 := fun x y H Q => ∃ i j, x = .int i ∧ y = .int j ∧ Q (.int (i - j)) H
def rModI : R2 := fun x y H Q => ∃ i j, x = .int i ∧ y = .int j ∧ 0 < j ∧ Q (.int (i % j)) H
def rFdivI : R2 := fun x y H Q => ∃ i j, x = .int i ∧ y = .int j ∧ CDiv i j ∧ Q (.int (i / j)) H
def rMulI : R2 := fun x y H Q => ∃ i j, x = .int i ∧ y = .int j ∧ CMul i j ∧ Q (.int (i * j)) H
def rPowI : R2 := fun x y H Q => ∃ i j, x = .int i ∧ y = .int j ∧ CPow i j ∧ Q (.int (i ^ j.toNat)) H
def rNegI : V → Hp → VK → Prop := fun x H Q => ∃ i, x = .int i ∧ Q (.int (-i)) H
theorem op_addI : OpR X (binaryOp .Add) rAddI := op_add
theorem op_subI : OpR X (binaryOp .Sub) rSubI := op_sub
theorem op_modI : OpR X (binaryOp .Mod) rModI := op_mod
theorem op_fdivI : OpR X (binaryOp .FloorDiv) rFdivI := op_fdiv
theorem op_mulI : OpR X (binaryOp .Mult) rMulI := op_mul
theorem op_powI : OpR X (binaryOp .Pow) rPowI := op_pow
theorem un_negI : UnR X (unaryOp .USub) rNegI := un_neg
end
end L2

set_option Elab.async false
set_option linter.all false
set_option maxRecDepth 100000
set_option maxHeartbeats 4000000
namespace GbM
open PySem PySem.StrLaws PySem.Builtin PySem.Builtin.Str
/-- rows of a text of codes -/
def splitL (c : Nat) : List Nat → List (List Nat)
  | [] => [[]]
  | a :: l => if a = c then [] :: splitL c l else match splitL c l with
    | [] => [[a]]
    | p :: r => (a :: p) :: r
theorem splitL_ne (c : Nat) (l : List Nat) : ∃ p r, splitL c l = p :: r := by
  cases l with
  | nil => exact ⟨_, _, rfl⟩
  | cons a l =>
    unfold splitL
    split
    · exact ⟨_, _, rfl⟩
    · split <;> exact ⟨_, _, rfl⟩
theorem splitL_hit (c : Nat) (l : List Nat) : splitL c (c :: l) = [] :: splitL c l := by
  show (if c = c then _ else _) = _
  rw [if_pos rfl]
theorem splitL_miss {c a : Nat} {l : List Nat} {p : List Nat} {r : List (List Nat)} (h : a ≠ c) (e : splitL c l = p :: r) : splitL c (a :: l) = (a :: p) :: r := by
  show (if a = c then _ else _) = _
  rw [if_neg h, e]

theorem occ_all (x : Str) (c : Nat) : ∀ (k a : Nat) (st : Array Nat × Nat), a + k ≤ x.length + 1 → st.2 ≤ a → st.1.size ≤ a →
    (forIn (List.range' a k) st (occBody x ⟨#[c]⟩ x.length (x.length + 1))).run.fst.toList = st.1.toList ++ (List.range' a k).filter (fun i => decide (x.cps.toList[i]? = some c))
  | 0, a, st, _, _, _ => by simp
  | k + 1, a, st, hk, hf, hs => by
    rw [List.range'_succ, List.forIn_cons, List.filter_cons]
    unfold occBody
    by_cases hc : x.cps.toList[a]? = some c
    · have h1 := (subAt_one x c a).mpr hc
      have c1 : ((st.fst.size < x.length + 1 ∧ st.snd ≤ a) ∧ a + (⟨#[c]⟩ : Str).length ≤ x.length) ∧ subAt x ⟨#[c]⟩ a = true := ⟨⟨⟨by omega, hf⟩, h1.1⟩, h1.2⟩
      rw [if_pos c1, if_pos (decide_eq_true hc)]
      have ih := occ_all x c k (a + 1) (st.fst.push a, a + (⟨#[c]⟩ : Str).length) (by omega) (Nat.le_refl _) (by rw [Array.size_push]; omega)
      refine ih.trans ?_
      simp
    · have c2 : ¬ (((st.fst.size < x.length + 1 ∧ st.snd ≤ a) ∧ a + (⟨#[c]⟩ : Str).length ≤ x.length) ∧ subAt x ⟨#[c]⟩ a = true) := fun h => hc ((subAt_one x c a).mp ⟨h.1.2, h.2⟩)
      rw [if_neg c2, if_neg (by simpa using hc)]
      exact occ_all x c k (a + 1) (st.fst, st.snd) (by omega) (by show st.snd ≤ _; omega) (by show st.fst.size ≤ _; omega)
theorem occ_filter (x : Str) (c : Nat) : occurrences x ⟨#[c]⟩ 0 x.length (x.length + 1) = (List.range' 0 (x.length + 1)).filter (fun i => decide (x.cps.toList[i]? = some c)) := by
  rw [occ_eq]
  exact (occ_all x c (x.length + 1 - 0) 0 (#[], 0) (by omega) (Nat.le_refl _) (Nat.le_refl _)).trans (by simp)
theorem sub_step (x : Str) {a b d : Nat} (h : x.cps.toList[a]? = some d) (hb : a + 1 ≤ b) : (strSub x a b).cps.toList = d :: (strSub x (a + 1) b).cps.toList := by
  rw [strSub_toList, strSub_toList]
  obtain ⟨hlt, hd⟩ := List.getElem?_eq_some_iff.mp h
  rw [List.drop_eq_getElem_cons hlt, hd]
  have e : b - a = (b - (a + 1)) + 1 := by omega
  rw [e, List.take_succ_cons]
theorem parts_step (x : Str) {a d : Nat} (h : x.cps.toList[a]? = some d) : ∀ (cuts : List Nat), (∀ i ∈ cuts, a + 1 ≤ i) → ∀ (hn : a + 1 ≤ x.length),
    ∃ p r, (partsFrom x 1 (a + 1) cuts).map (·.cps.toList) = p :: r ∧ (partsFrom x 1 a cuts).map (·.cps.toList) = (d :: p) :: r
  | [], _, hn => ⟨_, _, rfl, by
      show [(strSub x a x.length).cps.toList] = _
      rw [sub_step x h hn]
      rfl⟩
  | i :: cuts, hi, hn => ⟨_, _, rfl, by
      show (strSub x a i).cps.toList :: _ = _
      rw [sub_step x h (hi i (List.mem_cons_self ..))]⟩
theorem parts_split (x : Str) (c : Nat) : ∀ (k a : Nat), a + k = x.length → (partsFrom x 1 a ((List.range' a (k + 1)).filter (fun i => decide (x.cps.toList[i]? = some c)))).map (·.cps.toList) = splitL c (x.cps.toList.drop a)
  | 0, a, hk => by
    have hl : x.cps.toList.length = x.length := by simp [Str.length]
    have e : x.cps.toList[a]? = none := List.getElem?_eq_none (by omega)
    have e2 : (List.range' a 1).filter (fun i => decide (x.cps.toList[i]? = some c)) = [] := by
      show List.filter _ [a] = []
      rw [List.filter_cons, if_neg (by rw [e]; simp)]
      rfl
    rw [e2, List.drop_of_length_le (by omega)]
    show [(strSub x a x.length).cps.toList] = [[]]
    rw [strSub_toList, List.drop_of_length_le (by omega), List.take_nil]
  | k + 1, a, hk => by
    have hl : x.cps.toList.length = x.length := by simp [Str.length]
    have hlt : a < x.cps.toList.length := by omega
    have ih := parts_split x c k (a + 1) (by omega)
    rw [List.drop_eq_getElem_cons hlt, List.range'_succ, List.filter_cons]
    have hd : x.cps.toList[a]? = some x.cps.toList[a] := List.getElem?_eq_getElem hlt
    by_cases hc : x.cps.toList[a] = c
    · rw [hc] at hd
      rw [if_pos (by rw [hd]; simp), hc, splitL_hit, ← ih]
      show (strSub x a a).cps.toList :: _ = _
      rw [strSub_toList, Nat.sub_self, List.take_zero]
    · rw [if_neg (by rw [hd]; simpa using hc)]
      obtain ⟨p, r, e1, e2⟩ := parts_step x hd ((List.range' (a + 1) (k + 1)).filter (fun i => decide (x.cps.toList[i]? = some c))) (fun i hi => by have := (List.mem_filter.mp hi).1; rw [List.mem_range'_1] at this; omega) (by omega)
      rw [e2]
      rw [e1] at ih
      exact (splitL_miss hc ih.symm).symm
theorem split_eq (x : Str) (c : Nat) (hc : c < 256) : (Txt.split x ⟨#[c]⟩).map (·.cps.toList) = splitL c x.cps.toList := by
  have hall : (partsBetween x (occurrences x ⟨#[c]⟩ 0 x.length (x.length + 1)) 1).map (·.cps.toList) = splitL c x.cps.toList := by
    rw [partsBetween_eq, occ_filter]
    exact (parts_split x c x.length 0 (by omega)).trans (by rw [List.drop_zero])
  have hk : PySem.Builtin.Str.strKind ⟨#[c]⟩ = 1 := by
    unfold PySem.Builtin.Str.strKind
    rw [if_pos (by simpa using hc)]
  unfold Txt.split
  split
  · rename_i h
    have h' : x.length < 1 := by
      rw [Bool.or_eq_true] at h
      rcases h with h | h
      · exact of_decide_eq_true h
      · have h2 := of_decide_eq_true h
        rw [hk] at h2
        unfold PySem.Builtin.Str.strKind at h2
        split at h2
        · omega
        · split at h2 <;> omega
    have hl : x.cps.toList.length = x.length := by simp [Str.length]
    have e : x.cps.toList = [] := List.eq_nil_of_length_eq_zero (by omega)
    show [x.cps.toList] = _
    rw [e]; rfl
  · split
    · rename_i h
      have e : occurrences x ⟨#[c]⟩ 0 x.length (x.length + 1) = [] := by simpa using h
      rw [e] at hall
      rw [← hall, partsBetween_eq]
      show [x.cps.toList] = [(strSub x 0 x.length).cps.toList]
      rw [sub_whole]
    · exact hall
end GbM
namespace GbM
open PySem PySem.StrLaws PySem.Builtin PySem.Builtin.Str
theorem splitL_snoc_hit (c : Nat) : ∀ m : List Nat, splitL c (m ++ [c]) = splitL c m ++ [[]]
  | [] => by
    show splitL c (c :: []) = _
    rw [splitL_hit]
    rfl
  | a :: m => by
    show splitL c (a :: (m ++ [c])) = splitL c (a :: m) ++ [[]]
    have ih := splitL_snoc_hit c m
    by_cases h : a = c
    · subst h
      rw [splitL_hit, splitL_hit, ih]
      rfl
    · obtain ⟨p, r, e⟩ := splitL_ne c m
      rw [splitL_miss h e]
      rw [e] at ih
      exact splitL_miss h ih
/-- the rows behind a prefix: all but the last one stay, the last one grows -/
theorem splitL_append (c : Nat) (n : List Nat) : ∀ m : List Nat, ∃ (pre : List (List Nat)) (last p : List Nat) (r : List (List Nat)), splitL c m = pre ++ [last] ∧ splitL c n = p :: r ∧ splitL c (m ++ n) = pre ++ (last ++ p) :: r
  | [] => by
    obtain ⟨p, r, e⟩ := splitL_ne c n
    exact ⟨[], [], p, r, rfl, e, e⟩
  | a :: m => by
    obtain ⟨pre, last, p, r, e1, e2, e3⟩ := splitL_append c n m
    show ∃ (pre : List (List Nat)) (last p : List Nat) (r : List (List Nat)), _ ∧ _ ∧ splitL c (a :: (m ++ n)) = _
    by_cases h : a = c
    · subst h
      refine ⟨[] :: pre, last, p, r, ?_, e2, ?_⟩
      · rw [splitL_hit, e1]; rfl
      · rw [splitL_hit, e3]; rfl
    · cases pre with
      | nil =>
        refine ⟨[], a :: last, p, r, ?_, e2, ?_⟩
        · exact splitL_miss h e1
        · exact splitL_miss h e3
      | cons q pre =>
        refine ⟨(a :: q) :: pre, last, p, r, ?_, e2, ?_⟩
        · exact splitL_miss h e1
        · exact splitL_miss h e3
theorem splitL_nosep (c : Nat) : ∀ (l : List Nat) (p : List Nat), p ∈ splitL c l → c ∉ p
  | [], p, h => by
    have e : p = [] := by simpa [splitL] using h
    rw [e]; simp
  | a :: l, p, h => by
    by_cases hc : a = c
    · subst hc
      rw [splitL_hit] at h
      rcases List.mem_cons.mp h with h | h
      · rw [h]; simp
      · exact splitL_nosep a l p h
    · obtain ⟨q, r, e⟩ := splitL_ne c l
      rw [splitL_miss hc e] at h
      rcases List.mem_cons.mp h with h | h
      · rw [h]
        have := splitL_nosep c l q (by rw [e]; exact List.mem_cons_self ..)
        intro z
        rcases List.mem_cons.mp z with z | z
        · exact hc z.symm
        · exact this z
      · exact splitL_nosep c l p (by rw [e]; exact List.mem_cons_of_mem _ h)
/-- signs and row ends together -/
def wsum (rs : List (List Nat)) : Nat := (rs.map (fun r => r.length + 1)).sum
theorem wsum_append (a b : List (List Nat)) : wsum (a ++ b) = wsum a + wsum b := by simp [wsum]
theorem splitL_wsum (c : Nat) : ∀ l : List Nat, wsum (splitL c l) = l.length + 1
  | [] => rfl
  | a :: l => by
    have ih := splitL_wsum c l
    by_cases hc : a = c
    · subst hc
      rw [splitL_hit]
      show 0 + 1 + wsum (splitL a l) = _
      rw [ih, List.length_cons]; omega
    · obtain ⟨q, r, e⟩ := splitL_ne c l
      rw [splitL_miss hc e]
      rw [e] at ih
      have i2 : q.length + 1 + wsum r = l.length + 1 := ih
      show (a :: q).length + 1 + wsum r = _
      rw [List.length_cons, List.length_cons]; omega
/-- number and beginning of the row at a place -/
def rowN (c : Nat) (l : List Nat) (p : Nat) : Nat := (splitL c (l.take p)).length - 1
def rowF (c : Nat) (l : List Nat) (p : Nat) : Nat := wsum ((splitL c (l.take p)).take (rowN c l p))
theorem row_split (c : Nat) (l : List Nat) (p : Nat) : ∃ (pre : List (List Nat)) (last : List Nat), splitL c (l.take p) = pre ++ [last] ∧ rowN c l p = pre.length ∧ rowF c l p = wsum pre ∧ wsum pre + last.length = (l.take p).length := by
  obtain ⟨pre, last, q, r, e1, _, _⟩ := splitL_append c [] (l.take p)
  have hN : rowN c l p = pre.length := by unfold rowN; rw [e1]; simp
  refine ⟨pre, last, e1, hN, ?_, ?_⟩
  · unfold rowF
    rw [hN, e1, List.take_left]
  · have := splitL_wsum c (l.take p)
    rw [e1, wsum_append] at this
    have e : wsum [last] = last.length + 1 := by simp [wsum]
    omega
theorem row_whole (c : Nat) (l : List Nat) (p : Nat) : rowN c l p < (splitL c l).length ∧ wsum ((splitL c l).take (rowN c l p)) = rowF c l p := by
  obtain ⟨pre, last, q, r, e1, e2, e3⟩ := splitL_append c (l.drop p) (l.take p)
  have hN : rowN c l p = pre.length := by unfold rowN; rw [e1]; simp
  rw [List.take_append_drop] at e3
  refine ⟨?_, ?_⟩
  · rw [hN, e3]; simp
  · unfold rowF
    rw [hN, e1, e3, List.take_left, List.take_left]
theorem row_zero (c : Nat) (l : List Nat) : rowN c l 0 = 0 ∧ rowF c l 0 = 0 := by
  constructor
  · show (splitL c (l.take 0)).length - 1 = 0
    rw [List.take_zero]; rfl
  · unfold rowF rowN
    rw [List.take_zero]; rfl
theorem row_hit {c : Nat} {l : List Nat} {p : Nat} (h : l[p]? = some c) : rowN c l (p + 1) = rowN c l p + 1 ∧ rowF c l (p + 1) = p + 1 := by
  obtain ⟨hlt, he⟩ := List.getElem?_eq_some_iff.mp h
  have et : l.take (p + 1) = l.take p ++ [c] := by rw [List.take_add_one, h]; rfl
  obtain ⟨pre, last, e1, eN, eF, ew⟩ := row_split c l p
  have es : splitL c (l.take (p + 1)) = (pre ++ [last]) ++ [[]] := by rw [et, splitL_snoc_hit, e1]
  have hN : rowN c l (p + 1) = pre.length + 1 := by unfold rowN; rw [es]; simp
  refine ⟨by rw [hN, eN], ?_⟩
  unfold rowF
  rw [hN, es]
  have e2 : (pre ++ [last] ++ [[]]).take (pre.length + 1) = pre ++ [last] := by
    have : pre.length + 1 = (pre ++ [last]).length := by simp
    rw [this, List.take_left]
  rw [e2, wsum_append]
  have e : wsum [last] = last.length + 1 := by simp [wsum]
  have : (l.take p).length = p := by rw [List.length_take]; omega
  omega
theorem row_miss {c d : Nat} {l : List Nat} {p : Nat} (h : l[p]? = some d) (hd : d ≠ c) : rowN c l (p + 1) = rowN c l p ∧ rowF c l (p + 1) = rowF c l p := by
  have et : l.take (p + 1) = l.take p ++ [d] := by rw [List.take_add_one, h]; rfl
  obtain ⟨pre, last, q, r, e1, e2, e3⟩ := splitL_append c [d] (l.take p)
  have e4 : splitL c [d] = [[d]] := splitL_miss hd rfl
  rw [e4] at e2
  have eq : q = [d] := by cases e2; rfl
  have er : r = [] := by cases e2; rfl
  subst eq er
  have hN : rowN c l p = pre.length := by unfold rowN; rw [e1]; simp
  have hN2 : rowN c l (p + 1) = pre.length := by unfold rowN; rw [et, e3]; simp
  refine ⟨by rw [hN, hN2], ?_⟩
  unfold rowF
  rw [hN, hN2, et, e1, e3, List.take_left, List.take_left]
theorem rows_last (c : Nat) (l : List Nat) : rowN c l l.length + 1 = (splitL c l).length := by
  unfold rowN
  rw [List.take_length]
  obtain ⟨p, r, e⟩ := splitL_ne c l
  rw [e]; simp
end GbM

set_option Elab.async false
set_option linter.all false
set_option maxRecDepth 100000
set_option maxHeartbeats 4000000
namespace L2
open PySem PySem.Spec PyProof.Rows
theorem Same.new {H : Hp} {p : Addr} {o : HO} (h : H p = none) : Same H (upd H p o) := fun b o' e => by rw [upd_ne (ne_of_none e h)]; exact e
theorem sn {H : Hp} {p a : Addr} {o o' : HO} (f : H p = none) (h : H a = some o') : upd H p o a = some o' := Same.new f a o' h
theorem Same.at {H H' : Hp} {a : Addr} {o : HO} (s : Same H H') (h : H a = some o) : H' a = some o := s a o h
/-- a list or tuple read in a heap that has grown -/
theorem Same.sqT {K : PySem.W.Frag} {H H' : Hp} {a : Addr} {xs : List V} (e : Same H H') (h : SqT K H a xs) : SqT K H' a xs := by
  rcases h with h | h
  · rcases h with h | ⟨o, h⟩
    · exact .inl (.inl (e _ _ h))
    · exact .inl (.inr ⟨o, e _ _ h⟩)
  · exact .inr h
theorem atI_some {α : Type} {xs : List α} {i : Int} (h0 : 0 ≤ i) (h1 : i < xs.length) : ∃ c, atI xs i = some c ∧ xs[i.toNat]? = some c := by
  have hlt : i.toNat < xs.length := by omega
  refine ⟨xs[i.toNat], ?_, List.getElem?_eq_getElem hlt⟩
  unfold atI ixN
  rw [if_pos h0, if_pos h1]
  exact List.getElem?_eq_getElem hlt
theorem atI_at {α : Type} {xs : List α} {k : Nat} {v : α} (h : xs[k]? = some v) : atI xs ((k : Nat) : Int) = some v := atI_nat h
theorem big (n : Nat) (h : n ≤ 1000000) : n ≤ sizeLine := by rw [sizeLine_eq]; omega
end L2
namespace Gb
open PySem L2

theorem b_len : bootBuiltins "len" = some (.builtin "len") := by decide +kernel
theorem b_isinstance : bootBuiltins "isinstance" = some (.builtin "isinstance") := by decide +kernel
theorem b_sum : bootBuiltins "sum" = some (.builtin "sum") := by decide +kernel
theorem b_int : bootBuiltins "int" = some (.type "int") := by decide +kernel
theorem b_bool : bootBuiltins "bool" = some (.type "bool") := by decide +kernel
theorem b_str : bootBuiltins "str" = some (.type "str") := by decide +kernel
theorem b_list : bootBuiltins "list" = some (.type "list") := by decide +kernel
theorem b_tuple : bootBuiltins "tuple" = some (.type "tuple") := by decide +kernel
theorem b_reversed : bootBuiltins "reversed" = some (.type "reversed") := by decide +kernel
/-- the built-in names that the text uses stand for what they stood for -/
structure Blt (mg : Str → Option Value) : Prop where
  len : mg "len" = none
  isi : mg "isinstance" = none
  sum : mg "sum" = none
  int : mg "int" = none
  bool : mg "bool" = none
  str : mg "str" = none
  list : mg "list" = none
  tuple : mg "tuple" = none
  range : mg "range" = none
  reversed : mg "reversed" = none

/-! ### texts as lists of codes -/
abbrev Tx := List Nat
def sg (l : Tx) : List V := l.map fun c => V.str ⟨#[c]⟩
theorem sg_append (a b : Tx) : sg (a ++ b) = sg a ++ sg b := List.map_append
theorem sg_take (a : Tx) (k : Nat) : sg (a.take k) = (sg a).take k := List.map_take
theorem sg_drop (a : Tx) (k : Nat) : sg (a.drop k) = (sg a).drop k := List.map_drop
theorem sg_length (a : Tx) : (sg a).length = a.length := List.length_map _
theorem sg_get {a : Tx} {i : Nat} {v : V} (h : (sg a)[i]? = some v) : ∃ c, v = V.str ⟨#[c]⟩ := by
  unfold sg at h
  rw [List.getElem?_map] at h
  cases e : a[i]? with
  | none => rw [e] at h; cases h
  | some c => rw [e] at h; exact ⟨c, (Option.some.inj h).symm⟩
theorem sg_snoc (a : Tx) (c : Nat) : sg (a ++ [c]) = sg a ++ [V.str ⟨#[c]⟩] := sg_append a [c]
theorem sg_signs (l : Tx) : signsV (strL l) = sg l := rfl
theorem strL_length (l : Tx) : (strL l).length = l.length := rfl
theorem strL_append (a b : Tx) : strL a ++ strL b = strL (a ++ b) := by
  apply Str.ext'
  show a.toArray ++ b.toArray = (a ++ b).toArray
  simp
theorem strL_of (x : Str) : x = strL x.cps.toList := Str.ext' (by simp [strL])
theorem strL_inj {a b : Tx} (h : strL a = strL b) : a = b := by
  have := congrArg (fun s : Str => s.cps.toList) h
  simpa [strL] using this
/-- the one-sign texts of a text, put together -/
def ones (l : Tx) : List Str := l.map fun c => ⟨#[c]⟩
theorem sg_ones (l : Tx) : sg l = (ones l).map V.str := by simp [sg, ones]
theorem ones_sum (l : Tx) : ((ones l).map (·.length)).sum = l.length := by
  induction l with
  | nil => rfl
  | cons c l ih =>
    show (⟨#[c]⟩ : Str).length + ((ones l).map (·.length)).sum = _
    rw [ih, List.length_cons]
    show 1 + l.length = _
    omega
theorem join_ones : ∀ l : Tx, Str.join "" (ones l) = strL l
  | [] => rfl
  | [c] => rfl
  | c :: d :: l => by
    show (⟨#[c]⟩ : Str) ++ "" ++ Str.join "" (ones (d :: l)) = _
    rw [join_ones (d :: l)]
    show strL [c] ++ strL [] ++ strL (d :: l) = _
    rw [strL_append, strL_append]
    rfl

theorem cutV_to (xs : List V) (k : Nat) : cutV xs none (some (k : Int)) = xs.take k := by
  unfold cutV
  rw [HT.sIx_none, HT.sIx_nat, List.drop_zero, Nat.sub_zero]
  by_cases h : k ≤ xs.length
  · rw [Nat.min_eq_left h]
  · rw [Nat.min_eq_right (by omega), List.take_of_length_le (Nat.le_refl _), List.take_of_length_le (by omega)]
theorem cutV_from (xs : List V) (k : Nat) : cutV xs (some (k : Int)) none = xs.drop k := by
  unfold cutV
  rw [HT.sIx_none, HT.sIx_nat]
  by_cases h : k ≤ xs.length
  · rw [Nat.min_eq_left h, List.take_of_length_le (by rw [List.length_drop]; omega)]
  · rw [Nat.min_eq_right (by omega), List.drop_of_length_le (Nat.le_refl _), List.drop_of_length_le (by omega), List.take_nil]
theorem cutV_both (xs : List V) (j k : Nat) : cutV xs (some (j : Int)) (some (k : Int)) = (xs.drop j).take (min k xs.length - min j xs.length) := by
  unfold cutV
  rw [HT.sIx_nat, HT.sIx_nat]
  by_cases h : j ≤ xs.length
  · rw [Nat.min_eq_left h]
  · rw [Nat.min_eq_right (by omega : xs.length ≤ j), List.drop_of_length_le (Nat.le_refl _), List.drop_of_length_le (by omega), List.take_nil]
theorem cutS_to (l : Tx) (k : Nat) : cutS (strL l) none (some (k : Int)) = strL (l.take k) := by
  unfold cutS
  rw [HT.sIx_none, HT.sIx_nat, List.drop_zero, Nat.sub_zero]
  show strL (l.take (min k l.length)) = _
  congr 1
  by_cases h : k ≤ l.length
  · rw [Nat.min_eq_left h]
  · rw [Nat.min_eq_right (by omega), List.take_of_length_le (Nat.le_refl _), List.take_of_length_le (by omega)]
theorem cutS_from (l : Tx) (k : Nat) : cutS (strL l) (some (k : Int)) none = strL (l.drop k) := by
  unfold cutS
  rw [HT.sIx_none, HT.sIx_nat]
  show strL ((l.drop (min k l.length)).take (l.length - min k l.length)) = _
  congr 1
  by_cases h : k ≤ l.length
  · rw [Nat.min_eq_left h, List.take_of_length_le (by rw [List.length_drop]; omega)]
  · rw [Nat.min_eq_right (by omega), List.drop_of_length_le (Nat.le_refl _), List.drop_of_length_le (by omega), List.take_nil]

/-! ### a bench: x ahead of the hand, y behind it, g free cells -/
def cells (x y : Tx) (g : Nat) : List V := sg x ++ List.replicate g V.non ++ sg y
def BenchAt (H : Hp) (t : Addr) (x y : Tx) (g : Nat) : Prop := ∃ c, H t = some (.tup [.ref c, .int ((x.length : Nat) : Int), .int ((x.length + g : Nat) : Int)]) ∧ H c = some (.lst (cells x y g))
theorem BenchAt.mono {H H' : Hp} {t : Addr} {x y : Tx} {g : Nat} (s : Same H H') (h : BenchAt H t x y g) : BenchAt H' t x y g := by
  obtain ⟨c, h1, h2⟩ := h
  exact ⟨c, s _ _ h1, s _ _ h2⟩
theorem BenchAt.of {H : Hp} {t c : Addr} {x y : Tx} {g : Nat} {i j : Int} (h1 : H t = some (.tup [.ref c, .int i, .int j])) (h2 : H c = some (.lst (sg x ++ List.replicate g V.non ++ sg y))) (ei : i = (x.length : Int)) (ej : j = ((x.length + g : Nat) : Int)) : BenchAt H t x y g := by
  subst ei ej
  exact ⟨c, h1, h2⟩
theorem cells_length (x y : Tx) (g : Nat) : (cells x y g).length = x.length + g + y.length := by
  simp [cells, sg_length]
  omega
theorem cells_take (x y : Tx) (g : Nat) : (cells x y g).take x.length = sg x := by
  unfold cells
  rw [List.append_assoc, List.take_append_of_le_length (by rw [sg_length]; omega), List.take_of_length_le (by rw [sg_length]; omega)]
theorem cells_drop (x y : Tx) (g : Nat) : (cells x y g).drop (x.length + g) = sg y := by
  unfold cells
  rw [List.drop_append_of_le_length (by simp [sg_length]), List.drop_of_length_le (by simp [sg_length]), List.nil_append]
theorem cells_at {x y : Tx} {g i : Nat} {v : V} (h : (cells x y g)[i]? = some v) : v = .non ∨ ∃ c, v = .str ⟨#[c]⟩ := by
  have hm := List.mem_of_getElem? h
  unfold cells at hm
  rcases List.mem_append.mp hm with hm | hm
  · rcases List.mem_append.mp hm with hm | hm
    · obtain ⟨i, e⟩ := List.mem_iff_getElem?.mp hm
      exact .inr (sg_get e)
    · exact .inl (List.eq_of_mem_replicate hm)
  · obtain ⟨i, e⟩ := List.mem_iff_getElem?.mp hm
    exact .inr (sg_get e)
theorem sg_filter (l : Tx) : (sg l).filter (fun v => !decide (v = V.non)) = sg l := by
  apply List.filter_eq_self.mpr
  intro v hv
  obtain ⟨i, e⟩ := List.mem_iff_getElem?.mp hv
  obtain ⟨c, rfl⟩ := sg_get e
  simp
theorem cells_signs (x y : Tx) (g : Nat) : (cells x y g).filter (fun v => !decide (v = V.non)) = sg (x ++ y) := by
  unfold cells
  rw [List.filter_append, List.filter_append, sg_filter, sg_filter, sg_append]
  have : (List.replicate g V.non).filter (fun v => !decide (v = V.non)) = [] := by
    rw [List.filter_eq_nil_iff]
    intro v hv
    rw [List.eq_of_mem_replicate hv]
    simp
  rw [this, List.append_nil]
/-- how a bench grows: n cells, m signs to lie on it -/
def grow (n m : Nat) : Nat := if m ≤ n then n else grow (n + n + 4) m
termination_by m - n
theorem grow_stop {n m : Nat} (h : m ≤ n) : grow n m = n := by rw [grow, if_pos h]
theorem grow_step {n m : Nat} (h : n < m) : grow n m = grow (n + n + 4) m := by rw [grow, if_neg (by omega)]
theorem grow_ge (n m : Nat) : m ≤ grow n m ∧ n ≤ grow n m := by
  rcases Nat.lt_or_ge n m with h | h
  · rw [grow_step h]
    have := grow_ge (n + n + 4) m
    omega
  · rw [grow_stop h]; omega
termination_by m - n
theorem grow_le (n m : Nat) : grow n m ≤ max n (m + m + 2) := by
  rcases Nat.lt_or_ge n m with h | h
  · rw [grow_step h]
    have := grow_le (n + n + 4) m
    omega
  · rw [grow_stop h]; omega
termination_by m - n
theorem rep_non (k : Nat) : (List.replicate k [V.non]).flatten = List.replicate k V.non := by
  induction k with
  | zero => rfl
  | succ k ih => rw [List.replicate_succ, List.flatten_cons, ih, List.replicate_succ]; rfl
end Gb
namespace L2
open PySem PySem.Spec PyProof.Rows
theorem Same.put {H H2 : Hp} {p : Addr} {o : HO} (s : Same H H2) (f : H p = none) : Same H (upd H2 p o) := fun b o' e => by rw [upd_ne (ne_of_none e f)]; exact s b o' e
def rLen (K : PySem.W.Frag) : List V → Hp → VK → Prop := fun xs H Q => ∃ x n, xs = [x] ∧ LenV K x H n ∧ Q (.int (n : Nat)) H
theorem call_lenK {X : Cx} {K : PySem.W.Frag} (hK : X.K = K) : CallR X (.builtin "len") (rLen K) := by subst hK; exact call_len
/-- a comprehension's block without free names -/
theorem CompSc.plain {X : Cx} {scope : Scope} {x : Str} (hfree : ∀ y ∈ scope.names, y.2 ≠ .free) (nocell : ∀ y ∈ scope.names, y.2 ≠ .cell) (kind : scope.kind = .function)
    (names : ∀ y ∈ scope.names, y.2 = .local → scope.names.lookup y.1 = some .local) (xl : scope.names.lookup x = some .local) : CompSc X scope [] [x] x [] where
  clos := closureFor_none hfree
  nocell := nocell
  kind := kind
  names := names
  xl := xl
  sub := fun y c e => nomatch e
  has := fun y h => by
    have e : (relabel scope X.env).names = scope.names := map_eq_self fun z hz => by
      obtain ⟨n, k⟩ := z
      have : (k == NameKind.free) = false := by simpa using hfree _ hz
      simp [this]
    rw [e] at h
    rcases h with h | h
    · exact absurd rfl (nocell _ (PySem.mem_of_lookup h))
    · exact absurd rfl (hfree _ (PySem.mem_of_lookup h))
  N0 := rfl
  nd := by simp
  len := rfl
  fr := fun i j y e => by simp at e
theorem cut_ints (ns : List Int) (lo hi : Option Int) : ∃ ms : List Int, cutV (ns.map V.int) lo hi = ms.map V.int ∧ ms.length ≤ ns.length := by
  refine ⟨(ns.drop (HT.sIx ns.length 0 lo)).take (HT.sIx ns.length ns.length hi - HT.sIx ns.length 0 lo), ?_, ?_⟩
  · unfold cutV
    rw [List.length_map, List.map_take, List.map_drop]
  · rw [List.length_take, List.length_drop]; omega
end L2
namespace Gb
open PySem L2 GbM
theorem split_strs (l : Tx) : Txt.split (strL l) "/" = (splitL 47 l).map strL := by
  have h := split_eq (strL l) 47 (by decide)
  have hl : (strL l).cps.toList = l := by simp [strL]
  rw [hl] at h
  rw [← h, List.map_map]
  have e : (strL ∘ fun x : Str => x.cps.toList) = id := by
    funext x
    exact (strL_of x).symm
  rw [e, List.map_id]
  rfl
theorem split_rows (l : Tx) : (Txt.split (strL l) "/").map V.str = (splitL 47 l).map fun r => V.str (strL r) := by
  rw [split_strs, List.map_map]
  rfl
theorem splitL_count (c : Nat) (l : Tx) : (splitL c l).length ≤ l.length + 1 := by
  have h := splitL_wsum c l
  have : ∀ rs : List (List Nat), rs.length ≤ wsum rs := by
    intro rs
    induction rs with
    | nil => exact Nat.le_refl _
    | cons r rs ih =>
      show rs.length + 1 ≤ r.length + 1 + wsum rs
      omega
  have := this (splitL c l)
  omega
theorem splitL_le (c : Nat) (l : Tx) (r : List Nat) (hr : r ∈ splitL c l) : r.length ≤ l.length := by
  have h := splitL_wsum c l
  have : ∀ rs : List (List Nat), ∀ r ∈ rs, r.length + 1 ≤ wsum rs := by
    intro rs
    induction rs with
    | nil => intro r hr; cases hr
    | cons q rs ih =>
      intro r hr
      show r.length + 1 ≤ q.length + 1 + wsum rs
      rcases List.mem_cons.mp hr with rfl | hr
      · omega
      · have := ih r hr; omega
  have := this _ r hr
  omega
theorem rows_sum (l : Tx) : (((splitL 47 l).map strL).map (·.length)).sum ≤ l.length + 1 := by
  have h := splitL_wsum 47 l
  have : ∀ rs : List (List Nat), ((rs.map strL).map (·.length)).sum ≤ wsum rs := by
    intro rs
    induction rs with
    | nil => exact Nat.le_refl _
    | cons q rs ih =>
      show (strL q).length + ((rs.map strL).map (·.length)).sum ≤ q.length + 1 + wsum rs
      rw [strL_length]
      omega
  have := this (splitL 47 l)
  omega
theorem wsum_int (rs : List (List Nat)) : (rs.map (fun r => (r.length : Int) + 1)).sum = ((wsum rs : Nat) : Int) := by
  induction rs with
  | nil => rfl
  | cons r rs ih =>
    show (r.length : Int) + 1 + (rs.map (fun r => (r.length : Int) + 1)).sum = ((r.length + 1 + wsum rs : Nat) : Int)
    rw [ih]
    omega
/-- the first place of a row, None where there is none -/
def firstL (l : Tx) (i : Int) : V := if 0 ≤ i ∧ i < ((splitL 47 l).length : Int) then V.int (wsum ((splitL 47 l).take i.toNat) : Nat) else V.non
theorem firstL_row (l : Tx) (p : Nat) : firstL l ((rowN 47 l p : Nat) : Int) = V.int (rowF 47 l p : Nat) := by
  obtain ⟨h1, h2⟩ := row_whole 47 l p
  unfold firstL
  rw [if_pos ⟨by omega, by omega⟩, Int.toNat_natCast, h2]
end Gb

set_option Elab.async false
set_option linter.all false
set_option maxRecDepth 100000
set_option maxHeartbeats 4000000
namespace L2
open PySem PySem.Spec PyProof.Rows
theorem turn_long {P : Program} {w : World} {K : PySem.W.Frag} {tg : Expr} (it : Addr) (lo : Int) (n : Nat) : Turn P w K tg (Itr lo n) [it] it (fun i h => IsLongIter h it (lo + (i : Nat) * 1) ((n : Int) - (i : Nat)) 1) where
  mem := by simp
  obj := fun i h st b hb => by
    have e : b = it := by simpa using hb
    subst e
    exact ⟨_, st, fun v z => by
      have z' : Data.fields _ = Data.cell v := z
      cases z'⟩
  keep := fun i h h' st k => k it (by simp) _ st
  item := by
    intro X hP hw hK hc i pins s σ H E I hf st hg
    subst hP hw hK
    obtain ⟨f0, f1, f2, f3, f4, f5⟩ := hf it (by simp)
    have W := Walks.longrange (prog := X.prog) (w := X.w) (I.ok.hd hc) it lo 1 n
    refine W.item i s _ _ hg st fun v h' tk hv st' kk => ?_
    obtain ⟨t, rfl⟩ := hv
    have I1 : Inv X pins σ H { s with heap := h', toks := tk } := I.turned (fun b o hb e => kk b o (by simpa using hb) e) f0 f1 f3 f4 f5
    refine ⟨_, rfl, go_of (s := { s with heap := h', toks := tk }) (n := "longrange_iterator") st' rfl rfl (by decide) ⟨.int (lo + i), H, I1, ⟨t, ?_⟩, ⟨rfl, rfl⟩, st', fun b hb => (hf b hb).1⟩⟩
    rw [Int.mul_one]
  done := by
    intro X hP hw hK hc i pins s σ H E I hf st hg
    subst hP hw hK
    obtain ⟨f0, f1, f2, f3, f4, f5⟩ := hf it (by simp)
    exact wpAny_pyNext_long_end (I.ok.hd hc) st (by have : n ≤ i := hg; omega) fun h' eb => ⟨rfl, I.turned (t' := s.toks) (fun b o hb e => eb b o hb e) f0 f1 f3 f4 f5⟩
  self := fun _ _ _ _ _ st h => wpAny_pyIter_longiter st h
section
variable {X : Cx} {tg : Expr}
theorem range_itL {pins : List (Addr × Obj)} {σ : St} {H : Hp} {s : Shared} {R : It → Hp → Prop} {E : Value → Shared → Prop} {hi : Int} {t u v : Tok} {tk : Nat} (I : Inv X pins σ H s) (hb : Builtin.Range.small 0 hi 1 = false)
    (q : R (Itr 0 hi.toNat) H) : wpAny (model X.prog X.w) X.A (pyIter (.ref s.heap.objs.size)) (PIE X pins σ tg R) E { s with heap := s.heap.push { cls := .type "range", data := .fields #[.int 0 t, .int hi u, .int 1 v] }, toks := tk } := by
  refine wpAny_pyIter_longrange (IsRange.new ..) hb ?_
  have I1 : Inv X pins σ H { s with heap := s.heap.push { cls := .type "range", data := .fields #[.int 0 t, .int hi u, .int 1 v] }, toks := tk } := I.kept fun b o e => Heap.get?_push_of_some _ e
  refine ⟨(s.heap.push { cls := .type "range", data := .fields #[.int 0 t, .int hi u, .int 1 v] }).objs.size, [(s.heap.push { cls := .type "range", data := .fields #[.int 0 t, .int hi u, .int 1 v] }).objs.size], _, _, H, rfl,
    I1.kept (t' := tk) fun b o e => Heap.get?_push_of_some _ e, turn_long _ 0 hi.toNat, ?_, fun b hb => ?_, q⟩
  · have e1 : (0 : Int) + ((0 : Nat) : Int) * 1 = 0 := by simp
    have e2 : ((hi.toNat : Nat) : Int) - ((0 : Nat) : Int) = Builtin.Range.rangeSize 0 hi 1 := by rw [rangeSize_one]; split <;> omega
    show IsLongIter _ _ ((0 : Int) + ((0 : Nat) : Int) * 1) (((hi.toNat : Nat) : Int) - ((0 : Nat) : Int)) 1
    rw [e1, e2]
    exact Heap.get?_push_size _ rfl
  · have e : b = (s.heap.push { cls := .type "range", data := .fields #[.int 0 t, .int hi u, .int 1 v] }).objs.size := by simpa using hb
    subst e
    exact I1.fpOk (Nat.le_refl _) (I1.hok.fresh (Nat.le_refl _))
theorem range_itS {pins : List (Addr × Obj)} {σ : St} {H : Hp} {s : Shared} {R : It → Hp → Prop} {E : Value → Shared → Prop} {hi : Int} {t u v : Tok} {tk : Nat} (I : Inv X pins σ H s) (hb : Builtin.Range.small 0 hi 1 = true)
    (q : R (Itr 0 hi.toNat) H) : wpAny (model X.prog X.w) X.A (pyIter (.ref s.heap.objs.size)) (PIE X pins σ tg R) E { s with heap := s.heap.push { cls := .type "range", data := .fields #[.int 0 t, .int hi u, .int 1 v] }, toks := tk } := by
  refine wpAny_pyIter_range (IsRange.new ..) hb ?_
  have I1 : Inv X pins σ H { s with heap := s.heap.push { cls := .type "range", data := .fields #[.int 0 t, .int hi u, .int 1 v] }, toks := tk } := I.kept fun b o e => Heap.get?_push_of_some _ e
  refine ⟨(s.heap.push { cls := .type "range", data := .fields #[.int 0 t, .int hi u, .int 1 v] }).objs.size, [(s.heap.push { cls := .type "range", data := .fields #[.int 0 t, .int hi u, .int 1 v] }).objs.size], _, _, H, rfl,
    I1.kept (t' := tk) fun b o e => Heap.get?_push_of_some _ e, turn_range _ 0 hi.toNat, ?_, fun b hb => ?_, q⟩
  · have e1 : (0 : Int) + ((0 : Nat) : Int) * 1 = 0 := by simp
    have e2 : ((hi.toNat : Nat) : Int) - ((0 : Nat) : Int) = Builtin.Range.rangeSize 0 hi 1 := by rw [rangeSize_one]; split <;> omega
    show IsRangeIter _ _ ((0 : Int) + ((0 : Nat) : Int) * 1) (((hi.toNat : Nat) : Int) - ((0 : Nat) : Int)) 1
    rw [e1, e2]
    exact Heap.get?_push_size _ rfl
  · have e : b = (s.heap.push { cls := .type "range", data := .fields #[.int 0 t, .int hi u, .int 1 v] }).objs.size := by simpa using hb
    subst e
    exact I1.fpOk (Nat.le_refl _) (I1.hok.fresh (Nat.le_refl _))
/-- range(j), j any int -/
def iRngL (ta : TA) : TI := fun σ H R => ta σ H fun vs H1 => ∃ j : Int, vs = [.int j] ∧ R (Itr 0 j.toNat) H1
theorem pi_rangeL {a : Expr} {ta : TA} {p pos : Pos} (hg : Gl X "range") (hm : X.mg "range" = none) (ha : PA X [a] ta) (hs : starEach [a] X.env = [(false, eval a X.env)] := by rfl) : PI X tg (.Call (.Name "range" p) [a] [] pos) (iRngL ta) := by
  intro pins s σ H R I h
  refine Call_ (ld_blt I hg hm boot_range (PyProof.Rows.callWith_type1 (thn (ha pos pins s σ H _ I h) fun us s1 ⟨vs, H1, I1, r1, q1⟩ => ?_) hs rfl))
  obtain ⟨j, e, q⟩ := q1
  subst e
  cases r1 with
  | cons r rr =>
    cases rr
    obtain ⟨t, rfl⟩ := r
    cases hb : Builtin.Range.small 0 j 1 with
    | true => exact call_range_1 (range_itS I1 hb q)
    | false => exact call_range_1 (range_itL I1 hb q)
end
end L2

set_option Elab.async false
set_option linter.all false
set_option maxRecDepth 100000
set_option maxHeartbeats 4000000
namespace GbM
theorem wsum_take_le (c : Nat) (l : List Nat) {r : Nat} (h : r < (splitL c l).length) : wsum ((splitL c l).take r) ≤ l.length := by
  have h1 := splitL_wsum c l
  have h2 : wsum ((splitL c l).take r) + wsum ((splitL c l).drop r) = wsum (splitL c l) := by rw [← wsum_append, List.take_append_drop]
  have h3 : 1 ≤ wsum ((splitL c l).drop r) := by
    rw [List.drop_eq_getElem_cons h]
    show 1 ≤ _ + 1 + wsum _
    omega
  omega
inductive Deed where
  | put (z : List Nat)
  | rub (n : Nat)
  | clear (n : Nat)
  | go (p : Int)
  | row (r : Int)
  | undo
abbrev Sta := List Nat × Nat
/-- what a deed makes of a text, the hand and what can be undone -/
def dstep (t : List Nat) (h : Nat) (past : List Sta) : Deed → Option (Sta × List Sta)
  | .put z => some ((t.take h ++ z ++ t.drop h, h + z.length), past ++ [(t, h)])
  | .rub n => if n ≤ h then some ((t.take (h - n) ++ t.drop h, h - n), past ++ [(t, h)]) else none
  | .clear n => if n ≤ t.length - h then some ((t.take h ++ t.drop (h + n), h), past ++ [(t, h)]) else none
  | .go p => if 0 ≤ p ∧ p ≤ t.length then some ((t, p.toNat), past) else none
  | .row r => if 0 ≤ r ∧ r < (splitL 47 t).length then some ((t, wsum ((splitL 47 t).take r.toNat)), past) else none
  | .undo => match past.getLast? with
    | some s => some (s, past.dropLast)
    | none => none
/-- a day: text, hand, past, cells -/
structure Dy where
  t : List Nat
  h : Nat
  past : List Sta
  N : Nat
def growD (n m : Nat) : Nat := if m ≤ n then n else growD (n + n + 4) m
termination_by m - n
theorem growD_stop {n m : Nat} (h : m ≤ n) : growD n m = n := by rw [growD, if_pos h]
theorem growD_step {n m : Nat} (h : n < m) : growD n m = growD (n + n + 4) m := by rw [growD, if_neg (by omega)]
theorem growD_ge (n m : Nat) : m ≤ growD n m ∧ n ≤ growD n m := by
  rcases Nat.lt_or_ge n m with h | h
  · rw [growD_step h]
    have := growD_ge (n + n + 4) m
    omega
  · rw [growD_stop h]; omega
termination_by m - n
theorem growD_le (n m : Nat) : growD n m ≤ max n (m + m + 2) := by
  rcases Nat.lt_or_ge n m with h | h
  · rw [growD_step h]
    have := growD_le (n + n + 4) m
    omega
  · rw [growD_stop h]; omega
termination_by m - n
def nx (s : Dy) (d : Deed) : Dy × Bool := match dstep s.t s.h s.past d with
  | some ((t, h), p) => (⟨t, h, p, growD s.N t.length⟩, true)
  | none => (s, false)
/-- how large a day may be: M bounds the texts, the past and half the cells -/
structure Fits (s : Dy) (M : Nat) : Prop where
  hand : s.h ≤ s.t.length
  cells : s.t.length ≤ s.N
  text : s.t.length ≤ M
  size : s.N ≤ M + M + 4
  many : s.past.length ≤ M
  old : ∀ q ∈ s.past, q.2 ≤ q.1.length ∧ q.1.length ≤ s.N ∧ q.1.length ≤ M
def okD : Deed → Prop
  | .put z => z.length ≤ 40
  | .rub n => n ≤ 1000000000
  | .clear n => n ≤ 1000000000
  | _ => True
theorem Fits.mono {s : Dy} {M M' : Nat} (f : Fits s M) (h : M ≤ M') : Fits s M' :=
  ⟨f.hand, f.cells, Nat.le_trans f.text h, by have := f.size; omega, Nat.le_trans f.many h, fun q hq => ⟨(f.old q hq).1, (f.old q hq).2.1, Nat.le_trans (f.old q hq).2.2 h⟩⟩
theorem Fits.of_step {s : Dy} {M : Nat} {t : List Nat} {h : Nat} {p : List Sta} (f : Fits s M) (h1 : h ≤ t.length) (h2 : t.length ≤ M + 40) (h3 : p.length ≤ M + 40)
    (h4 : ∀ q ∈ p, q.2 ≤ q.1.length ∧ q.1.length ≤ s.N ∧ q.1.length ≤ M) : Fits ⟨t, h, p, growD s.N t.length⟩ (M + 40) := by
  have g1 := growD_ge s.N t.length
  have g2 := growD_le s.N t.length
  have := f.size
  refine ⟨h1, g1.1, h2, by show growD s.N t.length ≤ _; omega, h3, fun q hq => ?_⟩
  obtain ⟨a, b, c⟩ := h4 q hq
  exact ⟨a, by show _ ≤ growD s.N t.length; omega, by omega⟩
theorem Fits.nx {s : Dy} {M : Nat} {d : Deed} (f : Fits s M) (hd : okD d) : Fits (nx s d).1 (M + 40) := by
  have hh := f.hand
  have ht := f.text
  have hm := f.many
  have hc := f.cells
  have old2 : ∀ q ∈ s.past ++ [(s.t, s.h)], q.2 ≤ q.1.length ∧ q.1.length ≤ s.N ∧ q.1.length ≤ M := fun q hq => by
    rcases List.mem_append.mp hq with hq | hq
    · exact f.old q hq
    · have e : q = (s.t, s.h) := by simpa using hq
      subst e
      exact ⟨hh, hc, ht⟩
  have l2 : (s.past ++ [(s.t, s.h)]).length ≤ M + 40 := by rw [List.length_append, List.length_singleton]; omega
  unfold GbM.nx
  cases hs : dstep s.t s.h s.past d with
  | none => exact f.mono (by omega)
  | some r =>
    obtain ⟨⟨t, h⟩, p⟩ := r
    show Fits ⟨t, h, p, growD s.N t.length⟩ (M + 40)
    cases d with
    | put z =>
      have hz : z.length ≤ 40 := hd
      cases hs
      refine f.of_step ?_ ?_ l2 old2
      · rw [List.length_append, List.length_append, List.length_take, List.length_drop]; omega
      · rw [List.length_append, List.length_append, List.length_take, List.length_drop]; omega
    | rub n =>
      simp only [dstep] at hs
      split at hs
      · cases hs
        refine f.of_step ?_ ?_ l2 old2
        · rw [List.length_append, List.length_take, List.length_drop]; omega
        · rw [List.length_append, List.length_take, List.length_drop]; omega
      · cases hs
    | clear n =>
      simp only [dstep] at hs
      split at hs
      · cases hs
        refine f.of_step ?_ ?_ l2 old2
        · rw [List.length_append, List.length_take, List.length_drop]; omega
        · rw [List.length_append, List.length_take, List.length_drop]; omega
      · cases hs
    | go p =>
      simp only [dstep] at hs
      split at hs
      · cases hs
        exact f.of_step (by omega) (by omega) (by omega) f.old
      · cases hs
    | row r =>
      simp only [dstep] at hs
      split at hs
      · rename_i hr
        cases hs
        exact f.of_step (wsum_take_le 47 s.t (by omega)) (by omega) (by omega) f.old
      · cases hs
    | undo =>
      cases hl : s.past.getLast? with
      | none => simp only [dstep, hl] at hs; cases hs
      | some q =>
        simp only [dstep, hl] at hs
        cases hs
        have hq : h ≤ t.length ∧ t.length ≤ s.N ∧ t.length ≤ M := f.old _ (List.mem_of_getLast? hl)
        refine f.of_step hq.1 (by omega) (by rw [List.length_dropLast]; omega) fun q hq => f.old q ((List.dropLast_sublist _).subset hq)
end GbM

set_option Elab.async false
set_option linter.all false
set_option maxRecDepth 100000
set_option maxHeartbeats 4000000
namespace Gb
open PySem L2 GbM
theorem grow_eq (n m : Nat) : grow n m = growD n m := by
  rcases Nat.lt_or_ge n m with h | h
  · rw [grow_step h, growD_step h, grow_eq (n + n + 4) m]
  · rw [grow_stop h, growD_stop h]
termination_by m - n
theorem iteN {c A B : Prop} [Decidable c] (hc : ¬ c) (h : B) : if decide c = true then A else B := by
  rw [if_neg (by simpa using hc)]; exact h
theorem iteY {c A B : Prop} [Decidable c] (hc : c) (h : A) : if decide c = true then A else B := by
  rw [if_pos (by simpa using hc)]; exact h
/-! ### benches by text, hand and cells -/
def BenchT (H : Hp) (p : Addr) (t : Tx) (h N : Nat) : Prop := h ≤ t.length ∧ t.length ≤ N ∧ BenchAt H p (t.take h) (t.drop h) (N - t.length)
theorem BenchT.mono {H H' : Hp} {p : Addr} {t : Tx} {h N : Nat} (s : Same H H') (b : BenchT H p t h N) : BenchT H' p t h N := ⟨b.1, b.2.1, b.2.2.mono s⟩
theorem BenchT.of {H : Hp} {p : Addr} {x y t : Tx} {g h N : Nat} (b : BenchAt H p x y g) (et : x ++ y = t) (eh : x.length = h) (e : x.length + g + y.length = N) : BenchT H p t h N := by
  subst et eh
  refine ⟨by rw [List.length_append]; omega, by rw [List.length_append]; omega, ?_⟩
  rw [List.take_left, List.drop_left, List.length_append]
  have : N - (x.length + y.length) = g := by omega
  rw [this]
  exact b
theorem BenchT.tk {H : Hp} {p : Addr} {t : Tx} {h N : Nat} (b : BenchT H p t h N) : (t.take h).length = h := by rw [List.length_take]; have := b.1; omega
theorem BenchT.dp {H : Hp} {p : Addr} {t : Tx} {h N : Nat} (b : BenchT H p t h N) : (t.drop h).length = t.length - h := List.length_drop
/-! ### states, deeds, lists of them -/
def StAt (H : Hp) (r : Addr) (s : Sta) : Prop := H r = some (.tup [.str (strL s.1), .int ((s.2 : Nat) : Int)])
def DeedAt (H : Hp) (r : Addr) : Deed → Prop
  | .put z => H r = some (.tup [.str "put", .str (strL z)])
  | .rub n => H r = some (.tup [.str "rub", .int ((n : Nat) : Int)])
  | .clear n => H r = some (.tup [.str "clear", .int ((n : Nat) : Int)])
  | .go p => H r = some (.tup [.str "go", .int p])
  | .row p => H r = some (.tup [.str "row", .int p])
  | .undo => H r = some (.tup [.str "undo"])
abbrev Sts (H : Hp) (rs : List Addr) (ss : List Sta) : Prop := Paired (StAt H) rs ss
abbrev Dds (H : Hp) (rs : List Addr) (ds : List Deed) : Prop := Paired (DeedAt H) rs ds
theorem StAt.tup {H : Hp} {r : Addr} {s : Sta} (h : StAt H r s) : ∃ xs, H r = some (.tup xs) := ⟨_, h⟩
theorem DeedAt.tup {H : Hp} {r : Addr} {d : Deed} (h : DeedAt H r d) : ∃ xs, H r = some (.tup xs) := by cases d <;> exact ⟨_, h⟩
/-- tuples stay -/
def TupSame (H H' : Hp) : Prop := ∀ b xs, H b = some (.tup xs) → H' b = some (.tup xs)
theorem Same.tups {H H' : Hp} (s : Same H H') : TupSame H H' := fun b xs e => s b _ e
theorem StAt.mono {H H' : Hp} {r : Addr} {s : Sta} (k : TupSame H H') (h : StAt H r s) : StAt H' r s := k _ _ h
theorem DeedAt.mono {H H' : Hp} {r : Addr} {d : Deed} (k : TupSame H H') (h : DeedAt H r d) : DeedAt H' r d := by cases d <;> exact k _ _ h
theorem sts_mono {H H' : Hp} {rs : List Addr} {ss : List Sta} (k : TupSame H H') (h : Sts H rs ss) : Sts H' rs ss := Paired.mapP h fun _ _ z => z.mono k
theorem dds_mono {H H' : Hp} {rs : List Addr} {ds : List Deed} (k : TupSame H H') (h : Dds H rs ds) : Dds H' rs ds := Paired.mapP h fun _ _ z => z.mono k
theorem paired_get {α β : Type} {F : α → β → Prop} : ∀ {as : List α} {bs : List β} {i : Nat} {b : β}, Paired F as bs → bs[i]? = some b → ∃ a, as[i]? = some a ∧ F a b
  | _, _, _, _, .nil, e => by simp at e
  | _, _, 0, _, .cons r _, e => by simp at e; subst e; exact ⟨_, rfl, r⟩
  | _, _, i + 1, b, .cons _ t, e => by
    obtain ⟨u, h1, h2⟩ := paired_get (i := i) (b := b) t (by simpa using e)
    exact ⟨u, by simpa using h1, h2⟩
theorem paired_get' {α β : Type} {F : α → β → Prop} : ∀ {as : List α} {bs : List β} {i : Nat} {a : α}, Paired F as bs → as[i]? = some a → ∃ b, bs[i]? = some b ∧ F a b
  | _, _, _, _, .nil, e => by simp at e
  | _, _, 0, _, .cons r _, e => by simp at e; subst e; exact ⟨_, rfl, r⟩
  | _, _, i + 1, b, .cons _ t, e => by
    obtain ⟨u, h1, h2⟩ := paired_get' (i := i) (a := b) t (by simpa using e)
    exact ⟨u, by simpa using h1, h2⟩
theorem paired_append {α β : Type} {F : α → β → Prop} : ∀ {as cs : List α} {bs ds : List β}, Paired F as bs → Paired F cs ds → Paired F (as ++ cs) (bs ++ ds)
  | _, _, _, _, .nil, h => h
  | _, _, _, _, .cons r t, h => .cons r (paired_append t h)
theorem paired_dropLast {α β : Type} {F : α → β → Prop} : ∀ {as : List α} {bs : List β}, Paired F as bs → Paired F as.dropLast bs.dropLast
  | _, _, .nil => .nil
  | _, _, .cons r .nil => .nil
  | _, _, .cons r (.cons q t) => .cons r (paired_dropLast (.cons q t))
theorem paired_last {α β : Type} {F : α → β → Prop} {as : List α} {bs : List β} {b : β} (h : Paired F as bs) (e : bs.getLast? = some b) : ∃ a, as[as.length - 1]? = some a ∧ F a b := by
  rw [List.getLast?_eq_getElem?] at e
  rw [h.length]
  exact paired_get h e
/-! ### a day -/
def flds (bt pl : Addr) : List (Str × V) := putF "past" (.ref pl) (putF "bench" (.ref bt) [])
theorem bp : ¬ (("bench" : Str) = "past") := by decide +kernel
theorem flds_eq (bt pl : Addr) : flds bt pl = ([("bench", V.ref bt), ("past", V.ref pl)] : List (Str × V)) := by
  show (if ("bench" : Str) = "past" then [(("bench" : Str), V.ref pl)] else (("bench" : Str), V.ref bt) :: putF "past" (V.ref pl) []) = _
  rw [if_neg bp]
  all_goals rfl
theorem flds_bench (bt pl : Addr) : (flds bt pl).lookup ("bench" : Str) = some (.ref bt) := by
  unfold flds
  rw [lookup_putF, if_neg bp, lookup_putF, if_pos rfl]
theorem flds_past (bt pl : Addr) : (flds bt pl).lookup ("past" : Str) = some (.ref pl) := by
  unfold flds
  rw [lookup_putF, if_pos rfl]
theorem flds_no (bt pl : Addr) {m : Str} (h1 : ¬ m = "past") (h2 : ¬ m = "bench") : (flds bt pl).lookup m = none := by
  unfold flds
  rw [lookup_putF, if_neg h1, lookup_putF, if_neg h2]
  all_goals rfl
theorem flds_put (bt b2 pl : Addr) : putF "bench" (.ref b2) (flds bt pl) = flds b2 pl := by
  rw [flds_eq, flds_eq]
  show (if ("bench" : Str) = "bench" then _ else _) = _
  rw [if_pos rfl]
def DayAt (C : Addr) (H : Hp) (d pl : Addr) (s : Dy) : Prop := ∃ (dx bt : Addr) (rs : List Addr), 0 < s.N ∧ H d = some (.ins C dx (flds bt pl)) ∧ BenchT H bt s.t s.h s.N ∧ H pl = some (.lst (rs.map V.ref)) ∧ Sts H rs s.past
/-- all else is as it was -/
def But (d pl : Addr) (H H' : Hp) : Prop := ∀ b o, H b = some o → b ≠ d → b ≠ pl → H' b = some o
theorem But.refl (d pl : Addr) (H : Hp) : But d pl H H := fun _ _ e _ _ => e
theorem But.of {d pl : Addr} {H H' : Hp} (s : Same H H') : But d pl H H' := fun b o e _ _ => s b o e
theorem But.trans {d pl : Addr} {H H1 H2 : Hp} (a : But d pl H H1) (b : But d pl H1 H2) : But d pl H H2 := fun c o e h1 h2 => b c o (a c o e h1 h2) h1 h2
theorem But.updD {d pl : Addr} {H : Hp} {o : HO} : But d pl H (upd H d o) := fun b o' e h1 _ => by rw [upd_ne h1]; exact e
theorem But.updP {d pl : Addr} {H : Hp} {o : HO} : But d pl H (upd H pl o) := fun b o' e _ h2 => by rw [upd_ne h2]; exact e
theorem DayAt.tups {C : Addr} {H H' : Hp} {d pl : Addr} {s : Dy} (D : DayAt C H d pl s) (k : But d pl H H') : TupSame H H' := fun b xs e => by
  obtain ⟨dx, bt, rs, _, h1, _, h3, _⟩ := D
  exact k b _ e (ne_of e h1 (by intro z; cases z)) (ne_of e h3 (by intro z; cases z))
/-- what was there ahead of the day is as it was -/
theorem Same.but {H0 H H' : Hp} {d pl : Addr} (s : Same H0 H) (f1 : H0 d = none) (f2 : H0 pl = none) (k : But d pl H H') : Same H0 H' := fun b o e => k b o (s b o e) (ne_of_none e f1) (ne_of_none e f2)
/-! ### a day by its deeds -/
def day0 : Dy := ⟨[], 0, [], 4⟩
def En (ds : List Deed) (i : Nat) : Dy := (ds.take i).foldl (fun s d => (nx s d).1) day0
theorem En_zero (ds : List Deed) : En ds 0 = day0 := by unfold En; rw [List.take_zero]; rfl
theorem En_succ {ds : List Deed} {i : Nat} {d : Deed} (h : ds[i]? = some d) : En ds (i + 1) = (nx (En ds i) d).1 := by
  unfold En
  rw [List.take_add_one, h, Option.toList_some, List.foldl_append]
  rfl
theorem En_fits {ds : List Deed} (hd : ∀ d ∈ ds, okD d) : ∀ i, Fits (En ds i) (40 * i)
  | 0 => by
    rw [En_zero]
    exact ⟨Nat.le_refl _, by decide, Nat.le_refl _, by decide, Nat.le_refl _, fun q hq => by cases hq⟩
  | i + 1 => by
    have ih := En_fits hd i
    cases e : ds[i]? with
    | none =>
      have e2 : En ds (i + 1) = En ds i := by
        unfold En
        have hl := List.getElem?_eq_none_iff.mp e
        rw [List.take_of_length_le hl, List.take_of_length_le (by omega)]
      rw [e2]
      exact ih.mono (by omega)
    | some d =>
      rw [En_succ e]
      exact (ih.nx (hd d (List.mem_of_getElem? e))).mono (by omega)
def view (s : Dy) : Sta := (s.t, s.h)
def stsL (ds : List Deed) (i : Nat) : List Sta := (List.range i).map fun j => view (En ds (j + 1))
theorem stsL_succ (ds : List Deed) (i : Nat) : stsL ds (i + 1) = stsL ds i ++ [view (En ds (i + 1))] := by
  unfold stsL
  rw [List.range_succ, List.map_append]
  rfl
def ansL (ds : List Deed) (i : Nat) : List Bool := (List.range i).map fun j => (nx (En ds j) (ds.getD j .undo)).2
theorem ansL_succ {ds : List Deed} {i : Nat} {d : Deed} (h : ds[i]? = some d) : ansL ds (i + 1) = ansL ds i ++ [(nx (En ds i) d).2] := by
  unfold ansL
  rw [List.range_succ, List.map_append]
  have e : ds.getD i .undo = d := by rw [List.getD_eq_getElem?_getD, h]; rfl
  show _ ++ [(nx (En ds i) (ds.getD i .undo)).2] = _
  rw [e]
theorem stsL_get {ds : List Deed} {n i : Nat} (h : i < n) : (stsL ds n)[i]? = some (view (En ds (i + 1))) := by
  unfold stsL
  rw [List.getElem?_map, List.getElem?_range h]
  rfl
theorem ansL_get {ds : List Deed} {n i : Nat} {d : Deed} (h : i < n) (e : ds[i]? = some d) : (ansL ds n)[i]? = some (nx (En ds i) d).2 := by
  unfold ansL
  rw [List.getElem?_map, List.getElem?_range h]
  have e2 : ds.getD i .undo = d := by rw [List.getD_eq_getElem?_getD, e]; rfl
  show some (nx (En ds i) (ds.getD i .undo)).2 = _
  rw [e2]
theorem stsL_length (ds : List Deed) (i : Nat) : (stsL ds i).length = i := by simp [stsL]
theorem ansL_length (ds : List Deed) (i : Nat) : (ansL ds i).length = i := by simp [ansL]
theorem cells_not_refs {x y : Tx} {g : Nat} {rs : List Addr} (h : 0 < x.length + g + y.length) : cells x y g ≠ rs.map V.ref := fun e => by
  have hl := cells_length x y g
  obtain ⟨v, hv⟩ : ∃ v, (cells x y g)[0]? = some v := ⟨_, List.getElem?_eq_getElem (by omega)⟩
  have hv2 := hv
  rw [e, List.getElem?_map] at hv2
  cases er : rs[0]? with
  | none => rw [er] at hv2; cases hv2
  | some r =>
    rw [er] at hv2
    have hv3 : v = V.ref r := (Option.some.inj hv2).symm
    rcases cells_at hv with rfl | ⟨c, rfl⟩
    · cases hv3
    · cases hv3
theorem BenchT.but {H H' : Hp} {p d pl C dx : Addr} {fs : List (Str × V)} {rs : List Addr} {t : Tx} {h N : Nat} (b : BenchT H p t h N) (hN : 0 < N) (h1 : H d = some (.ins C dx fs)) (h3 : H pl = some (.lst (rs.map V.ref))) (k : But d pl H H') : BenchT H' p t h N := by
  have e1 := b.tk
  have e2 := b.dp
  obtain ⟨b1, b2, c, q1, q2⟩ := b
  refine ⟨b1, b2, c, k _ _ q1 (ne_of q1 h1 (by intro z; cases z)) (ne_of q1 h3 (by intro z; cases z)), k _ _ q2 (ne_of q2 h1 (by intro z; cases z)) (ne_of q2 h3 fun z => ?_)⟩
  injection z with z'
  exact cells_not_refs (by omega) z'
def isCh : Deed → Bool
  | .put _ => true
  | .rub _ => true
  | .clear _ => true
  | _ => false
theorem step_past {t : Tx} {h : Nat} (past : List Sta) {d : Deed} (hd : d ≠ .undo) : dstep t h past d = (dstep t h [] d).map fun r => (r.1, past ++ r.2) := by
  cases d with
  | put z => rfl
  | rub n => simp only [dstep]; split <;> simp
  | clear n => simp only [dstep]; split <;> simp
  | go p => simp only [dstep]; split <;> simp
  | row r => simp only [dstep]; split <;> simp
  | undo => exact absurd rfl hd
theorem step_new {t : Tx} {h : Nat} {d : Deed} {s : Sta} {q : List Sta} (e : dstep t h [] d = some (s, q)) (hd : d ≠ .undo) : q = if isCh d then [(t, h)] else [] := by
  cases d with
  | put z => cases e; rfl
  | rub n => simp only [dstep] at e; split at e <;> cases e; rfl
  | clear n => simp only [dstep] at e; split at e <;> cases e; rfl
  | go p => simp only [dstep] at e; split at e <;> cases e; rfl
  | row r => simp only [dstep] at e; split at e <;> cases e; rfl
  | undo => exact absurd rfl hd
/-- what bench_after hands back -/
def BA (t : Tx) (h N : Nat) (d : Deed) (v : V) (H' : Hp) : Prop := match dstep t h [] d with
  | none => v = .non
  | some (s', _) => ∃ p, v = .ref p ∧ BenchT H' p s'.1 s'.2 (growD N s'.1.length)
end Gb
namespace L2
open PySem PySem.Spec PyProof.Rows
/-- a comprehension's block with one free name -/
theorem CompSc.one {X : Cx} {scope : Scope} {x y : Str} {j : Nat} {c : Addr} {L : List (Str × NameKind)} (clos : closureFor scope X.env = pure [(y, c)]) (hcell : X.env.cells.lookup y = some c) (nocell : ∀ y ∈ scope.names, y.2 ≠ .cell) (kind : scope.kind = .function)
    (names : ∀ y ∈ scope.names, y.2 = .local → scope.names.lookup y.1 = some .local) (xl : scope.names.lookup x = some .local) (hyN : X.N[j]? = some y) (hk : X.env.scope.names.lookup y = some .cell) (hL : (relabel scope X.env).names = L)
    (hLy : (∀ p ∈ L, (p.2 = .cell ∨ p.2 = .free) → p.1 = y) ∧ L.lookup y = some .cell) (hx : x ≠ y) : CompSc X scope [(y, c)] [x, y] x [j] where
  clos := clos
  nocell := nocell
  kind := kind
  names := names
  xl := xl
  sub := fun z c' e => by
    by_cases h : z = y
    · subst h
      have e' : some c = some c' := by rw [← e]; simp
      cases e'
      exact hcell
    · have hb : (z == y) = false := by simpa using h
      simp [List.lookup_cons, hb] at e
  has := fun z h => by
    rw [hL] at h
    have hz : z = y := by
      rcases h with h | h
      · exact hLy.1 _ (PySem.mem_of_lookup h) (.inl rfl)
      · exact hLy.1 _ (PySem.mem_of_lookup h) (.inr rfl)
    exact ⟨c, by rw [hz]; simp⟩
  N0 := rfl
  nd := by simp [hx]
  len := rfl
  fr := fun i j' z e1 e2 => by
    cases i with
    | zero =>
      have e1' : j = j' := by simpa using e1
      have e2' : y = z := by simpa using e2
      subst e1' e2'
      exact ⟨hyN, hk, by rw [hL]; exact hLy.2, c, by simp⟩
    | succ i => simp at e1
end L2

set_option Elab.async false
set_option linter.all false
set_option maxRecDepth 100000
set_option maxHeartbeats 4000000
namespace GbM
open PySem PySem.StrLaws PySem.Builtin PySem.Builtin.Str
theorem splitL_first (c : Nat) : ∀ (t p : List Nat) (r : List (List Nat)), splitL c t = p :: r → c ∉ p ∧ ((r = [] ∧ t = p) ∨ ∃ t', t = p ++ c :: t' ∧ splitL c t' = r)
  | [], p, r, e => by
    have e' : ([[]] : List (List Nat)) = p :: r := e
    cases e'
    exact ⟨by simp, .inl ⟨rfl, rfl⟩⟩
  | a :: l, p, r, e => by
    by_cases h : a = c
    · subst h
      rw [splitL_hit] at e
      cases e
      exact ⟨by simp, .inr ⟨l, rfl, rfl⟩⟩
    · obtain ⟨p1, r1, e1⟩ := splitL_ne c l
      rw [splitL_miss h e1] at e
      cases e
      obtain ⟨h1, h2⟩ := splitL_first c l p1 r e1
      refine ⟨by simp only [List.mem_cons, not_or]; exact ⟨fun z => h z.symm, h1⟩, ?_⟩
      rcases h2 with ⟨h2, h3⟩ | ⟨t', h2, h3⟩
      · exact .inl ⟨h2, by rw [h3]⟩
      · exact .inr ⟨t', by rw [h2]; rfl, h3⟩
theorem splitL_drop (c : Nat) : ∀ (i : Nat) (t : List Nat), i < (splitL c t).length → splitL c (t.drop (wsum ((splitL c t).take i))) = (splitL c t).drop i ∧ wsum ((splitL c t).take i) ≤ t.length
  | 0, t, _ => by
    have e : wsum ((splitL c t).take 0) = 0 := rfl
    rw [e]
    exact ⟨rfl, Nat.zero_le _⟩
  | i + 1, t, h => by
    obtain ⟨p, r, e⟩ := splitL_ne c t
    obtain ⟨_, h2⟩ := splitL_first c t p r e
    rw [e, List.length_cons] at h
    rcases h2 with ⟨h2, h3⟩ | ⟨t', h2, h3⟩
    · rw [h2, List.length_nil] at h; omega
    · have ih := splitL_drop c i t' (by rw [h3]; omega)
      rw [h3] at ih
      have ew : wsum ((splitL c t).take (i + 1)) = p.length + 1 + wsum (r.take i) := by
        rw [e, List.take_succ_cons]
        show ((p.length + 1) :: (r.take i).map (fun r => r.length + 1)).sum = _
        rw [List.sum_cons]; rfl
      rw [ew, e, List.drop_succ_cons, ← ih.1, h2]
      constructor
      · congr 1
        rw [Nat.add_assoc, List.drop_append, List.drop_eq_nil_of_le (by omega)]
        have : p.length + (1 + wsum (r.take i)) - p.length = wsum (r.take i) + 1 := by omega
        rw [this]; rfl
      · have := ih.2
        rw [List.length_append, List.length_cons]; omega
theorem getD_arr (t : List Nat) (v : Nat) : (t.toArray).getD v 0 = t.getD v 0 := by
  simp [Array.getD_eq_getD_getElem?]
theorem find_none {t : List Nat} {c p : Nat} (hp : p ≤ t.length) (h : c ∉ t.drop p) : Txt.find3 ⟨t.toArray⟩ ⟨#[c]⟩ (p : Int) = -1 := by
  rcases find3_spec ⟨t.toArray⟩ c p with ⟨e, _⟩ | ⟨k, _, h2, h3, h4, _⟩
  · exact e
  · exfalso
    have hf : fromIndex (Str.length ⟨t.toArray⟩) (p : Int) = p := by
      have : Str.length ⟨t.toArray⟩ = t.length := rfl
      rw [this]
      simp [fromIndex]; try omega
    rw [hf] at h2
    have h3' : k < t.length := h3
    rw [getD_arr] at h4
    apply h
    rw [List.getD_eq_getElem?_getD, List.getElem?_eq_getElem h3'] at h4
    have h5 : t[k] = c := h4
    rw [← h5]
    have : (t.drop p)[k - p]? = some t[k] := by
      rw [List.getElem?_drop]
      have e : p + (k - p) = k := by omega
      rw [e, List.getElem?_eq_getElem h3']
    exact List.mem_of_getElem? this
theorem find_at {t q u : List Nat} {c p : Nat} (hp : p ≤ t.length) (hq : c ∉ q) (h : t.drop p = q ++ c :: u) : Txt.find3 ⟨t.toArray⟩ ⟨#[c]⟩ (p : Int) = ((p + q.length : Nat) : Int) := by
  have hf : fromIndex (Str.length ⟨t.toArray⟩) (p : Int) = p := by
    have : Str.length ⟨t.toArray⟩ = t.length := rfl
    rw [this]
    simp [fromIndex]; try omega
  have hlen : t.length = p + q.length + 1 + u.length := by
    have := congrArg List.length h
    rw [List.length_drop, List.length_append, List.length_cons] at this
    omega
  have hget : ∀ j, t[p + j]? = (q ++ c :: u)[j]? := fun j => by rw [← h, List.getElem?_drop]
  have hc : t[p + q.length]? = some c := by rw [hget, List.getElem?_append_right (Nat.le_refl _), Nat.sub_self]; rfl
  have hnc : ∀ v, p ≤ v → v < p + q.length → t.getD v 0 ≠ c := fun v h1 h2 e => by
    have e1 := hget (v - p)
    have e2 : p + (v - p) = v := by omega
    rw [e2, List.getElem?_append_left (by omega)] at e1
    have hv : v - p < q.length := by omega
    rw [List.getD_eq_getElem?_getD, e1, List.getElem?_eq_getElem hv] at e
    have e' : q[v - p] = c := e
    exact hq (e' ▸ List.getElem_mem hv)
  have hcD : t.getD (p + q.length) 0 = c := by rw [List.getD_eq_getElem?_getD, hc]; rfl
  rcases find3_spec ⟨t.toArray⟩ c p with ⟨_, h1⟩ | ⟨k, h1, h2, h3, h4, h5⟩
  · exfalso
    rw [hf] at h1
    have := h1 (p + q.length) (by omega) (by show _ < t.length; omega)
    rw [getD_arr] at this
    exact this hcD
  · rw [hf] at h2 h5
    rw [getD_arr] at h4
    have : k = p + q.length := by
      rcases Nat.lt_trichotomy k (p + q.length) with hh | hh | hh
      · exact absurd h4 (hnc k h2 hh)
      · exact hh
      · have := h5 (p + q.length) (by omega) hh
        rw [getD_arr] at this
        exact absurd hcD this
    rw [h1, this]
theorem find_row {t : List Nat} {c i : Nat} (hi : i < (splitL c t).length) : Txt.find3 ⟨t.toArray⟩ ⟨#[c]⟩ ((wsum ((splitL c t).take i) : Nat) : Int) = if i + 1 < (splitL c t).length then ((wsum ((splitL c t).take (i + 1)) : Nat) : Int) - 1 else -1 := by
  obtain ⟨h1, h2⟩ := splitL_drop c i t hi
  obtain ⟨p, r, e⟩ := splitL_ne c (t.drop (wsum ((splitL c t).take i)))
  have e' := h1.symm.trans e
  have hl := congrArg List.length e'
  rw [List.length_drop, List.length_cons] at hl
  obtain ⟨h3, h4⟩ := splitL_first c _ p r e
  rcases h4 with ⟨h4, h5⟩ | ⟨t', h4, h5⟩
  · rw [h4, List.length_nil] at hl
    rw [if_neg (by omega)]
    exact find_none h2 (by rw [h5]; exact h3)
  · have hr : 0 < r.length := by
      obtain ⟨a, b, eb⟩ := splitL_ne c t'
      rw [← h5, eb]; simp
    rw [if_pos (by omega), find_at h2 h3 h4]
    have ew : (splitL c t).take (i + 1) = (splitL c t).take i ++ [p] := by
      rw [List.take_add_one]
      congr 1
      have : (splitL c t)[i]? = some p := by
        have := congrArg (fun l => l[0]?) e'
        simpa using this
      rw [this]; rfl
    rw [ew, wsum_append]
    have : wsum [p] = p.length + 1 := by simp [wsum]
    rw [this]; omega
def fstD (t : List Nat) (r : Int) : Int := if 0 ≤ r ∧ r < ((splitL 47 t).length : Int) then ((wsum ((splitL 47 t).take r.toNat) : Nat) : Int) else -1
theorem fstD_nn (t : List Nat) (r : Int) : 0 ≤ fstD t r ↔ (0 ≤ r ∧ r < ((splitL 47 t).length : Int)) := by
  unfold fstD
  split <;> simp_all <;> omega
end GbM
namespace Gb
open PySem L2 GbM
theorem atI_mem {α : Type} {xs : List α} {i : Int} (h0 : 0 ≤ i) (h1 : i < xs.length) : ∃ c, c ∈ xs ∧ atI xs i = some c := by
  obtain ⟨c, h2, h3⟩ := atI_some h0 h1
  exact ⟨c, List.mem_of_getElem? h3, h2⟩
theorem atI_mod {α : Type} {xs : List α} {i m : Int} (hm : 0 < m) (h1 : m = xs.length) : ∃ c, c ∈ xs ∧ atI xs (i % m) = some c :=
  atI_mem (Int.emod_nonneg _ (by omega)) (by rw [← h1]; exact Int.emod_lt_of_pos _ hm)
theorem make_same {H H1 : Hp} {x dx pl C : Addr} (nx : H x = none) (ndx : H dx = none) (nex : dx ≠ x) (fpl : (upd (upd H dx (.own x)) x (.ins C dx [])) pl = none)
    (kp : ∀ b o, (upd (upd H dx (.own x)) x (.ins C dx [])) b = some o → b ≠ x → H1 b = some o) : Same H H1 ∧ H pl = none := by
  constructor
  · intro b o e
    have h1 : b ≠ x := ne_of_none e nx
    have h2 : b ≠ dx := ne_of_none e ndx
    exact kp b o (by rw [upd_ne h1, upd_ne h2]; exact e) h1
  · have h1 : pl ≠ x := by intro z; rw [z, upd_same] at fpl; cases fpl
    have h2 : pl ≠ dx := by intro z; rw [z, upd_ne nex, upd_same] at fpl; cases fpl
    rw [upd_ne h1, upd_ne h2] at fpl
    exact fpl
theorem DayAt.same {C : Addr} {H H' : Hp} {d pl : Addr} {s : Dy} (D : DayAt C H d pl s) (k : Same H H') : DayAt C H' d pl s := by
  obtain ⟨dx, bt, rs, h0, h1, h2, h3, h4⟩ := D
  exact ⟨dx, bt, rs, h0, k _ _ h1, h2.mono k, k _ _ h3, sts_mono (Same.tups k) h4⟩
theorem DayAt.pl {C : Addr} {H : Hp} {d pl : Addr} {s : Dy} (D : DayAt C H d pl s) : ∃ rs : List Addr, H pl = some (.lst (rs.map V.ref)) := by
  obtain ⟨dx, bt, rs, h0, h1, h2, h3, h4⟩ := D
  exact ⟨rs, h3⟩
theorem DayAt.updF {C : Addr} {H : Hp} {d pl fp : Addr} {s : Dy} {ps : List Addr} {o : HO} (D : DayAt C H d pl s) (hf : H fp = some (.lst (ps.map V.ref))) (hne : fp ≠ pl) : DayAt C (upd H fp o) d pl s := by
  obtain ⟨dx, bt, rs, h0, h1, h2, h3, h4⟩ := D
  have n1 : d ≠ fp := ne_of h1 hf (by intro z; cases z)
  have tk : TupSame H (upd H fp o) := fun b xs e => by rw [upd_ne (ne_of e hf (by intro z; cases z))]; exact e
  have e1 := h2.tk
  have e2 := h2.dp
  obtain ⟨b1, b2, c, q1, q2⟩ := h2
  refine ⟨dx, bt, rs, h0, by rw [upd_ne n1]; exact h1, ⟨b1, b2, c, tk _ _ q1, ?_⟩, by rw [upd_ne (Ne.symm hne)]; exact h3, sts_mono tk h4⟩
  rw [upd_ne (ne_of q2 hf fun z => ?_)]
  · exact q2
  · injection z with z'
    exact cells_not_refs (by omega) z'
/-- what the law's next deed hands back -/
def NX (t : Tx) (h : Nat) (past : List Sta) (d : Deed) (v : V) (H' : Hp) (rs' : List Addr) : Prop := match dstep t h past d with
  | none => v = .non ∧ Sts H' rs' past
  | some (s', past') => (∃ r, v = .ref r ∧ StAt H' r s') ∧ Sts H' rs' past'
theorem tup_upd {H : Hp} {fp : Addr} {xs : List V} {o : HO} (hf : H fp = some (.lst xs)) : TupSame H (upd H fp o) := fun b ys e => by rw [upd_ne (ne_of e hf (by intro z; cases z))]; exact e
theorem nx_push {H : Hp} {pl r q : Addr} {rs : List Addr} {past : List Sta} {t : Tx} {h : Nat} {s' : Sta} (hp : H pl = some (.lst (rs.map V.ref))) (hs : Sts H rs past) (f : H r = none)
    (fq : (upd (upd H r (.tup [.str (strL t), .int (h : Int)])) pl (.lst (rs.map V.ref ++ [V.ref r]))) q = none) :
    But pl pl H (upd (upd (upd H r (.tup [.str (strL t), .int (h : Int)])) pl (.lst (rs.map V.ref ++ [V.ref r]))) q (.tup [.str (strL s'.1), .int ((s'.2 : Nat) : Int)])) ∧
    (upd (upd (upd H r (.tup [.str (strL t), .int (h : Int)])) pl (.lst (rs.map V.ref ++ [V.ref r]))) q (.tup [.str (strL s'.1), .int ((s'.2 : Nat) : Int)])) pl = some (.lst ((rs ++ [r]).map V.ref)) ∧
    StAt (upd (upd (upd H r (.tup [.str (strL t), .int (h : Int)])) pl (.lst (rs.map V.ref ++ [V.ref r]))) q (.tup [.str (strL s'.1), .int ((s'.2 : Nat) : Int)])) q s' ∧
    Sts (upd (upd (upd H r (.tup [.str (strL t), .int (h : Int)])) pl (.lst (rs.map V.ref ++ [V.ref r]))) q (.tup [.str (strL s'.1), .int ((s'.2 : Nat) : Int)])) (rs ++ [r]) (past ++ [(t, h)]) := by
  have npr : pl ≠ r := ne_of_none hp f
  have npq : pl ≠ q := by intro z; rw [← z, upd_same] at fq; cases fq
  have nrq : r ≠ q := by intro z; rw [← z, upd_ne (Ne.symm npr), upd_same] at fq; cases fq
  have kb : But pl pl H (upd (upd (upd H r (.tup [.str (strL t), .int (h : Int)])) pl (.lst (rs.map V.ref ++ [V.ref r]))) q (.tup [.str (strL s'.1), .int ((s'.2 : Nat) : Int)])) := fun b o e h1 _ => by
    have n1 : b ≠ r := ne_of_none e f
    have n2 : b ≠ q := by intro z; rw [← z, upd_ne h1, upd_ne n1, e] at fq; cases fq
    rw [upd_ne n2, upd_ne h1, upd_ne n1]; exact e
  have tk : TupSame H (upd (upd (upd H r (.tup [.str (strL t), .int (h : Int)])) pl (.lst (rs.map V.ref ++ [V.ref r]))) q (.tup [.str (strL s'.1), .int ((s'.2 : Nat) : Int)])) := fun b xs e => kb b _ e (ne_of e hp (by intro z; cases z)) (ne_of e hp (by intro z; cases z))
  refine ⟨kb, by rw [upd_ne npq, upd_same, List.map_append]; rfl, upd_same, paired_append (sts_mono tk hs) (.cons ?_ .nil)⟩
  show _ = _
  rw [upd_ne nrq, upd_ne (Ne.symm npr), upd_same]
theorem same_at {H2 H3 : Hp} {r : Addr} (f : H3 r = none) (s : Same H2 H3) : Same H2 H3 := s
theorem dpush {H H2 H3 : Hp} {p pw r : Addr} {rs : List Addr} {ds : List Deed} {W xs : List V} {d : Deed} (s2 : Same H H2) (s3 : Same H2 H3) (nf : H p = none) (e2 : H2 p = some (.lst (rs.map V.ref))) (ew : H2 pw = some (.lst W)) (npw : pw ≠ p)
    (g : Dds H2 rs ds) (f : H3 r = none) (hat : DeedAt (upd H3 r (.tup xs)) r d) :
    Same H (upd (upd H3 r (.tup xs)) p (.lst (rs.map V.ref ++ [V.ref r]))) ∧ (upd (upd H3 r (.tup xs)) p (.lst (rs.map V.ref ++ [V.ref r]))) p = some (.lst ((rs ++ [r]).map V.ref)) ∧
    (upd (upd H3 r (.tup xs)) p (.lst (rs.map V.ref ++ [V.ref r]))) pw = some (.lst W) ∧ Dds (upd (upd H3 r (.tup xs)) p (.lst (rs.map V.ref ++ [V.ref r]))) (rs ++ [r]) (ds ++ [d]) := by
  have s4 : Same H2 (upd H3 r (.tup xs)) := s3.trans (Same.new f)
  have tk := tup_upd (o := .lst (rs.map V.ref ++ [V.ref r])) (s4 _ _ e2)
  refine ⟨(s2.trans s4).put nf, by rw [upd_same, List.map_append]; rfl, by rw [upd_ne npw]; exact s4 _ _ ew, paired_append (dds_mono tk (dds_mono (Same.tups s4) g)) (.cons (hat.mono tk) .nil)⟩
def W0 : List Str := ["a", "bc", "", "/", "d/e", "fghij", "k l", "//", "A~0", Txt.mul "z" 40]
theorem W0_len : ∀ w ∈ W0, w.length ≤ 40 := by decide +kernel
theorem W0_size : W0.length = 10 := rfl
theorem pickS {zs : Str} (hz : zs.length = 2) (j : Int) : ∃ w : Str, w.length ≤ 40 ∧ atI (W0.map V.str ++ [V.str zs]) (j % 11) = some (.str w) := by
  obtain ⟨v, hv, h⟩ := atI_mod (xs := W0.map V.str ++ [V.str zs]) (i := j) (m := 11) (by decide) (by rw [List.length_append, List.length_map, W0_size]; rfl)
  rcases List.mem_append.mp hv with hv | hv
  · obtain ⟨w, hw, rfl⟩ := List.mem_map.mp hv
    exact ⟨w, W0_len w hw, h⟩
  · have : v = V.str zs := by simpa using hv
    subst this
    exact ⟨zs, by omega, h⟩
theorem pickN (j R : Int) : ∃ n : Nat, n ≤ 1000000000 ∧ atI [V.int 0, V.int 1, V.int 2, V.int 3, V.int (10 ^ (9 : Int).toNat), V.int (R % 90)] (j % 6) = some (.int (n : Int)) := by
  obtain ⟨v, hv, h⟩ := atI_mod (xs := [V.int 0, V.int 1, V.int 2, V.int 3, V.int (10 ^ (9 : Int).toNat), V.int (R % 90)]) (i := j) (m := 6) (by decide) rfl
  have h0 := Int.emod_nonneg R (show (90 : Int) ≠ 0 by decide)
  have h1 := Int.emod_lt_of_pos R (show (0 : Int) < 90 by decide)
  simp only [List.mem_cons, List.not_mem_nil, or_false] at hv
  rcases hv with rfl | rfl | rfl | rfl | rfl | rfl
  · exact ⟨0, by decide, h⟩
  · exact ⟨1, by decide, h⟩
  · exact ⟨2, by decide, h⟩
  · exact ⟨3, by decide, h⟩
  · exact ⟨1000000000, by decide, h⟩
  · refine ⟨(R % 90).toNat, by omega, ?_⟩
    rw [h, Int.toNat_of_nonneg h0]
theorem pick2 {a b : Int} (ha : 0 < a) (hb : 0 < b) (j : Int) : ∃ n : Int, 0 < n ∧ atI [V.int a, V.int b] (j % 2) = some (.int n) := by
  obtain ⟨v, hv, h⟩ := atI_mod (xs := [V.int a, V.int b]) (i := j) (m := 2) (by decide) rfl
  simp only [List.mem_cons, List.not_mem_nil, or_false] at hv
  rcases hv with rfl | rfl
  · exact ⟨_, ha, h⟩
  · exact ⟨_, hb, h⟩
theorem pick3 (a b c j : Int) : ∃ n : Int, atI [V.int a, V.int b, V.int c] (j % 3) = some (.int n) := by
  obtain ⟨v, hv, h⟩ := atI_mod (xs := [V.int a, V.int b, V.int c]) (i := j) (m := 3) (by decide) rfl
  simp only [List.mem_cons, List.not_mem_nil, or_false] at hv
  rcases hv with rfl | rfl | rfl <;> exact ⟨_, h⟩
theorem pickB (a b : Int) (k : Bool) : atI [V.int a, V.int b] (if k then 1 else 0) = some (.int (if k = true then b else a)) := by
  cases k <;> rfl
/-! ### the law's stack of pairs -/
inductive Itm where
  | top
  | deed (r : Addr) (vs : List V)
  | val (v : V)
def Pl (v : V) : Prop := (∃ z, v = .str z) ∨ ∃ i, v = .int i
def lrI (a b : Addr) : Itm → V × V
  | .top => (.ref a, .ref b)
  | .deed r _ => (.ref r, .ref r)
  | .val v => (v, v)
def lw (n : Nat) : Itm → Nat
  | .top => 3 * n + 1
  | .deed _ vs => vs.length + 1
  | .val _ => 1
def ItOk (H : Hp) : Itm → Prop
  | .top => True
  | .deed r vs => H r = some (.tup vs) ∧ vs.length ≤ 2 ∧ ∀ v ∈ vs, Pl v
  | .val v => Pl v
abbrev Stk (a b : Addr) (H0 H : Hp) (ts : List Addr) (its : List Itm) : Prop := Paired (fun t it => H t = some (.tup [(lrI a b it).1, (lrI a b it).2]) ∧ ItOk H0 it) ts its
def UW (a b td : Addr) (n : Nat) (H : Hp) (m : Nat) (σ : St) (H2 : Hp) : Prop := ∃ (ts : List Addr) (its : List Itm) (v3 v4 v5 : Option V), m = (its.map (lw n)).sum ∧ m ≤ 3 * n + 1 ∧
  σ = [some (.ref a), some (.ref b), some (.ref td), v3, v4, v5] ∧ Same H H2 ∧ H2 td = some (.lst (ts.map V.ref)) ∧ Stk a b H H2 ts its
theorem lw_ge (n : Nat) : ∀ its : List Itm, its.length ≤ (its.map (lw n)).sum
  | [] => Nat.le_refl _
  | it :: its => by
    have := lw_ge n its
    have h1 : 1 ≤ lw n it := by cases it <;> simp [lw]
    rw [List.map_cons, List.sum_cons, List.length_cons]; omega
theorem lw_app (n : Nat) (x y : List Itm) : ((x ++ y).map (lw n)).sum = (x.map (lw n)).sum + (y.map (lw n)).sum := by rw [List.map_append, List.sum_append]
theorem stk_mono {a b : Addr} {H0 H H' : Hp} {ts : List Addr} {its : List Itm} (k : TupSame H H') (h : Stk a b H0 H ts its) : Stk a b H0 H' ts its := Paired.mapP h fun _ _ z => ⟨k _ _ z.1, z.2⟩
theorem paired_concat {α β : Type} {F : α → β → Prop} : ∀ {as : List α} {bs : List β} {b : β}, Paired F as (bs ++ [b]) → ∃ as0 a, as = as0 ++ [a] ∧ Paired F as0 bs ∧ F a b
  | _, [], _, .cons r .nil => ⟨[], _, rfl, .nil, r⟩
  | _, _ :: bs, b, .cons r t => by
    obtain ⟨as0, a, rfl, h1, h2⟩ := paired_concat (bs := bs) t
    exact ⟨_ :: as0, a, rfl, .cons r h1, h2⟩
/-- items that a sequence lays on the stack -/
def Lay (a b : Addr) (H : Hp) (xs : List V) (L : List Itm) : Prop := L.length = xs.length ∧ (∀ it ∈ L, ItOk H it) ∧ ∀ (i : Nat) (it : Itm), L[i]? = some it → xs[i]? = some (lrI a b it).1 ∧ (lrI a b it).2 = (lrI a b it).1
theorem lay_vals {a b : Addr} {H : Hp} {vs : List V} (h : ∀ v ∈ vs, Pl v) : Lay a b H vs (vs.map Itm.val) := by
  refine ⟨List.length_map _, fun it hi => ?_, fun i it e => ?_⟩
  · obtain ⟨v, hv, rfl⟩ := List.mem_map.mp hi
    exact h v hv
  · rw [List.getElem?_map] at e
    cases ev : vs[i]? with
    | none => rw [ev] at e; cases e
    | some v => rw [ev] at e; cases e; exact ⟨rfl, rfl⟩
theorem sum_vals (n : Nat) : ∀ vs : List V, ((vs.map Itm.val).map (lw n)).sum = vs.length
  | [] => rfl
  | v :: vs => by
    have := sum_vals n vs
    rw [List.map_cons, List.map_cons, List.sum_cons, this, List.length_cons]
    show 1 + _ = _
    omega
theorem deed_vals {H : Hp} {r : Addr} {d : Deed} (h : DeedAt H r d) : ∃ vs : List V, H r = some (.tup vs) ∧ vs.length ≤ 2 ∧ ∀ v ∈ vs, Pl v := by
  cases d with
  | put z => exact ⟨_, h, by simp, fun v hv => by simp at hv; rcases hv with rfl | rfl <;> exact .inl ⟨_, rfl⟩⟩
  | rub z => exact ⟨_, h, by simp, fun v hv => by simp at hv; rcases hv with rfl | rfl; exact .inl ⟨_, rfl⟩; exact .inr ⟨_, rfl⟩⟩
  | clear z => exact ⟨_, h, by simp, fun v hv => by simp at hv; rcases hv with rfl | rfl; exact .inl ⟨_, rfl⟩; exact .inr ⟨_, rfl⟩⟩
  | go z => exact ⟨_, h, by simp, fun v hv => by simp at hv; rcases hv with rfl | rfl; exact .inl ⟨_, rfl⟩; exact .inr ⟨_, rfl⟩⟩
  | row z => exact ⟨_, h, by simp, fun v hv => by simp at hv; rcases hv with rfl | rfl; exact .inl ⟨_, rfl⟩; exact .inr ⟨_, rfl⟩⟩
  | undo => exact ⟨_, h, by simp, fun v hv => by simp at hv; subst hv; exact .inl ⟨_, rfl⟩⟩
theorem lay_deeds {a b : Addr} {H : Hp} (n : Nat) : ∀ {rs : List Addr} {ds : List Deed}, Dds H rs ds → ∃ L : List Itm, Lay a b H (rs.map V.ref) L ∧ (L.map (lw n)).sum ≤ 3 * ds.length
  | _, _, .nil => ⟨[], ⟨rfl, fun _ z => (nomatch z), fun i it e => by simp at e⟩, Nat.le_refl _⟩
  | r :: rs, d :: ds, .cons h t => by
    obtain ⟨L, ⟨h1, h2, h3⟩, h4⟩ := lay_deeds n t
    obtain ⟨vs, e1, e2, e3⟩ := deed_vals h
    refine ⟨.deed r vs :: L, ⟨by rw [List.length_cons, h1]; rfl, fun it hi => ?_, fun i it e => ?_⟩, ?_⟩
    · rcases List.mem_cons.mp hi with rfl | hi
      · exact ⟨e1, e2, e3⟩
      · exact h2 it hi
    · cases i with
      | zero => simp at e; subst e; exact ⟨rfl, rfl⟩
      | succ i => exact h3 i it (by simpa using e)
    · rw [List.map_cons, List.sum_cons, List.length_cons]
      show vs.length + 1 + _ ≤ _
      omega
theorem iteNY {c A B : Prop} [Decidable c] (hc : ¬ c) (h : A) : if (!decide c) = true then A else B := by
  rw [if_pos (by simpa using hc)]; exact h
theorem nx_none {S : Dy} {d : Deed} (h : dstep S.t S.h S.past d = none) : nx S d = (S, false) := by unfold nx; rw [h]
theorem nx_some {S : Dy} {d : Deed} {s' : Sta} {p : List Sta} (h : dstep S.t S.h S.past d = some (s', p)) : nx S d = (⟨s'.1, s'.2, p, growD S.N s'.1.length⟩, true) := by unfold nx; rw [h]
theorem Same.of_but {p : Addr} {H H' : Hp} (f : H p = none) (k : But p p H H') : Same H H' := fun b o e => k b o e (ne_of_none e f) (ne_of_none e f)
def WW (a pa pn pp r : Addr) (v6 : V) (M F : Nat) (H7 : Hp) (m : Nat) (σ' : St) (H' : Hp) : Prop := ∃ n2 : Nat, m = M - n2 ∧ σ' = [some (.ref a), some (.ref pa), some (.ref pn), some (.ref pp), some (.int (n2 : Int)), some (.ref r), some v6, none, none, none, none, none, none] ∧ H7 = H' ∧ growD n2 M = F
end Gb
namespace L2
open PySem PySem.Spec PyProof.Rows
section
variable {X : Cx} {es : List Expr} {t : TA} {te : TE}
theorem pa_strC {x : Str} {j : Nat} {pos : Pos} (hr : PA X es t) : PA X (.Constant (.str x) j pos :: es) (tCons (tC (.str x)) t) := pa_cons pe_str hr rfl
theorem pa_con {c : Const} {j : Nat} {pos : Pos} (ha : PE X (.Constant c j pos) te) (hr : PA X es t) : PA X (.Constant c j pos :: es) (tCons te t) := pa_cons ha hr rfl
theorem pa_bin {a b : Expr} {op : Operator} {pos : Pos} (ha : PE X (.BinOp a op b pos) te) (hr : PA X es t) : PA X (.BinOp a op b pos :: es) (tCons te t) := pa_cons ha hr rfl
/-! ### the same promises, shut: a promise opens into a ∀ over the run, and an elaborator that looks for binders runs the text -/
structure WE (X : Cx) (e : Expr) (t : TE) : Prop where
  h : PE X e t
structure WA (X : Cx) (es : List Expr) (t : TA) : Prop where
  h : PA X es t
structure WS (X : Cx) (st : Stmt) (t : TS) : Prop where
  h : PS X st t
structure WSs (X : Cx) (ss : List Stmt) (t : TS) : Prop where
  h : PSs X ss t
theorem wa_nil : WA X [] tNil := ⟨pa_nil⟩
theorem wa_con {x : Str} {j : Nat} {pos : Pos} (hr : WA X es t) : WA X (.Constant (.str x) j pos :: es) (tCons (tC (.str x)) t) := ⟨pa_cons pe_str hr.h rfl⟩
theorem wa_bin {a b : Expr} {op : Operator} {pos : Pos} (ha : WE X (.BinOp a op b pos) te) (hr : WA X es t) : WA X (.BinOp a op b pos :: es) (tCons te t) := ⟨pa_cons ha.h hr.h rfl⟩
theorem we_lst {pos : Pos} (hr : WA X es t) : WE X (.List es pos) (tLst t) := ⟨pe_lst hr.h⟩
theorem wo_mul {x : Str} {n : Int} {j k : Nat} {p q pos : Pos} : WE X (.BinOp (.Constant (.str x) j p) .Mult (.Constant (.int n) k q) pos) (tOp rMulS (tC (.str x)) (tC (.int n))) := ⟨pe_op op_mulS pe_str pe_int⟩
theorem ws_set {i : Nat} {x : Str} {e : Expr} {pos pos' : Pos} (hN : X.N.Nodup) (hi : X.N[i]? = some x) (hx : Loc X.env.scope x) (he : WE X e te) (hs : swapsWith e (some (.Name x pos')) pos.line X.env = pure false := by rfl) (hf : X.fn x = true ∨ X.env.scope.names.lookup x = some .local := by first | exact .inl rfl | exact .inr rfl | assumption) :
    WS X (.Assign [.Name x pos'] e pos) (tAsg te (gName i)) := ⟨ps_set hN hi hx he.h hs hf⟩
theorem wss_cons {st : Stmt} {rest : List Stmt} {t u : TS} (h1 : WS X st t) (h2 : PSs X rest u) : WSs X (st :: rest) (tSeq t u) := ⟨pss_cons h1.h h2⟩
theorem pss_wcons {st : Stmt} {rest : List Stmt} {t u : TS} (h1 : PS X st t) (h2 : WSs X rest u) : PSs X (st :: rest) (tSeq t u) := pss_cons h1 h2.h
theorem we {e : Expr} (h : PE X e te) : WE X e te := ⟨h⟩
theorem we_int {i : Int} {j : Nat} {pos : Pos} : WE X (.Constant (.int i) j pos) (tC (.int i)) := ⟨pe_int⟩
theorem we_str {x : Str} {j : Nat} {pos : Pos} : WE X (.Constant (.str x) j pos) (tC (.str x)) := ⟨pe_str⟩
def nst : Expr → Bool
  | .Starred .. => false
  | _ => true
theorem star1 {e : Expr} (h : nst e = true) (es : List Expr) (env : Env) : starEach (e :: es) env = (false, eval e env) :: starEach es env := by
  cases e <;> first | rfl | cases h
theorem wa_cons {e : Expr} (ha : WE X e te) (hr : WA X es t) (h : nst e = true := by rfl) : WA X (e :: es) (tCons te t) := ⟨pa_cons ha.h hr.h (star1 h _ _)⟩
theorem we_tup {x1 : Nat} {pos : Pos} (hr : WA X es t) : WE X (.Tuple es x1 pos) (tTup t) := ⟨pe_tup hr.h⟩
section
variable {a b : Expr} {ta tb : TE} {pos : Pos}
theorem we_op {op : Operator} {r : R2} (ho : OpR X (binaryOp op) r) (ha : WE X a ta) (hb : WE X b tb) : WE X (.BinOp a op b pos) (tOp r ta tb) := ⟨pe_op ho ha.h hb.h⟩
theorem we_un {op : UnaryOp} {r : V → Hp → VK → Prop} (ho : UnR X (unaryOp op) r) (ha : WE X a ta) : WE X (.UnaryOp op a pos) (tUn r ta) := ⟨pe_un ho ha.h⟩
theorem we_ix {r : R2} (hr : IxR X r) (ha : WE X a ta) (hb : WE X b tb) (hs : PlainIx b) : WE X (.Subscript a b pos) (tOp r ta tb) := ⟨pe_ix hr ha.h hb.h hs⟩
end
theorem pe_wbm {o : Expr} {to : TE} {x1 : Nat} {name : Str} {apos cpos tp : Pos} {T id : String} {r : V → List V → Hp → VK → Prop} (pa : PlainAttrs T) (slot : Slot T name id) (hty : typeOf (.builtin id) = pure (.type "method_descriptor")) (hm : MtR X id r) (ho : PE X o to) (ha : WE X (.Tuple es x1 tp) te)
    (hbase : attributeBase o name X.env (eval o X.env) = eval o X.env := by rfl) (hline : (apos.endLine == cpos.line) = true := by rfl) :
    PE X (.Call (.Attribute o name apos) [.Tuple es x1 tp] [] cpos) (tBM X.K T r to (tCons te tNil)) := pe_bm pa slot hty hm ho (pa_cons ha.h pa_nil rfl) hbase rfl hline rfl rfl
theorem wss_more {st : Stmt} {rest : List Stmt} {t u : TS} (h1 : WS X st t) (h2 : WSs X rest u) : WSs X (st :: rest) (tSeq t u) := ⟨pss_cons h1.h h2.h⟩
theorem wss_one {st : Stmt} {t : TS} (h1 : PS X st t) : WSs X [st] t := ⟨pss_one h1⟩
/-- the ten words of the law -/
def tWords : TE := tLst (tCons (tC (.str "a")) (tCons (tC (.str "bc")) (tCons (tC (.str "")) (tCons (tC (.str "/")) (tCons (tC (.str "d/e")) (tCons (tC (.str "fghij")) (tCons (tC (.str "k l")) (tCons (tC (.str "//")) (tCons (tC (.str "A~0")) (tCons (tOp rMulS (tC (.str "z")) (tC (.int 40))) tNil))))))))))
theorem we_words {j0 j1 j2 j3 j4 j5 j6 j7 j8 j9 j10 : Nat} {q0 q1 q2 q3 q4 q5 q6 q7 q8 q9 q10 q11 q12 : Pos} : WE X (.List [.Constant (.str "a") j0 q0, .Constant (.str "bc") j1 q1, .Constant (.str "") j2 q2, .Constant (.str "/") j3 q3, .Constant (.str "d/e") j4 q4, .Constant (.str "fghij") j5 q5, .Constant (.str "k l") j6 q6, .Constant (.str "//") j7 q7, .Constant (.str "A~0") j8 q8, .BinOp (.Constant (.str "z") j9 q9) .Mult (.Constant (.int 40) j10 q10) q11] q12) tWords := we_lst (wa_con (wa_con (wa_con (wa_con (wa_con (wa_con (wa_con (wa_con (wa_con (wa_bin wo_mul wa_nil))))))))))
end
end L2

set_option Elab.async false
set_option linter.all false
set_option maxRecDepth 100000
set_option maxHeartbeats 4000000
namespace L2
open PySem PySem.Spec PyProof.Rows
section
variable {prog : Program} {w : World} {A : Around} {E : Value → Shared → Prop} {s : Shared}
theorem look_lri_len : typeLookup (.type "list_reverseiterator") "__len__" = pure none := by rw [typeLookup_type, builtinLookup_eq_fast]; kernel_rfl
theorem look_lri_hint : typeLookup (.type "list_reverseiterator") "__length_hint__" = pure (some (.builtin "list_reverseiterator.__length_hint__")) := by rw [typeLookup_type, builtinLookup_eq_fast]; kernel_rfl
theorem hintRev {it l : Addr} {i : Int} {Q : Bool → Shared → Prop} (hit : s.heap.IsRevIter it l i) (h : Q false s) : wpAny (model prog w) A (Builtin.List.listLengthHint (.ref it)) Q E s := by
  unfold Builtin.List.listLengthHint
  refine wpAny_bind (wpAny_specialOf hit.typeIs look_lri_len ?_)
  wp_delta
  refine wpAny_bind (wpAny_specialOf hit.typeIs look_lri_hint ?_)
  generalize hid : ("list_reverseiterator.__length_hint__" : String) = id0
  wp_delta
  rw [show splitId id0 = some ("list_reverseiterator", "__length_hint__") from by subst hid; decide +kernel]
  subst hid
  refine wpAny_bind (wpAny_isInstance (T := "list_reverseiterator") (b := true) hit.typeIs (by rw [isSubtype_type]; kernel_rfl) ?_)
  refine wpAny_ite_split (fun hab => absurd hab (by decide)) (fun _ => ?_)
  refine wpAny_ite_split (fun _ => ?_) (fun hab => absurd rfl hab)
  refine wpAny_ite_split (fun hab => absurd hab (by decide +kernel)) (fun _ => ?_)
  exact wpAny_pure h
theorem extRev {R : Result → Shared → Prop} {it l : Addr} {items : Array Value} (hh : A.handled = none) (hit : s.heap.IsRevIter it l ((items.size : Int) - 1)) (hl : s.heap.IsList l items) (hne : l ≠ it) (hlen : items.size ≤ sizeLine)
    (S : Addr) (res : Value) (c₀ : Nat) (hS : s.heap.get? S = some { cls := .type "list", data := .seq #[] c₀ }) (hSl : S ≠ l) (hSI : S ≠ it)
    (hR : ∀ h' tk acc' c', (∀ b o, b ≠ S → b ≠ it → s.heap.get? b = some o → h'.get? b = some o) → h'.get? S = some { cls := .type "list", dict := none, data := .seq acc' c', slots := #[] } →
      ItemsOf (fun i v => items[items.size - 1 - i]? = some v) acc' items.size → R (.ok (.ret res)) { s with heap := h', toks := tk }) :
    wpAny (model prog w) A.in1 (Builtin.List.listExtendWith (.ref S) (.ref it) res)
      (fun fin s' => match fin with | .done f => R (.ok f) s' | .again c' => c'.quiet = true ∧ codeAny (model prog w) A c' R s') (fun e s' => R (.error e) s') s := by
  have hSf : S ∉ [it, l] := fun hm => by
    rcases List.mem_cons.mp hm with e | hm
    · exact hSI e
    · exact hSl (List.mem_singleton.mp hm)
  have W := (Walks.listRev (prog := prog) (w := w) (A := A.in1) hh it l hne items).toS
  unfold Builtin.List.listExtendWith
  refine wpAny_bind (wpAny_typeOf (T := "list_reverseiterator") hit.typeIs ?_)
  have h1 : Builtin.List.listSameRef (.ref S) (.ref it) = false := by simp [Builtin.List.listSameRef, hSI]
  have h2 : (Value.type "list_reverseiterator" == Value.type "list") = false := by decide
  have h3 : (Value.type "list_reverseiterator" == Value.type "tuple") = false := by decide
  simp only [h1, h2, h3, Bool.or_false, Bool.false_eq_true, if_false]
  refine wpAny_bind (wpAny_pyIter_revIter hit ?_)
  refine wpAny_bind (wpAny_holding (hintRev hit ?_))
  rw [if_neg (by decide)]
  have e0 : ((items.size : Int) - 1 - ((0 : Nat) : Int)) = (items.size : Int) - 1 := by omega
  refine wpAny_pure ⟨plainId_quiet F.plain_extend_loop _, codeAny_extend_loopS W hlen S hSf res items.size 0 _ #[] c₀ rfl (Nat.zero_le _) ⟨Nat.zero_le _, by rw [e0]; exact hit, hl⟩ hS (ItemsOf.nil _) fun s' acc' c' hm hS' hacc => ?_⟩
  rw [Moved.eq_with hm]
  refine hR s'.heap s'.toks acc' c' (fun b o hb hb2 e => hm.heap b o (fun hmem => ?_) e) hS' hacc
  rcases List.mem_cons.mp hmem with e' | hmem
  · exact hb e'
  · exact hb2 (List.mem_singleton.mp hmem)
theorem initRev {R : Result → Shared → Prop} {it l : Addr} {items : Array Value} (hh : A.handled = none) (hit : s.heap.IsRevIter it l ((items.size : Int) - 1)) (hl : s.heap.IsList l items) (hne : l ≠ it) (hlen : items.size ≤ sizeLine)
    (S : Addr) (hS : s.heap.get? S = some { cls := .type "list", data := .seq #[] }) (hSl : S ≠ l) (hSI : S ≠ it)
    (hR : ∀ h' tk acc' c', (∀ b o, b ≠ S → b ≠ it → s.heap.get? b = some o → h'.get? b = some o) → h'.get? S = some { cls := .type "list", dict := none, data := .seq acc' c', slots := #[] } →
      ItemsOf (fun i v => items[items.size - 1 - i]? = some v) acc' items.size → R (.ok (.ret .none)) { s with heap := h', toks := tk }) :
    wpAny (model prog w) A.in1 (Builtin.«list.__init__» ⟨[.ref S, .ref it], []⟩)
      (fun fin s' => match fin with | .done f => R (.ok f) s' | .again c' => c'.quiet = true ∧ codeAny (model prog w) A c' R s') (fun e s' => R (.error e) s') s := by
  unfold Builtin.«list.__init__»
  show wpAny _ _ (do
    let got ← Builtin.List.listItems (.ref S)
    Builtin.List.listUpdate (.ref S) (fun _ => #[])
    letGo got.toList.reverse
    Builtin.List.listExtendWith (.ref S) (.ref it) .none) _ _ s
  refine wpAny_bind ?_
  unfold Builtin.List.listItems
  refine wpAny_bind (wpAny_seqItems hS rfl (wpAny_pure ?_))
  show wpAny _ _ (updateSeq S (fun _ => #[]) >>= fun _ => letGo (#[] : Array Value).toList.reverse >>= fun _ => Builtin.List.listExtendWith (.ref S) (.ref it) .none) _ _ s
  refine wpAny_bind (wpAny_updateSeq hS rfl ?_)
  have hS2 := Heap.get?_update_self (Obj.mapSeq (fun _ => (#[] : Array Value))) hS rfl
  have keep : ∀ b o, b ≠ S → s.heap.get? b = some o → (s.heap.update S (Obj.mapSeq (fun _ => (#[] : Array Value)))).get? b = some o := fun b o hb e => (Heap.get?_update_other _ _ (Ne.symm hb)).trans e
  refine wpAny_bind (wpAny_letGo ?_)
  refine extRev hh (hit.at fun o e => keep _ _ (Ne.symm hSI) e) (hl.at fun o e => keep _ _ (Ne.symm hSl) e) hne hlen S .none _ hS2 hSl hSI fun h' tk acc' c' hk hS' hacc => ?_
  exact hR h' tk acc' c' (fun b o hb hb2 e => hk b o hb hb2 (keep b o hb e)) hS' hacc
theorem call_listRev {Q : Value → Shared → Prop} {it l : Addr} {items : Array Value} (hh : A.handled = none) (hit : s.heap.IsRevIter it l ((items.size : Int) - 1)) (hl : s.heap.IsList l items) (hne : l ≠ it) (hlen : items.size ≤ sizeLine)
    (hQ : ∀ h' tk acc' c', (∀ b o, b ≠ it → s.heap.get? b = some o → h'.get? b = some o) →
      h'.get? s.heap.objs.size = some { cls := .type "list", dict := none, data := .seq acc' c', slots := #[] } → ItemsOf (fun i v => items[items.size - 1 - i]? = some v) acc' items.size → Q (.ref s.heap.objs.size) { s with heap := h', toks := tk }) :
    wpAny (model prog w) A (call (.type "list") [.ref it]) Q E s := by
  refine callType_codes (Q₁ := fun obj s₁ => obj = .ref s.heap.objs.size ∧ s₁ = { s with heap := s.heap.push { cls := .type "list", data := .seq #[] } }) F.called_list (F.typeCall_list_1 _) F.entry_list_init (code_list_new _ ⟨rfl, rfl⟩) fun obj s₁ h₁ => ?_
  obtain ⟨rfl, rfl⟩ := h₁
  have hS : (s.heap.push { cls := .type "list", data := .seq #[] }).get? s.heap.objs.size = some { cls := .type "list", data := .seq #[] } := Heap.get?_push_size _ rfl
  have n1 : s.heap.objs.size ≠ l := by
    obtain ⟨o, ho, _⟩ := hl
    exact (Nat.ne_of_lt (Heap.lt_size ho)).symm
  have n2 : s.heap.objs.size ≠ it := by
    obtain ⟨o, ho, _⟩ := hit
    exact (Nat.ne_of_lt (Heap.lt_size ho)).symm
  refine ⟨⟨_, hS, rfl⟩, F.args_list_init_2 _ _, initRev (A := A.in1) hh (hit.at fun o e => Heap.get?_push_of_some _ e) (hl.at fun o e => Heap.get?_push_of_some _ e) hne hlen _ hS n1 n2 fun h' tk acc' c' hk hS' hacc => ?_⟩
  exact ⟨rfl, hQ h' tk acc' c' (fun b o hb e => hk b o (Nat.ne_of_lt (Heap.lt_size e)) hb (Heap.get?_push_of_some _ e)) hS' hacc⟩
end
def tLR (K : PySem.W.Frag) (tx : TE) : TE := fun σ H Q => tx σ H fun x H1 => ∃ a xs, x = .ref a ∧ SqL K H1 a xs ∧ ∀ l, H1 l = none → Q (.ref l) (upd H1 l (.lst xs.reverse))
theorem pe_listRev {X : Cx} {e : Expr} {tx : TE} {p p2 pos pos2 : Pos} (hcalm : X.calm = true) (he : PE X e tx) (hg : Gl X "list") (hm : X.mg "list" = none) (hg2 : Gl X "reversed") (hm2 : X.mg "reversed" = none) (hv : bootBuiltins "list" = some (.type "list")) (hv2 : bootBuiltins "reversed" = some (.type "reversed"))
    (hs2 : starEach [e] X.env = [(false, eval e X.env)] := by rfl) :
    PE X (.Call (.Name "list" p) [.Call (.Name "reversed" p2) [e] [] pos2] [] pos) (tLR X.K tx) := by
  intro pins s σ H Q I h
  have hs : starEach [Expr.Call (.Name "reversed" p2) [e] [] pos2] X.env = [(false, eval (.Call (.Name "reversed" p2) [e] [] pos2) X.env)] := rfl
  refine wpAny_Call_Name_kw (ld_blt I hg hm hv ?_ (by decide) (by decide))
  refine PyProof.Rows.callWith_type1 ?_ hs rfl
  rw [hs]
  show wpAny _ _ (spliced ((false, eval (.Call (.Name "reversed" p2) [e] [] pos2) X.env) :: backTo pos [])) _ _ s
  refine Calls.spliced_cons ?_
  refine wpAny_Call_Name_kw (ld_blt I hg2 hm2 hv2 ?_ (by decide) (by decide))
  refine PyProof.Rows.callWith_type1 ?_ hs2 rfl
  rw [hs2]
  show wpAny _ _ (spliced ((false, eval e X.env) :: backTo pos2 [])) _ _ s
  refine Calls.spliced_cons (thn (he pins s σ H _ I h) fun u s1 ⟨x, H1, I1, r1, q1⟩ => ?_)
  obtain ⟨a, xs, rfl, hq, q⟩ := q1
  cases r1
  obtain ⟨its, r', pl, hz⟩ := I1.list hq
  have hlen := r'.length
  have hl := pl.isList
  refine Calls.spliced_nil ?_
  refine call_reversed_list hl ?_
  refine Calls.spliced_nil ?_
  have hlt : a < s1.heap.objs.size := by
    obtain ⟨o, ho, _⟩ := id hl
    exact Heap.lt_size ho
  refine call_listRev (I.ok.hd hcalm) ⟨_, Heap.get?_push_size _ rfl, rfl, rfl⟩ (hl.at fun o e => Heap.get?_push_of_some _ e) (Nat.ne_of_lt hlt) (by simp only [List.size_toArray]; omega) fun h' tk acc' c' hk hS hacc => ?_
  have hsz : (s1.heap.push (revObj a ((its.toArray.size : Int) - 1))).objs.size = s1.heap.objs.size + 1 := by simp [Heap.push]
  refine ⟨.ref _, _, I1.laid (t' := tk) (o := .lst xs.reverse) (fun b u e => hk b u (Nat.ne_of_lt (Heap.lt_size e)) (Heap.get?_push_of_some _ e)) (by rw [hsz]; omega) ?_, rfl, q _ (I1.hok.fresh (by rw [hsz]; omega))⟩
  refine ⟨by rw [List.length_reverse]; exact hz, acc'.toList, c', ?_, by simpa using hS⟩
  obtain ⟨n1, n2⟩ := hacc
  have n3 : acc'.toList.length = its.length := by simpa using n1
  refine vals_of_at (by rw [List.length_reverse, n3, hlen]) fun j x u e1 e2 => ?_
  have hj : j < its.length := by rw [← n3]; exact (List.getElem?_eq_some_iff.mp e2).1
  have e3 := n2 j u (by simpa using e2)
  have e4 : its[its.length - 1 - j]? = some u := by simpa using e3
  rw [List.getElem?_reverse (by omega), hlen] at e1
  obtain ⟨u2, e5, hr⟩ := r'.get e1
  rw [e4] at e5
  cases e5
  exact hr
end L2
namespace Gb
open PySem L2 GbM
theorem rep_ref (r : Addr) (k : Nat) : (List.replicate k [V.ref r]).flatten = (List.replicate k r).map V.ref := by
  induction k with
  | zero => rfl
  | succ k ih => rw [List.replicate_succ, List.flatten_cons, ih, List.replicate_succ]; rfl
theorem paired_rep {α β : Type} {F : α → β → Prop} {a : α} {b : β} (h : F a b) : ∀ k : Nat, Paired F (List.replicate k a) (List.replicate k b)
  | 0 => .nil
  | k + 1 => .cons h (paired_rep h k)
theorem paired_rev {α β : Type} {F : α → β → Prop} : ∀ {as : List α} {bs : List β}, Paired F as bs → Paired F as.reverse bs.reverse
  | _, _, .nil => .nil
  | _, _, .cons r t => by
    rw [List.reverse_cons, List.reverse_cons]
    exact paired_append (paired_rev t) (.cons r .nil)
theorem dds_undo {H : Hp} {rs : List Addr} {ds : List Deed} {r : Addr} (k : Nat) (g : Dds H rs ds) (h : DeedAt H r .undo) : Dds H (rs ++ List.replicate k r) (ds ++ List.replicate k .undo) := paired_append g (paired_rep h k)
theorem ok_undo {ds : List Deed} (k : Nat) (h : ∀ d ∈ ds, okD d) : ∀ d ∈ ds ++ List.replicate k Deed.undo, okD d := fun d hd => by
  rcases List.mem_append.mp hd with z | z
  · exact h d z
  · rw [List.eq_of_mem_replicate z]; exact trivial
theorem nx_past (s : Dy) (d : Deed) : (nx s d).1.past.length ≤ s.past.length + 1 := by
  cases e : dstep s.t s.h s.past d with
  | none => rw [nx_none e]; exact Nat.le_succ _
  | some r =>
    obtain ⟨s', p⟩ := r
    rw [nx_some e]
    show p.length ≤ _
    cases d with
    | put z => cases e; rw [List.length_append]; exact Nat.le_refl _
    | rub n => simp only [dstep] at e; split at e <;> cases e; rw [List.length_append]; exact Nat.le_refl _
    | clear n => simp only [dstep] at e; split at e <;> cases e; rw [List.length_append]; exact Nat.le_refl _
    | go q => simp only [dstep] at e; split at e <;> cases e; exact Nat.le_succ _
    | row q => simp only [dstep] at e; split at e <;> cases e; exact Nat.le_succ _
    | undo => simp only [dstep] at e; split at e <;> cases e; rw [List.length_dropLast]; omega
theorem past_le (ds : List Deed) : ∀ i, (En ds i).past.length ≤ i
  | 0 => by rw [En_zero]; exact Nat.le_refl _
  | i + 1 => by
    have ih := past_le ds i
    cases e : ds[i]? with
    | none =>
      have e2 : En ds (i + 1) = En ds i := by
        unfold En
        have hl := List.getElem?_eq_none_iff.mp e
        rw [List.take_of_length_le hl, List.take_of_length_le (Nat.le_succ_of_le hl)]
      rw [e2]; omega
    | some d =>
      rw [En_succ e]
      have := nx_past (En ds i) d
      omega
theorem nx_undo {S : Dy} {P : List Sta} {q : Nat} {s : Sta} (h : S.past = P.take (q + 1)) (hs : P[q]? = some s) : nx S .undo = (⟨s.1, s.2, P.take q, growD S.N s.1.length⟩, true) := by
  have e : P.take (q + 1) = P.take q ++ [s] := by rw [List.take_add_one, hs, Option.toList_some]
  rw [e] at h
  refine nx_some ?_
  simp only [dstep]
  rw [h, List.getLast?_concat, List.dropLast_concat]
theorem En_left (ds es : List Deed) : En (ds ++ es) ds.length = En ds ds.length := by
  unfold En
  rw [List.take_left, List.take_length]
theorem undo_at (ds : List Deed) {k j : Nat} (h : j < k) : (ds ++ List.replicate k Deed.undo)[ds.length + j]? = some .undo := by
  rw [List.getElem?_append_right (Nat.le_add_right _ _), Nat.add_sub_cancel_left, List.getElem?_replicate, if_pos h]
theorem undo_past {ds : List Deed} {P : List Sta} (hP : (En ds ds.length).past = P) {k : Nat} (hk : P.length ≤ k) : ∀ j, j ≤ P.length → (En (ds ++ List.replicate k Deed.undo) (ds.length + j)).past = P.take (P.length - j)
  | 0, _ => by rw [Nat.add_zero, En_left, hP, Nat.sub_zero, List.take_length]
  | j + 1, h => by
    have ih := undo_past hP hk j (by omega)
    have e : P.length - j = (P.length - (j + 1)) + 1 := by omega
    rw [e] at ih
    have hlt : P.length - (j + 1) < P.length := by omega
    rw [← Nat.add_assoc, En_succ (undo_at ds (by omega)), nx_undo ih (List.getElem?_eq_getElem hlt)]
theorem undone {ds : List Deed} {P : List Sta} (hP : (En ds ds.length).past = P) :
    (∀ j s, P.reverse[j]? = some s → (stsL (ds ++ List.replicate (P.length + 1) Deed.undo) (ds ++ List.replicate (P.length + 1) Deed.undo).length)[ds.length + j]? = some s ∧
      (ansL (ds ++ List.replicate (P.length + 1) Deed.undo) (ds ++ List.replicate (P.length + 1) Deed.undo).length)[ds.length + j]? = some true) ∧
    (ansL (ds ++ List.replicate (P.length + 1) Deed.undo) (ds ++ List.replicate (P.length + 1) Deed.undo).length)[ds.length + P.length]? = some false := by
  have hl : (ds ++ List.replicate (P.length + 1) Deed.undo).length = ds.length + (P.length + 1) := by rw [List.length_append, List.length_replicate]
  rw [hl]
  constructor
  · intro j s hs
    have hj : j < P.length := by
      have := (List.getElem?_eq_some_iff.mp hs).1
      rw [List.length_reverse] at this; exact this
    rw [List.getElem?_reverse hj] at hs
    have ih := undo_past hP (k := P.length + 1) (by omega) j (by omega)
    have e : P.length - j = (P.length - 1 - j) + 1 := by omega
    rw [e] at ih
    have hn := nx_undo ih hs
    have hu := undo_at ds (k := P.length + 1) (j := j) (by omega)
    constructor
    · rw [stsL_get (by omega), En_succ hu, hn]
      rfl
    · rw [ansL_get (by omega) hu, hn]
  · have ih := undo_past hP (k := P.length + 1) (by omega) P.length (Nat.le_refl _)
    rw [Nat.sub_self, List.take_zero] at ih
    have hu := undo_at ds (k := P.length + 1) (j := P.length) (by omega)
    rw [ansL_get (by omega) hu]
    have hd : dstep (En (ds ++ List.replicate (P.length + 1) Deed.undo) (ds.length + P.length)).t (En (ds ++ List.replicate (P.length + 1) Deed.undo) (ds.length + P.length)).h (En (ds ++ List.replicate (P.length + 1) Deed.undo) (ds.length + P.length)).past .undo = none := by
      rw [ih]; rfl
    rw [nx_none hd]
theorem atI_end {α : Type} {xs : List α} {v : α} {n : Nat} (hl : xs.length = n + 1) (h : xs[n]? = some v) : atI xs (-1) = some v := by
  have e : xs = xs.take n ++ [v] := by
    have := List.take_add_one (l := xs) (i := n)
    rw [h, Option.toList_some, List.take_of_length_le (by omega)] at this
    exact this
  rw [e]
  exact atI_last _ _
end Gb

set_option Elab.async false
set_option linter.all false
set_option maxRecDepth 100000
set_option maxHeartbeats 4000000
local macro_rules | `(tactic| walk_at "look") => `(tactic| (repeat (first | (with_reducible exact L2.upd_same) | assumption | refine L2.sn (by assumption) ?_ | refine L2.Same.at (by assumption) ?_)))
local macro_rules | `(tactic| walk_at "same") => `(tactic| (repeat (first | exact L2.Same.refl _ | assumption | refine L2.Same.trans ?_ (L2.Same.new (by assumption)) | refine L2.Same.trans ?_ (by assumption))))
namespace Gb
open PySem L2 PyProof.Rows GbM
def top (i : Nat) : Stmt := PySem.Challenge.pw_gapbench_k06_whole_undone_to_nothing.main.body.getD i (.Pass ⟨0, 0, 0, 0⟩)
abbrev s_signs_ahead : Stmt := top 2
abbrev s_signs_behind : Stmt := top 3
abbrev s_laid : Stmt := top 4
abbrev s_size_for : Stmt := top 5
abbrev s_text_of : Stmt := top 6
abbrev s_moved : Stmt := top 7
abbrev s_put_all : Stmt := top 8
abbrev s_less_ahead : Stmt := top 9
abbrev s_less_behind : Stmt := top 10
abbrev s_rows_of : Stmt := top 13
abbrev s_first_of : Stmt := top 14
abbrev s_rubbed : Stmt := top 18
abbrev s_cleared : Stmt := top 19
abbrev s_gone : Stmt := top 20
abbrev s_gone_to_row : Stmt := top 21
abbrev s_bench_after : Stmt := top 22
abbrev s_state_of : Stmt := top 23
abbrev s___init__ : Stmt := inClass (top 24) 0
abbrev s_does : Stmt := inClass (top 24) 1
abbrev s_undoes : Stmt := inClass (top 24) 2
abbrev s_answers : Stmt := top 25
abbrev s_states : Stmt := top 26
abbrev s__law_whole : Stmt := top 28
abbrev s__law_signed : Stmt := top 29
abbrev s__law_deeds : Stmt := top 30
abbrev s__law_first : Stmt := top 31
abbrev s__law_next : Stmt := top 32
abbrev s_law : Stmt := top 33
/-- where the text's defs stand -/
structure Adr where
  f_signs_ahead : Addr
  fd_signs_ahead : FuncData
  f_signs_behind : Addr
  fd_signs_behind : FuncData
  f_laid : Addr
  fd_laid : FuncData
  f_size_for : Addr
  fd_size_for : FuncData
  f_text_of : Addr
  fd_text_of : FuncData
  f_moved : Addr
  fd_moved : FuncData
  f_put_all : Addr
  fd_put_all : FuncData
  f_less_ahead : Addr
  fd_less_ahead : FuncData
  f_less_behind : Addr
  fd_less_behind : FuncData
  f_rows_of : Addr
  fd_rows_of : FuncData
  f_first_of : Addr
  fd_first_of : FuncData
  f_rubbed : Addr
  fd_rubbed : FuncData
  f_cleared : Addr
  fd_cleared : FuncData
  f_gone : Addr
  fd_gone : FuncData
  f_gone_to_row : Addr
  fd_gone_to_row : FuncData
  f_bench_after : Addr
  fd_bench_after : FuncData
  f_state_of : Addr
  fd_state_of : FuncData
  f___init__ : Addr
  fd___init__ : FuncData
  f_does : Addr
  fd_does : FuncData
  f_undoes : Addr
  fd_undoes : FuncData
  f_answers : Addr
  fd_answers : FuncData
  f_states : Addr
  fd_states : FuncData
  f__law_whole : Addr
  fd__law_whole : FuncData
  f__law_signed : Addr
  fd__law_signed : FuncData
  f__law_deeds : Addr
  fd__law_deeds : FuncData
  f__law_first : Addr
  fd__law_first : FuncData
  f__law_next : Addr
  fd__law_next : FuncData
  f_law : Addr
  fd_law : FuncData
  C : Addr
  u_MORE_CELLS : Value
  u_ROW_END : Value
  u_CELLS_AT_FIRST : Value
  u_DEEDS_TO_UNDO : Value
structure Txt (K : PySem.W.Frag) (mg : Str → Option Value) (A : Adr) : Prop where
  F_signs_ahead : Fun K "signs_ahead" "signs_ahead" s_signs_ahead A.f_signs_ahead A.fd_signs_ahead
  b_signs_ahead : Binds K A.fd_signs_ahead ["bench"] []
  m_signs_ahead : mg "signs_ahead" = some (.ref A.f_signs_ahead)
  F_signs_behind : Fun K "signs_behind" "signs_behind" s_signs_behind A.f_signs_behind A.fd_signs_behind
  b_signs_behind : Binds K A.fd_signs_behind ["bench"] []
  m_signs_behind : mg "signs_behind" = some (.ref A.f_signs_behind)
  F_laid : Fun K "laid" "laid" s_laid A.f_laid A.fd_laid
  b_laid : Binds K A.fd_laid ["ahead", "behind", "size"] []
  m_laid : mg "laid" = some (.ref A.f_laid)
  F_size_for : Fun K "size_for" "size_for" s_size_for A.f_size_for A.fd_size_for
  b_size_for : Binds K A.fd_size_for ["size", "signs"] []
  m_size_for : mg "size_for" = some (.ref A.f_size_for)
  F_text_of : Fun K "text_of" "text_of" s_text_of A.f_text_of A.fd_text_of
  b_text_of : Binds K A.fd_text_of ["bench"] []
  m_text_of : mg "text_of" = some (.ref A.f_text_of)
  F_moved : Fun K "moved" "moved" s_moved A.f_moved A.fd_moved
  b_moved : Binds K A.fd_moved ["bench", "place"] []
  m_moved : mg "moved" = some (.ref A.f_moved)
  F_put_all : Fun K "put_all" "put_all" s_put_all A.f_put_all A.fd_put_all
  b_put_all : Binds K A.fd_put_all ["bench", "text"] []
  m_put_all : mg "put_all" = some (.ref A.f_put_all)
  F_less_ahead : Fun K "less_ahead" "less_ahead" s_less_ahead A.f_less_ahead A.fd_less_ahead
  b_less_ahead : Binds K A.fd_less_ahead ["bench", "many"] []
  m_less_ahead : mg "less_ahead" = some (.ref A.f_less_ahead)
  F_less_behind : Fun K "less_behind" "less_behind" s_less_behind A.f_less_behind A.fd_less_behind
  b_less_behind : Binds K A.fd_less_behind ["bench", "many"] []
  m_less_behind : mg "less_behind" = some (.ref A.f_less_behind)
  F_rows_of : Fun K "rows_of" "rows_of" s_rows_of A.f_rows_of A.fd_rows_of
  b_rows_of : Binds K A.fd_rows_of ["text"] []
  m_rows_of : mg "rows_of" = some (.ref A.f_rows_of)
  F_first_of : Fun K "first_of" "first_of" s_first_of A.f_first_of A.fd_first_of
  b_first_of : Binds K A.fd_first_of ["text", "number"] []
  m_first_of : mg "first_of" = some (.ref A.f_first_of)
  F_rubbed : Fun K "rubbed" "rubbed" s_rubbed A.f_rubbed A.fd_rubbed
  b_rubbed : Binds K A.fd_rubbed ["bench", "many"] []
  m_rubbed : mg "rubbed" = some (.ref A.f_rubbed)
  F_cleared : Fun K "cleared" "cleared" s_cleared A.f_cleared A.fd_cleared
  b_cleared : Binds K A.fd_cleared ["bench", "many"] []
  m_cleared : mg "cleared" = some (.ref A.f_cleared)
  F_gone : Fun K "gone" "gone" s_gone A.f_gone A.fd_gone
  b_gone : Binds K A.fd_gone ["bench", "place"] []
  m_gone : mg "gone" = some (.ref A.f_gone)
  F_gone_to_row : Fun K "gone_to_row" "gone_to_row" s_gone_to_row A.f_gone_to_row A.fd_gone_to_row
  b_gone_to_row : Binds K A.fd_gone_to_row ["bench", "number"] []
  m_gone_to_row : mg "gone_to_row" = some (.ref A.f_gone_to_row)
  F_bench_after : Fun K "bench_after" "bench_after" s_bench_after A.f_bench_after A.fd_bench_after
  b_bench_after : Binds K A.fd_bench_after ["bench", "deed"] []
  m_bench_after : mg "bench_after" = some (.ref A.f_bench_after)
  F_state_of : Fun K "state_of" "state_of" s_state_of A.f_state_of A.fd_state_of
  b_state_of : Binds K A.fd_state_of ["bench"] []
  m_state_of : mg "state_of" = some (.ref A.f_state_of)
  F___init__ : Fun K "__init__" "Day.__init__" s___init__ A.f___init__ A.fd___init__
  b___init__ : Binds K A.fd___init__ ["self"] []
  F_does : Fun K "does" "Day.does" s_does A.f_does A.fd_does
  b_does : Binds K A.fd_does ["self", "deed"] []
  F_undoes : Fun K "undoes" "Day.undoes" s_undoes A.f_undoes A.fd_undoes
  b_undoes : Binds K A.fd_undoes ["self"] []
  F_answers : Fun K "answers" "answers" s_answers A.f_answers A.fd_answers
  b_answers : Binds K A.fd_answers ["deeds"] []
  m_answers : mg "answers" = some (.ref A.f_answers)
  F_states : Fun K "states" "states" s_states A.f_states A.fd_states
  b_states : Binds K A.fd_states ["deeds"] []
  m_states : mg "states" = some (.ref A.f_states)
  F__law_whole : Fun K "_law_whole" "_law_whole" s__law_whole A.f__law_whole A.fd__law_whole
  b__law_whole : Binds K A.fd__law_whole ["_law_found"] []
  m__law_whole : mg "_law_whole" = some (.ref A.f__law_whole)
  F__law_signed : Fun K "_law_signed" "_law_signed" s__law_signed A.f__law_signed A.fd__law_signed
  b__law_signed : Binds K A.fd__law_signed ["_law_seed"] []
  m__law_signed : mg "_law_signed" = some (.ref A.f__law_signed)
  F__law_deeds : Fun K "_law_deeds" "_law_deeds" s__law_deeds A.f__law_deeds A.fd__law_deeds
  b__law_deeds : Binds K A.fd__law_deeds ["_law_cells"] []
  m__law_deeds : mg "_law_deeds" = some (.ref A.f__law_deeds)
  F__law_first : Fun K "_law_first" "_law_first" s__law_first A.f__law_first A.fd__law_first
  b__law_first : Binds K A.fd__law_first ["_law_text", "_law_number"] []
  m__law_first : mg "_law_first" = some (.ref A.f__law_first)
  F__law_next : Fun K "_law_next" "_law_next" s__law_next A.f__law_next A.fd__law_next
  b__law_next : Binds K A.fd__law_next ["_law_text", "_law_hand", "_law_past", "_law_deed"] []
  m__law_next : mg "_law_next" = some (.ref A.f__law_next)
  F_law : Fun K "law" "law" s_law A.f_law A.fd_law
  b_law : Binds K A.fd_law ["_law_script"] []
  m_law : mg "law" = some (.ref A.f_law)
  cl : Cls K A.C
  mgDay : mg "Day" = some (.ref A.C)
  mkDay : Mk K A.C A.f___init__
  nBench : NoAttr K A.C "bench"
  nPast : NoAttr K A.C "past"
  me_does : Meth K A.C "does" A.f_does
  me_undoes : Meth K A.C "undoes" A.f_undoes
  c_MORE_CELLS : mg "MORE_CELLS" = some A.u_MORE_CELLS
  r_MORE_CELLS : RelV (.int 4) A.u_MORE_CELLS
  c_ROW_END : mg "ROW_END" = some A.u_ROW_END
  r_ROW_END : RelV (.str "/") A.u_ROW_END
  c_CELLS_AT_FIRST : mg "CELLS_AT_FIRST" = some A.u_CELLS_AT_FIRST
  r_CELLS_AT_FIRST : RelV (.int 4) A.u_CELLS_AT_FIRST
  c_DEEDS_TO_UNDO : mg "DEEDS_TO_UNDO" = some A.u_DEEDS_TO_UNDO
  r_DEEDS_TO_UNDO : (∃ a, A.u_DEEDS_TO_UNDO = .ref a ∧ ∃ (o : Obj) (its : Array Value) (n : Nat), K.lookup a = some o ∧ o.cls = .type "tuple" ∧ o.data = .seq its n ∧ its.size ≤ sizeLine ∧ Vals [.str "put", .str "rub", .str "clear"] its.toList)
  B : Blt mg
section
variable {P : Program} {w : World} {K : PySem.W.Frag} {mg : Str → Option Value} {base : Heap} {A : Adr}
theorem sc_signs_ahead : FnScope ["bench"] ["bench"] (defScope s_signs_ahead) := ⟨rfl, rfl, rfl, by decide +kernel, rfl, by decide +kernel, by decide +kernel⟩
def sp_signs_ahead : Sp := fun vs H Q _ => ∃ (t : Addr) (x y : Tx) (g : Nat), vs = [.ref t] ∧ BenchAt H t x y g ∧ ∀ p H', Same H H' → H' p = some (.lst (sg x)) → Q (.ref p) H'
theorem ok_signs_ahead (T : Txt K mg A) : FnOk P w K mg base CX0 1 A.f_signs_ahead A.fd_signs_ahead ["bench"] sp_signs_ahead := by
  have B := T.B
  refine T.F_signs_ahead.ok sc_signs_ahead (fun vs H Q E h => ?_) (fun cdv A' outer s H vs Q E hr h => ?_)
  · obtain ⟨t, x, y, g, rfl, _⟩ := h
    rfl
  · have hu := hr.units0
    obtain ⟨t, x, y, g, rfl, ⟨c, h1, h2⟩, k⟩ := h
    refine ⟨_, (pss_one (ps_ret (pe_slice sl_list (pe_ix ix_tup (pv 0) pe_int (fun _ _ => rfl)) po_none (po_some (pe_ix ix_tup (pv 0) pe_int (fun _ _ => rfl)))))), ?_⟩
    refine ⟨_, rfl, t, _, 0, _, rfl, rfl, SqT.of h1, rfl, ?_⟩
    refine ⟨_, rfl, t, _, 1, _, rfl, rfl, SqT.of h1, rfl, _, rfl, ?_⟩
    refine ⟨c, _, rfl, SqL.of h2, fun p f => ?_⟩
    exact k p _ (Same.new f) (by rw [upd_same, cutV_to, cells_take])
theorem sc_signs_behind : FnScope ["bench"] ["bench"] (defScope s_signs_behind) := ⟨rfl, rfl, rfl, by decide +kernel, rfl, by decide +kernel, by decide +kernel⟩
def sp_signs_behind : Sp := fun vs H Q _ => ∃ (t : Addr) (x y : Tx) (g : Nat), vs = [.ref t] ∧ BenchAt H t x y g ∧ ∀ p H', Same H H' → H' p = some (.lst (sg y)) → Q (.ref p) H'
theorem ok_signs_behind (T : Txt K mg A) : FnOk P w K mg base CX0 1 A.f_signs_behind A.fd_signs_behind ["bench"] sp_signs_behind := by
  have B := T.B
  refine T.F_signs_behind.ok sc_signs_behind (fun vs H Q E h => ?_) (fun cdv A' outer s H vs Q E hr h => ?_)
  · obtain ⟨t, x, y, g, rfl, _⟩ := h
    rfl
  · have hu := hr.units0
    obtain ⟨t, x, y, g, rfl, ⟨c, h1, h2⟩, k⟩ := h
    refine ⟨_, (pss_one (ps_ret (pe_slice sl_list (pe_ix ix_tup (pv 0) pe_int (fun _ _ => rfl)) (po_some (pe_ix ix_tup (pv 0) pe_int (fun _ _ => rfl))) po_none))), ?_⟩
    refine ⟨_, rfl, t, _, 0, _, rfl, rfl, SqT.of h1, rfl, ?_⟩
    refine ⟨_, rfl, t, _, 2, _, rfl, rfl, SqT.of h1, rfl, _, rfl, ?_⟩
    refine ⟨c, _, rfl, SqL.of h2, fun p f => ?_⟩
    exact k p _ (Same.new f) (by rw [upd_same, cutV_from, cells_drop])
theorem sc_laid : FnScope ["ahead", "behind", "size", "start", "stop"] ["ahead", "behind", "size"] (defScope s_laid) := ⟨rfl, rfl, rfl, by decide +kernel, rfl, by decide +kernel, by decide +kernel⟩
def sp_laid : Sp := fun vs H Q _ => ∃ (a b : Addr) (x y : Tx) (n : Nat), vs = [.ref a, .ref b, .int (n : Int)] ∧ H a = some (.lst (sg x)) ∧ H b = some (.lst (sg y)) ∧ x.length + y.length ≤ n ∧ n ≤ 1000000 ∧ ∀ p H', Same H H' → BenchAt H' p x y (n - x.length - y.length) → Q (.ref p) H'
theorem ok_laid (T : Txt K mg A) : FnOk P w K mg base CX0 1 A.f_laid A.fd_laid ["ahead", "behind", "size"] sp_laid := by
  have B := T.B
  refine T.F_laid.ok sc_laid (fun vs H Q E h => ?_) (fun cdv A' outer s H vs Q E hr h => ?_)
  · obtain ⟨a, b, x, y, n, rfl, _⟩ := h
    rfl
  · have hu := hr.units0
    obtain ⟨a, b, x, y, n, rfl, ha, hb, hn, hz, k⟩ := h
    have hsl := sizeLine_eq
    have lx := sg_length x
    have ly := sg_length y
    refine ⟨_, (pss_cons (ps_set (i := 3) sc_laid.nd rfl (Or.inl rfl) (pe_callB call_len (by rfl) B.len b_len (pa_cons (pv 0) pa_nil)))
      (pss_cons (ps_set (i := 4) sc_laid.nd rfl (Or.inl rfl) (pe_op op_subI (pv 2) (pe_callB call_len (by rfl) B.len b_len (pa_cons (pv 1) pa_nil))))
      (pss_one (ps_ret (pe_tup (pa_cons (pe_op op_cat (pe_op op_cat (pv 0) (pe_op op_rep (pe_lst (pa_cons pe_non pa_nil)) (pe_op op_subI (pv 4) (pv 3)))) (pv 1)) (pa_cons (pv 3) (pa_cons (pv 4) pa_nil)))))))), ?_⟩
    refine ⟨_, rfl, _, _, rfl, Or.inl ⟨_, SqL.of ha, rfl⟩, ?_⟩
    refine ⟨_, rfl, _, rfl, _, _, rfl, Or.inl ⟨_, SqL.of hb, rfl⟩, _, _, rfl, rfl, ?_⟩
    refine ⟨_, rfl, (by simp [sizeLine_eq]), fun p1 f1 => ?_⟩
    refine ⟨_, rfl, _, rfl, _, _, rfl, rfl, ?_⟩
    have hk : ((n : Int) - ((sg y).length : Int) - ((sg x).length : Int)).toNat = n - x.length - y.length := by omega
    refine ⟨p1, _, _, rfl, rfl, upd_same, by omega, by omega, by rw [hk, List.length_singleton]; omega, fun p2 f2 => ?_⟩
    have lr : ((List.replicate ((n : Int) - ((sg y).length : Int) - ((sg x).length : Int)).toNat [V.non]).flatten).length = n - x.length - y.length := by rw [hk, rep_non, List.length_replicate]
    refine ⟨a, p2, _, _, rfl, rfl, sn f2 (sn f1 ha), upd_same, by omega, fun p3 f3 => ?_⟩
    refine ⟨_, rfl, p3, b, _, _, rfl, rfl, upd_same, sn f3 (sn f2 (sn f1 hb)), by rw [List.length_append]; omega, fun p4 f4 => ?_⟩
    refine ⟨_, rfl, _, rfl, (by simp [sizeLine_eq]), fun p5 f5 => ?_⟩
    refine k p5 _ (((((Same.new f1).trans (Same.new f2)).trans (Same.new f3)).trans (Same.new f4)).trans (Same.new f5)) ⟨p4, ?_, ?_⟩
    · rw [upd_same]
      show some (HO.tup [V.ref p4, V.int ((sg x).length : Int), V.int ((n : Int) - ((sg y).length : Int))]) = _
      have e2 : (n : Int) - ((sg y).length : Int) = ((x.length + (n - x.length - y.length) : Nat) : Int) := by omega
      rw [e2, lx]
    · refine (sn f5 upd_same).trans ?_
      rw [hk, rep_non]
      rfl
theorem sc_size_for : FnScope ["size", "signs"] ["size", "signs"] (defScope s_size_for) := ⟨rfl, rfl, rfl, by decide +kernel, rfl, by decide +kernel, by decide +kernel⟩
def sp_size_for : Sp := fun vs H Q _ => ∃ n m : Nat, vs = [.int (n : Int), .int (m : Int)] ∧ Q (.int (grow n m : Nat)) H
theorem ok_size_for (T : Txt K mg A) : FnOk P w K mg base CX0 1 A.f_size_for A.fd_size_for ["size", "signs"] sp_size_for := by
  have B := T.B
  refine T.F_size_for.ok sc_size_for (fun vs H Q E h => ?_) (fun cdv A' outer s H vs Q E hr h => ?_)
  · obtain ⟨n, m, rfl, _⟩ := h
    rfl
  · have hu := hr.units0
    obtain ⟨n, m, rfl, k⟩ := h
    refine ⟨_, (pss_cons (ps_while PassesOwn.never (pt_cmpR op_lt (pv 0) (pv 1) (nomark _)) (pss_one (ps_set (i := 0) sc_size_for.nd rfl (Or.inl rfl) (pe_op op_addI (pe_op op_addI (pv 0) (pv 0)) (pe_glob (by rfl) T.c_MORE_CELLS T.r_MORE_CELLS)))))
      (pss_one (ps_ret (pv 0)))), ?_⟩
    refine while_by (fun σ H2 => ∃ n2 : Nat, σ = [some (.int (n2 : Int)), some (.int (m : Int))] ∧ H2 = H ∧ grow n2 m = grow n m)
      (fun σ _ => match σ with | [some (.int i), _] => m - i.toNat | _ => 0) ⟨n, rfl, rfl, rfl⟩ ?_ ?_
    · rintro σ H2 ⟨n2, rfl, eH, eg⟩
      refine ⟨_, rfl, _, rfl, _, _, rfl, rfl, _, rfl, ?_⟩
      refine ite2 (fun hc => ?_) (fun hc => ?_)
      · have hn : n2 < m := by have := of_decide_eq_true hc; omega
        refine ⟨_, rfl, _, rfl, _, _, rfl, rfl, _, _, rfl, rfl, ?_⟩
        refine ⟨⟨n2 + n2 + 4, rfl, eH, ?_⟩, ?_⟩
        · rw [← eg, grow_step hn]
        · show m - ((n2 : Int) + (n2 : Int) + 4).toNat < m - ((n2 : Int)).toNat
          omega
      · have hn : m ≤ n2 := by
          have h' : ¬ ((n2 : Int) < (m : Int)) := fun z => hc (decide_eq_true z)
          omega
        refine ⟨_, rfl, ?_⟩
        rw [← eg, grow_stop hn] at k
        rw [eH]
        exact k
    · rintro σ H2 Q1 Q2 hQ ⟨v, e1, u, e2, i, j, e3, e4, b, e5, q⟩
      exact ⟨v, e1, u, e2, i, j, e3, e4, b, e5, hQ _ _ q⟩
theorem sc_text_of : FnScope ["bench"] ["bench"] (defScope s_text_of) := ⟨rfl, rfl, rfl, by decide +kernel, rfl, by decide +kernel, by decide +kernel⟩
def sp_text_of : Sp := fun vs H Q _ => ∃ (t : Addr) (x y : Tx) (g : Nat), vs = [.ref t] ∧ BenchAt H t x y g ∧ x.length + y.length ≤ 1000000 ∧ ∀ H', Same H H' → Q (.str (strL (x ++ y))) H'
theorem ok_text_of (T : Txt K mg A) : FnOk P w K mg base CX0 2 A.f_text_of A.fd_text_of ["bench"] sp_text_of := by
  have B := T.B
  refine T.F_text_of.ok sc_text_of (fun vs H Q E h => ?_) (fun cdv A' outer s H vs Q E hr h => ?_)
  · obtain ⟨t, x, y, g, rfl, _⟩ := h
    rfl
  · have hu := hr.units0
    obtain ⟨t, x, y, g, rfl, hb, hz, k⟩ := h
    have hsl := sizeLine_eq
    have lx := sg_length x
    have ly := sg_length y
    refine ⟨_, (pss_one (ps_ret (pe_bm F.plainAttrs_str F.slot_str_join F.type_str_join mt_join pe_str (pa_cons (pe_op op_cat (pe_call (ok_signs_ahead T) (hr.mono (by decide)) (by rfl) T.m_signs_ahead T.F_signs_ahead.kp T.b_signs_ahead .nil pass0 (pa_cons (pv 0) pa_nil)) (pe_call (ok_signs_behind T) (hr.mono (by decide)) (by rfl) T.m_signs_behind T.F_signs_behind.kp T.b_signs_behind .nil pass0 (pa_cons (pv 0) pa_nil))) pa_nil)))), ?_⟩
    refine ⟨rfl, _, rfl, t, x, y, g, rfl, hb, fun p1 H1 s1 e1 => ?_⟩
    refine ⟨_, rfl, t, x, y, g, rfl, hb.mono s1, fun p2 H2 s2 e2 => ?_⟩
    refine ⟨p1, p2, _, _, rfl, rfl, s2 _ _ e1, e2, by omega, fun p3 f3 => ?_⟩
    have lo : (ones (x ++ y)).length = x.length + y.length := by simp [ones]
    refine ⟨_, p3, ones (x ++ y), rfl, rfl, SqL.of (by rw [upd_same, ← sg_append, sg_ones]), ?_, ?_⟩
    · rw [ones_sum]
      show (x ++ y).length + (ones (x ++ y)).length * 0 ≤ _
      rw [List.length_append]; omega
    · refine (?_ : Q (V.str (Str.join "" (ones (x ++ y)))) _)
      rw [join_ones]
      exact k _ ((s1.trans s2).trans (Same.new f3))
theorem sc_moved : FnScope ["bench", "place", "signs"] ["bench", "place"] (defScope s_moved) := ⟨rfl, rfl, rfl, by decide +kernel, rfl, by decide +kernel, by decide +kernel⟩
def sp_moved : Sp := fun vs H Q _ => ∃ (t : Addr) (x y : Tx) (g n : Nat), vs = [.ref t, .int (n : Int)] ∧ BenchAt H t x y g ∧ n ≤ x.length + y.length ∧ x.length + g + y.length ≤ 1000000 ∧ ∀ p H', Same H H' → BenchAt H' p ((x ++ y).take n) ((x ++ y).drop n) g → Q (.ref p) H'
theorem ok_moved (T : Txt K mg A) : FnOk P w K mg base CX0 2 A.f_moved A.fd_moved ["bench", "place"] sp_moved := by
  have B := T.B
  refine T.F_moved.ok sc_moved (fun vs H Q E h => ?_) (fun cdv A' outer s H vs Q E hr h => ?_)
  · obtain ⟨t, x, y, g, n, rfl, _⟩ := h
    rfl
  · have hu := hr.units0
    obtain ⟨t, x, y, g, n, rfl, hb, hn, hz, k⟩ := h
    have hsl := sizeLine_eq
    have lx := sg_length x
    have ly := sg_length y
    have hb0 := hb
    obtain ⟨c, h1, h2⟩ := hb0
    refine ⟨_, (pss_cons (ps_set (i := 2) sc_moved.nd rfl (Or.inl rfl) (pe_op op_cat (pe_call (ok_signs_ahead T) (hr.mono (by decide)) (by rfl) T.m_signs_ahead T.F_signs_ahead.kp T.b_signs_ahead .nil pass0 (pa_cons (pv 0) pa_nil)) (pe_call (ok_signs_behind T) (hr.mono (by decide)) (by rfl) T.m_signs_behind T.F_signs_behind.kp T.b_signs_behind .nil pass0 (pa_cons (pv 0) pa_nil))))
      (pss_one (ps_ret (pe_call (ok_laid T) (hr.mono (by decide)) (by rfl) T.m_laid T.F_laid.kp T.b_laid .nil pass0 (pa_cons (pe_slice sl_list (pv 2) po_none (po_some (pv 1))) (pa_cons (pe_slice sl_list (pv 2) (po_some (pv 1)) po_none) (pa_cons (pe_callB call_len (by rfl) B.len b_len (pa_cons (pe_ix ix_tup (pv 0) pe_int (fun _ _ => rfl)) pa_nil)) pa_nil))))))), ?_⟩
    refine ⟨_, rfl, t, x, y, g, rfl, hb, fun p1 H1 s1 e1 => ?_⟩
    refine ⟨_, rfl, t, x, y, g, rfl, hb.mono s1, fun p2 H2 s2 e2 => ?_⟩
    refine ⟨p1, p2, _, _, rfl, rfl, s2 _ _ e1, e2, by omega, fun p3 f3 => ?_⟩
    refine ⟨_, rfl, _, rfl, _, rfl, p3, _, rfl, SqL.of upd_same, fun p4 f4 => ?_⟩
    refine ⟨_, rfl, _, rfl, _, rfl, p3, _, rfl, SqL.of (sn f4 upd_same), fun p5 f5 => ?_⟩
    refine ⟨_, rfl, t, _, 0, _, rfl, rfl, SqT.of (sn f5 (sn f4 (sn f3 (s2 _ _ (s1 _ _ h1))))), rfl, _, _, rfl, Or.inl ⟨_, SqL.of (sn f5 (sn f4 (sn f3 (s2 _ _ (s1 _ _ h2))))), rfl⟩, ?_⟩
    have lt : ((x ++ y).take n).length = n := by rw [List.length_take, List.length_append]; omega
    have ld : ((x ++ y).drop n).length = x.length + y.length - n := by rw [List.length_drop, List.length_append]
    have lc := cells_length x y g
    refine ⟨p4, p5, (x ++ y).take n, (x ++ y).drop n, _, rfl, ?_, ?_, by omega, by omega, fun p6 H6 s6 b6 => ?_⟩
    · refine (sn f5 upd_same).trans ?_
      rw [cutV_to, ← sg_append, sg_take]
    · rw [upd_same, cutV_from, ← sg_append, sg_drop]
    · have eg : (cells x y g).length - ((x ++ y).take n).length - ((x ++ y).drop n).length = g := by omega
      rw [eg] at b6
      exact k p6 _ (((((s1.trans s2).trans (Same.new f3)).trans (Same.new f4)).trans (Same.new f5)).trans s6) b6
theorem sc_put_all : FnScope ["bench", "text", "ahead", "behind"] ["bench", "text"] (defScope s_put_all) := ⟨rfl, rfl, rfl, by decide +kernel, rfl, by decide +kernel, by decide +kernel⟩
def sp_put_all : Sp := fun vs H Q _ => ∃ (t : Addr) (x y z : Tx) (g : Nat), vs = [.ref t, .str (strL z)] ∧ BenchAt H t x y g ∧ x.length + g + y.length ≤ 100000 ∧ z.length ≤ 100000 ∧ ∀ p H', Same H H' → BenchAt H' p (x ++ z) y (grow (x.length + g + y.length) (x.length + z.length + y.length) - (x.length + z.length) - y.length) → Q (.ref p) H'
theorem ok_put_all (T : Txt K mg A) : FnOk P w K mg base CX0 2 A.f_put_all A.fd_put_all ["bench", "text"] sp_put_all := by
  have B := T.B
  refine T.F_put_all.ok sc_put_all (fun vs H Q E h => ?_) (fun cdv A' outer s H vs Q E hr h => ?_)
  · obtain ⟨t, x, y, z, g, rfl, _⟩ := h
    rfl
  · have hu := hr.units0
    obtain ⟨t, x, y, z, g, rfl, hb, hz, hz2, k⟩ := h
    have hsl := sizeLine_eq
    have lx := sg_length x
    have ly := sg_length y
    have lz := sg_length z
    have hb0 := hb
    obtain ⟨c, h1, h2⟩ := hb0
    refine ⟨_, (pss_cons (ps_set (i := 2) sc_put_all.nd rfl (Or.inl rfl) (pe_op op_cat (pe_call (ok_signs_ahead T) (hr.mono (by decide)) (by rfl) T.m_signs_ahead T.F_signs_ahead.kp T.b_signs_ahead .nil pass0 (pa_cons (pv 0) pa_nil)) (pe_callTy (call_listS rfl) (by rfl) B.list b_list (pa_cons (pv 1) pa_nil))))
      (pss_cons (ps_set (i := 3) sc_put_all.nd rfl (Or.inl rfl) (pe_call (ok_signs_behind T) (hr.mono (by decide)) (by rfl) T.m_signs_behind T.F_signs_behind.kp T.b_signs_behind .nil pass0 (pa_cons (pv 0) pa_nil)))
      (pss_one (ps_ret (pe_call (ok_laid T) (hr.mono (by decide)) (by rfl) T.m_laid T.F_laid.kp T.b_laid .nil pass0 (pa_cons (pv 2) (pa_cons (pv 3) (pa_cons (pe_call (ok_size_for T) (hr.mono (by decide)) (by rfl) T.m_size_for T.F_size_for.kp T.b_size_for .nil pass0 (pa_cons (pe_callB call_len (by rfl) B.len b_len (pa_cons (pe_ix ix_tup (pv 0) pe_int (fun _ _ => rfl)) pa_nil)) (pa_cons (pe_op op_addI (pe_callB call_len (by rfl) B.len b_len (pa_cons (pv 2) pa_nil)) (pe_callB call_len (by rfl) B.len b_len (pa_cons (pv 3) pa_nil))) pa_nil))) pa_nil)))))))), ?_⟩
    refine ⟨_, rfl, t, x, y, g, rfl, hb, fun p1 H1 s1 e1 => ?_⟩
    refine ⟨_, rfl, _, rfl, by rw [strL_length]; omega, fun p2 f2 => ?_⟩
    rw [sg_signs]
    refine ⟨p1, p2, _, _, rfl, rfl, sn f2 e1, upd_same, by omega, fun p3 f3 => ?_⟩
    rw [← sg_append]
    refine ⟨_, rfl, t, x, y, g, rfl, hb.mono (by walk_at "same"), fun p4 H4 s4 e4 => ?_⟩
    have e3 : H4 p3 = some (.lst (sg (x ++ z))) := s4 _ _ upd_same
    have s5 : Same H H4 := (s1.trans ((Same.new f2).trans (Same.new f3))).trans s4
    have lxz : (sg (x ++ z)).length = x.length + z.length := by rw [sg_length, List.length_append]
    have lc := cells_length x y g
    refine ⟨_, rfl, _, rfl, ?_⟩
    refine ⟨_, rfl, t, _, 0, _, rfl, rfl, SqT.of (s5 _ _ h1), rfl, _, _, rfl, Or.inl ⟨_, SqL.of (s5 _ _ h2), rfl⟩, ?_⟩
    refine ⟨_, rfl, _, _, rfl, Or.inl ⟨_, SqL.of e3, rfl⟩, _, rfl, _, _, rfl, Or.inl ⟨_, SqL.of e4, rfl⟩, _, _, rfl, rfl, ?_⟩
    have em : (((sg (x ++ z)).length : Nat) : Int) + (((sg y).length : Nat) : Int) = ((x.length + z.length + y.length : Nat) : Int) := by omega
    rw [em, lc]
    have g1 := grow_ge (x.length + g + y.length) (x.length + z.length + y.length)
    have g2 := grow_le (x.length + g + y.length) (x.length + z.length + y.length)
    refine ⟨_, _, rfl, p3, p4, x ++ z, y, _, rfl, e3, e4, by rw [List.length_append]; omega, by omega, fun p H5 s6 b => ?_⟩
    rw [List.length_append] at b
    exact k p _ (s5.trans s6) b
theorem sc_less_ahead : FnScope ["bench", "many", "ahead"] ["bench", "many"] (defScope s_less_ahead) := ⟨rfl, rfl, rfl, by decide +kernel, rfl, by decide +kernel, by decide +kernel⟩
def sp_less_ahead : Sp := fun vs H Q _ => ∃ (t : Addr) (x y : Tx) (g n : Nat), vs = [.ref t, .int (n : Int)] ∧ BenchAt H t x y g ∧ n ≤ x.length ∧ x.length + g + y.length ≤ 1000000 ∧ ∀ p H', Same H H' → BenchAt H' p (x.take (x.length - n)) y (g + n) → Q (.ref p) H'
theorem ok_less_ahead (T : Txt K mg A) : FnOk P w K mg base CX0 2 A.f_less_ahead A.fd_less_ahead ["bench", "many"] sp_less_ahead := by
  have B := T.B
  refine T.F_less_ahead.ok sc_less_ahead (fun vs H Q E h => ?_) (fun cdv A' outer s H vs Q E hr h => ?_)
  · obtain ⟨t, x, y, g, n, rfl, _⟩ := h
    rfl
  · have hu := hr.units0
    obtain ⟨t, x, y, g, n, rfl, hb, hn, hz, k⟩ := h
    have hsl := sizeLine_eq
    have lx := sg_length x
    have ly := sg_length y
    have hb0 := hb
    obtain ⟨c, h1, h2⟩ := hb0
    refine ⟨_, (pss_cons (ps_set (i := 2) sc_less_ahead.nd rfl (Or.inl rfl) (pe_call (ok_signs_ahead T) (hr.mono (by decide)) (by rfl) T.m_signs_ahead T.F_signs_ahead.kp T.b_signs_ahead .nil pass0 (pa_cons (pv 0) pa_nil)))
      (pss_one (ps_ret (pe_call (ok_laid T) (hr.mono (by decide)) (by rfl) T.m_laid T.F_laid.kp T.b_laid .nil pass0 (pa_cons (pe_slice sl_list (pv 2) po_none (po_some (pe_op op_subI (pe_callB call_len (by rfl) B.len b_len (pa_cons (pv 2) pa_nil)) (pv 1)))) (pa_cons (pe_call (ok_signs_behind T) (hr.mono (by decide)) (by rfl) T.m_signs_behind T.F_signs_behind.kp T.b_signs_behind .nil pass0 (pa_cons (pv 0) pa_nil)) (pa_cons (pe_callB call_len (by rfl) B.len b_len (pa_cons (pe_ix ix_tup (pv 0) pe_int (fun _ _ => rfl)) pa_nil)) pa_nil))))))), ?_⟩
    refine ⟨_, rfl, t, x, y, g, rfl, hb, fun p1 H1 s1 e1 => ?_⟩
    refine ⟨_, rfl, _, rfl, _, _, rfl, Or.inl ⟨_, SqL.of e1, rfl⟩, _, rfl, _, _, rfl, rfl, _, rfl, p1, _, rfl, SqL.of e1, fun p2 f2 => ?_⟩
    have em : (((sg x).length : Nat) : Int) - (n : Int) = ((x.length - n : Nat) : Int) := by omega
    rw [em, cutV_to, ← sg_take]
    refine ⟨_, rfl, t, x, y, g, rfl, hb.mono (by walk_at "same"), fun p3 H3 s3 e3 => ?_⟩
    have s5 : Same H H3 := (s1.trans (Same.new f2)).trans s3
    refine ⟨_, rfl, t, _, 0, _, rfl, rfl, SqT.of (s5 _ _ h1), rfl, _, _, rfl, Or.inl ⟨_, SqL.of (s5 _ _ h2), rfl⟩, ?_⟩
    have lc := cells_length x y g
    have lt : (x.take (x.length - n)).length = x.length - n := by rw [List.length_take]; omega
    refine ⟨p2, p3, x.take (x.length - n), y, _, rfl, s3 _ _ upd_same, e3, by omega, by omega, fun p H5 s6 b => ?_⟩
    have eg : (cells x y g).length - (x.take (x.length - n)).length - y.length = g + n := by omega
    rw [eg] at b
    exact k p _ (s5.trans s6) b
theorem sc_less_behind : FnScope ["bench", "many", "behind"] ["bench", "many"] (defScope s_less_behind) := ⟨rfl, rfl, rfl, by decide +kernel, rfl, by decide +kernel, by decide +kernel⟩
def sp_less_behind : Sp := fun vs H Q _ => ∃ (t : Addr) (x y : Tx) (g n : Nat), vs = [.ref t, .int (n : Int)] ∧ BenchAt H t x y g ∧ n ≤ y.length ∧ x.length + g + y.length ≤ 1000000 ∧ ∀ p H', Same H H' → BenchAt H' p x (y.drop n) (g + n) → Q (.ref p) H'
theorem ok_less_behind (T : Txt K mg A) : FnOk P w K mg base CX0 2 A.f_less_behind A.fd_less_behind ["bench", "many"] sp_less_behind := by
  have B := T.B
  refine T.F_less_behind.ok sc_less_behind (fun vs H Q E h => ?_) (fun cdv A' outer s H vs Q E hr h => ?_)
  · obtain ⟨t, x, y, g, n, rfl, _⟩ := h
    rfl
  · have hu := hr.units0
    obtain ⟨t, x, y, g, n, rfl, hb, hn, hz, k⟩ := h
    have hsl := sizeLine_eq
    have lx := sg_length x
    have ly := sg_length y
    have hb0 := hb
    obtain ⟨c, h1, h2⟩ := hb0
    refine ⟨_, (pss_cons (ps_set (i := 2) sc_less_behind.nd rfl (Or.inl rfl) (pe_call (ok_signs_behind T) (hr.mono (by decide)) (by rfl) T.m_signs_behind T.F_signs_behind.kp T.b_signs_behind .nil pass0 (pa_cons (pv 0) pa_nil)))
      (pss_one (ps_ret (pe_call (ok_laid T) (hr.mono (by decide)) (by rfl) T.m_laid T.F_laid.kp T.b_laid .nil pass0 (pa_cons (pe_call (ok_signs_ahead T) (hr.mono (by decide)) (by rfl) T.m_signs_ahead T.F_signs_ahead.kp T.b_signs_ahead .nil pass0 (pa_cons (pv 0) pa_nil)) (pa_cons (pe_slice sl_list (pv 2) (po_some (pv 1)) po_none) (pa_cons (pe_callB call_len (by rfl) B.len b_len (pa_cons (pe_ix ix_tup (pv 0) pe_int (fun _ _ => rfl)) pa_nil)) pa_nil))))))), ?_⟩
    refine ⟨_, rfl, t, x, y, g, rfl, hb, fun p1 H1 s1 e1 => ?_⟩
    refine ⟨_, rfl, t, x, y, g, rfl, hb.mono s1, fun p2 H2 s2 e2 => ?_⟩
    refine ⟨_, rfl, _, rfl, _, rfl, p1, _, rfl, SqL.of (s2 _ _ e1), fun p3 f3 => ?_⟩
    rw [cutV_from, ← sg_drop]
    have s5 : Same H (upd H2 p3 (.lst (sg (y.drop n)))) := (s1.trans s2).trans (Same.new f3)
    refine ⟨_, rfl, t, _, 0, _, rfl, rfl, SqT.of (s5 _ _ h1), rfl, _, _, rfl, Or.inl ⟨_, SqL.of (s5 _ _ h2), rfl⟩, ?_⟩
    have lc := cells_length x y g
    have ld : (y.drop n).length = y.length - n := List.length_drop
    refine ⟨p2, p3, x, y.drop n, _, rfl, sn f3 e2, upd_same, by omega, by omega, fun p H5 s6 b => ?_⟩
    have eg : (cells x y g).length - x.length - (y.drop n).length = g + n := by omega
    rw [eg] at b
    exact k p _ (s5.trans s6) b
theorem sc_rows_of : FnScope ["text"] ["text"] (defScope s_rows_of) := ⟨rfl, rfl, rfl, by decide +kernel, rfl, by decide +kernel, by decide +kernel⟩
def sp_rows_of : Sp := fun vs H Q _ => ∃ l : Tx, vs = [.str (strL l)] ∧ l.length ≤ 100000 ∧ ∀ p H', Same H H' → H' p = some (.lst ((splitL 47 l).map fun r => V.str (strL r))) → Q (.ref p) H'
theorem ok_rows_of (T : Txt K mg A) : FnOk P w K mg base CX0 1 A.f_rows_of A.fd_rows_of ["text"] sp_rows_of := by
  have B := T.B
  refine T.F_rows_of.ok sc_rows_of (fun vs H Q E h => ?_) (fun cdv A' outer s H vs Q E hr h => ?_)
  · obtain ⟨l, rfl, _⟩ := h
    rfl
  · have hu := hr.units0
    obtain ⟨l, rfl, hz, k⟩ := h
    have hsl := sizeLine_eq
    refine ⟨_, (pss_one (ps_ret (pe_bm F.plainAttrs_str F.slot_str_split F.type_str_split mt_split (pv 0) (pa_cons (pe_glob (by rfl) T.c_ROW_END T.r_ROW_END) pa_nil)))), ?_⟩
    refine ⟨_, rfl, rfl, _, _, rfl, rfl, (by decide), by rw [strL_length]; omega, fun p f => ?_⟩
    exact k p _ (Same.new f) (by rw [upd_same, split_rows])
theorem sc_first_of : FnScope ["text", "number", "rows"] ["text", "number"] (defScope s_first_of) := ⟨rfl, rfl, rfl, by decide +kernel, rfl, by decide +kernel, by decide +kernel⟩
def sp_first_of : Sp := fun vs H Q _ => ∃ (l : Tx) (i : Int), vs = [.str (strL l), .int i] ∧ l.length ≤ 100000 ∧ ∀ H', Same H H' → Q (firstL l i) H'
theorem ok_first_of (T : Txt K mg A) : FnOk P w K mg base CX0 2 A.f_first_of A.fd_first_of ["text", "number"] sp_first_of := by
  have B := T.B
  refine T.F_first_of.ok sc_first_of (fun vs H Q E h => ?_) (fun cdv A' outer s H vs Q E hr h => ?_)
  · obtain ⟨l, i, rfl, _⟩ := h
    rfl
  · have hu := hr.units0
    obtain ⟨l, i, rfl, hz, k⟩ := h
    have hsl := sizeLine_eq
    refine ⟨_, (pss_cons (ps_set (i := 2) sc_first_of.nd rfl (Or.inl rfl) (pe_call (ok_rows_of T) (hr.mono (by decide)) (by rfl) T.m_rows_of T.F_rows_of.kp T.b_rows_of .nil pass0 (pa_cons (pv 0) pa_nil)))
      (pss_cons (ps_if (PW.pt (pw_or (pt_cmpR op_lt (pv 1) pe_int (nomark _)) (pw_or1 (pt_cmpR op_ge (pv 1) (pe_callB call_len (by rfl) B.len b_len (pa_cons (pv 2) pa_nil)) (nomark _))))) (pss_one (ps_ret pe_non)) pss_nil)
      (pss_one (ps_ret (pe_callB (call_sum rfl) (by rfl) B.sum b_sum (pa_cons (pe_lc rfl (CompSc.plain (by decide +kernel) (by decide +kernel) rfl (by decide +kernel) rfl) (pe_slice sl_list (pv 2) po_none (po_some (pv 1))) (fun _ _ _ _ _ => pif_nil) (fun _ _ _ _ _ => (pe_op op_addI (pe_callB (call_lenK (K := K) rfl) (by rfl) B.len b_len (pa_cons (pv 0) pa_nil)) (pe_callB (call_lenK (K := K) rfl) (by rfl) B.len b_len (pa_cons (pe_glob (by rfl) T.c_ROW_END T.r_ROW_END) pa_nil))))) pa_nil)))))), ?_⟩
    refine ⟨_, rfl, l, rfl, hz, fun p H1 s1 e1 => ?_⟩
    refine ⟨_, rfl, _, _, rfl, rfl, _, rfl, ?_⟩
    refine ite2 (fun hc => ?_) (fun hc => ?_)
    · have hi : i < 0 := of_decide_eq_true hc
      refine iteT ?_
      have k1 := k H1 s1
      unfold firstL at k1
      rw [if_neg (by omega)] at k1
      exact k1
    · have hi : 0 ≤ i := by
        have h' : ¬ (i < 0) := fun z => hc (decide_eq_true z)
        omega
      refine ⟨_, rfl, _, rfl, _, _, rfl, Or.inl ⟨_, SqL.of e1, rfl⟩, _, _, rfl, rfl, _, rfl, ?_⟩
      refine ite2 (fun hc2 => ?_) (fun hc2 => ?_)
      · have hi2 := of_decide_eq_true hc2
        rw [List.length_map] at hi2
        have k1 := k H1 s1
        unfold firstL at k1
        rw [if_neg (by omega)] at k1
        exact k1
      · have hi2 : i < ((splitL 47 l).length : Int) := by
          have h' : ¬ ((((splitL 47 l).map fun r => V.str (strL r)).length : Int) ≤ i) := fun z => hc2 (decide_eq_true z)
          rw [List.length_map] at h'
          omega
        obtain ⟨n, rfl⟩ : ∃ n : Nat, i = (n : Int) := ⟨i.toNat, by omega⟩
        have hcount := splitL_count 47 l
        refine ⟨_, rfl, _, rfl, _, rfl, p, _, rfl, SqL.of e1, fun p2 f2 => ?_⟩
        rw [cutV_to, ← List.map_take]
        refine ⟨p2, _, rfl, SqL.of upd_same, (fun j ys H2 => H2 = upd H1 p2 (.lst (((splitL 47 l).take n).map fun r => V.str (strL r))) ∧ ys = (((splitL 47 l).take n).take j).map (fun r => V.int ((r.length : Int) + 1))), ⟨rfl, by simp⟩, fun j ys H2 hw => by rw [hw.1]; exact SqL.of upd_same, ?_, ?_⟩
        · rintro j v ys H2 hv ⟨eH, rfl⟩
          rw [List.getElem?_map] at hv
          cases er : ((splitL 47 l).take n)[j]? with
          | none => rw [er] at hv; cases hv
          | some r =>
            rw [er] at hv
            have hv' : v = V.str (strL r) := (Option.some.inj hv).symm
            subst hv'
            have hrl : r.length ≤ l.length := splitL_le 47 l r (List.mem_of_mem_take (List.mem_of_getElem? er))
            refine ⟨_, rfl, _, _, rfl, ⟨by rw [strL_length]; omega, rfl⟩, _, _, rfl, ⟨by decide +kernel, rfl⟩, _, _, rfl, rfl, eH, ?_⟩
            rw [List.take_add_one, er, List.map_append]
            rfl
        · rintro ys H2 ⟨eH, rfl⟩ p3 f3
          refine ⟨p3, ((splitL 47 l).take n).map (fun r => (r.length : Int) + 1), rfl, SqL.of ?_, ?_⟩
          · rw [upd_same, List.length_map, List.take_of_length_le (Nat.le_refl _), List.map_map]
            rfl
          · have sH : Same H1 H2 := by rw [eH]; exact Same.new f2
            have kf : ∀ H', Same H H' → Q (V.int (wsum ((splitL 47 l).take n) : Nat)) H' := fun H' s' => by
              have k1 := k H' s'
              unfold firstL at k1
              rw [if_pos ⟨by omega, hi2⟩, Int.toNat_natCast] at k1
              exact k1
            rw [wsum_int]
            exact kf _ ((s1.trans sH).trans (Same.new f3))
theorem sc_rubbed : FnScope ["bench", "many"] ["bench", "many"] (defScope s_rubbed) := ⟨rfl, rfl, rfl, by decide +kernel, rfl, by decide +kernel, by decide +kernel⟩
def sp_rubbed : Sp := fun vs H Q _ => ∃ (bt : Addr) (t : Tx) (h N n : Nat), vs = [.ref bt, .int (n : Int)] ∧ BenchT H bt t h N ∧ N ≤ 100000 ∧ ∀ v H', Same H H' → (if n ≤ h then ∃ p, v = .ref p ∧ BenchT H' p (t.take (h - n) ++ t.drop h) (h - n) N else v = .non) → Q v H'
theorem ok_rubbed (T : Txt K mg A) : FnOk P w K mg base CX0 3 A.f_rubbed A.fd_rubbed ["bench", "many"] sp_rubbed := by
  have B := T.B
  refine T.F_rubbed.ok sc_rubbed (fun vs H Q E h => ?_) (fun cdv A' outer s H vs Q E hr h => ?_)
  · obtain ⟨bt, t, h, N, n, rfl, _⟩ := h
    rfl
  · have hu := hr.units0
    obtain ⟨bt, t, h, N, n, rfl, hb, hz, k⟩ := h
    have e1 := hb.tk
    have e2 := hb.dp
    obtain ⟨b1, b2, b3⟩ := id hb
    refine ⟨_, (pss_cons (ps_if (pt_cmpR op_gt (pv 1) (pe_callB call_len (by rfl) B.len b_len (pa_cons (pe_call (ok_signs_ahead T) (hr.mono (by decide)) (by rfl) T.m_signs_ahead T.F_signs_ahead.kp T.b_signs_ahead .nil pass0 (pa_cons (pv 0) pa_nil)) pa_nil)) (nomark _)) (pss_one (ps_ret pe_non)) pss_nil)
      (pss_one (ps_ret (pe_call (ok_less_ahead T) (hr.mono (by decide)) (by rfl) T.m_less_ahead T.F_less_ahead.kp T.b_less_ahead .nil pass0 (pa_cons (pv 0) (pa_cons (pv 1) pa_nil)))))), ?_⟩
    refine ⟨_, rfl, _, rfl, bt, _, _, _, rfl, b3, fun p1 H1 s1 e3 => ?_⟩
    refine ⟨_, _, rfl, Or.inl ⟨_, SqL.of e3, rfl⟩, _, _, rfl, rfl, _, rfl, ?_⟩
    refine ite2 (fun hc => ?_) (fun hc => ?_)
    · have hn : h < n := by have := of_decide_eq_true hc; rw [sg_length, e1] at this; omega
      exact k .non H1 s1 (by rw [if_neg (by omega)])
    · have hn : n ≤ h := by
        have h' : ¬ (((sg (t.take h)).length : Int) < (n : Int)) := fun z => hc (decide_eq_true z)
        rw [sg_length, e1] at h'; omega
      refine ⟨_, rfl, _, rfl, bt, _, _, _, n, rfl, b3.mono s1, by omega, by omega, fun p H2 s2 b => k _ H2 (s1.trans s2) ?_⟩
      rw [if_pos hn]
      have e4 : (t.take h).take ((t.take h).length - n) = t.take (h - n) := by rw [e1, List.take_take, Nat.min_eq_left (by omega)]
      rw [e4] at b
      have e5 : (t.take (h - n)).length = h - n := by rw [List.length_take]; omega
      exact ⟨p, rfl, BenchT.of b rfl e5 (by omega)⟩
theorem sc_cleared : FnScope ["bench", "many"] ["bench", "many"] (defScope s_cleared) := ⟨rfl, rfl, rfl, by decide +kernel, rfl, by decide +kernel, by decide +kernel⟩
def sp_cleared : Sp := fun vs H Q _ => ∃ (bt : Addr) (t : Tx) (h N n : Nat), vs = [.ref bt, .int (n : Int)] ∧ BenchT H bt t h N ∧ N ≤ 100000 ∧ ∀ v H', Same H H' → (if n ≤ t.length - h then ∃ p, v = .ref p ∧ BenchT H' p (t.take h ++ t.drop (h + n)) h N else v = .non) → Q v H'
theorem ok_cleared (T : Txt K mg A) : FnOk P w K mg base CX0 3 A.f_cleared A.fd_cleared ["bench", "many"] sp_cleared := by
  have B := T.B
  refine T.F_cleared.ok sc_cleared (fun vs H Q E h => ?_) (fun cdv A' outer s H vs Q E hr h => ?_)
  · obtain ⟨bt, t, h, N, n, rfl, _⟩ := h
    rfl
  · have hu := hr.units0
    obtain ⟨bt, t, h, N, n, rfl, hb, hz, k⟩ := h
    have e1 := hb.tk
    have e2 := hb.dp
    obtain ⟨b1, b2, b3⟩ := id hb
    refine ⟨_, (pss_cons (ps_if (pt_cmpR op_gt (pv 1) (pe_callB call_len (by rfl) B.len b_len (pa_cons (pe_call (ok_signs_behind T) (hr.mono (by decide)) (by rfl) T.m_signs_behind T.F_signs_behind.kp T.b_signs_behind .nil pass0 (pa_cons (pv 0) pa_nil)) pa_nil)) (nomark _)) (pss_one (ps_ret pe_non)) pss_nil)
      (pss_one (ps_ret (pe_call (ok_less_behind T) (hr.mono (by decide)) (by rfl) T.m_less_behind T.F_less_behind.kp T.b_less_behind .nil pass0 (pa_cons (pv 0) (pa_cons (pv 1) pa_nil)))))), ?_⟩
    refine ⟨_, rfl, _, rfl, bt, _, _, _, rfl, b3, fun p1 H1 s1 e3 => ?_⟩
    refine ⟨_, _, rfl, Or.inl ⟨_, SqL.of e3, rfl⟩, _, _, rfl, rfl, _, rfl, ?_⟩
    refine ite2 (fun hc => ?_) (fun hc => ?_)
    · have hn : t.length - h < n := by have := of_decide_eq_true hc; rw [sg_length, e2] at this; omega
      exact k .non H1 s1 (by rw [if_neg (by omega)])
    · have hn : n ≤ t.length - h := by
        have h' : ¬ (((sg (t.drop h)).length : Int) < (n : Int)) := fun z => hc (decide_eq_true z)
        rw [sg_length, e2] at h'; omega
      refine ⟨_, rfl, _, rfl, bt, _, _, _, n, rfl, b3.mono s1, by omega, by omega, fun p H2 s2 b => k _ H2 (s1.trans s2) ?_⟩
      rw [if_pos hn]
      rw [List.drop_drop] at b
      have e5 : (t.drop (h + n)).length = t.length - (h + n) := List.length_drop
      exact ⟨p, rfl, BenchT.of b rfl e1 (by omega)⟩
theorem sc_gone : FnScope ["bench", "place"] ["bench", "place"] (defScope s_gone) := ⟨rfl, rfl, rfl, by decide +kernel, rfl, by decide +kernel, by decide +kernel⟩
def sp_gone : Sp := fun vs H Q _ => ∃ (bt : Addr) (t : Tx) (h N : Nat) (i : Int), vs = [.ref bt, .int i] ∧ BenchT H bt t h N ∧ N ≤ 100000 ∧ ∀ v H', Same H H' → (if 0 ≤ i ∧ i ≤ t.length then ∃ p, v = .ref p ∧ BenchT H' p t i.toNat N else v = .non) → Q v H'
theorem ok_gone (T : Txt K mg A) : FnOk P w K mg base CX0 3 A.f_gone A.fd_gone ["bench", "place"] sp_gone := by
  have B := T.B
  refine T.F_gone.ok sc_gone (fun vs H Q E h => ?_) (fun cdv A' outer s H vs Q E hr h => ?_)
  · obtain ⟨bt, t, h, N, i, rfl, _⟩ := h
    rfl
  · have hu := hr.units0
    obtain ⟨bt, t, h, N, i, rfl, hb, hz, k⟩ := h
    have hsl := sizeLine_eq
    have e1 := hb.tk
    have e2 := hb.dp
    obtain ⟨b1, b2, b3⟩ := id hb
    refine ⟨_, (pss_cons (ps_if (PW.pt (pw_or (pt_cmpR op_lt (pv 1) pe_int (nomark _)) (pw_or1 (pt_cmpR op_gt (pv 1) (pe_callB call_len (by rfl) B.len b_len (pa_cons (pe_call (ok_text_of T) (hr.mono (by decide)) (by rfl) T.m_text_of T.F_text_of.kp T.b_text_of .nil pass0 (pa_cons (pv 0) pa_nil)) pa_nil)) (nomark _))))) (pss_one (ps_ret pe_non)) pss_nil)
      (pss_one (ps_ret (pe_call (ok_moved T) (hr.mono (by decide)) (by rfl) T.m_moved T.F_moved.kp T.b_moved .nil pass0 (pa_cons (pv 0) (pa_cons (pv 1) pa_nil)))))), ?_⟩
    refine ⟨_, rfl, _, _, rfl, rfl, _, rfl, ?_⟩
    refine ite2 (fun hc => ?_) (fun hc => ?_)
    · have hi : i < 0 := of_decide_eq_true hc
      refine iteT ?_
      exact k .non H (Same.refl _) (by rw [if_neg (by omega)])
    · have hi : 0 ≤ i := by
        have h' : ¬ (i < 0) := fun z => hc (decide_eq_true z)
        omega
      refine ⟨_, rfl, _, rfl, bt, _, _, _, rfl, b3, by omega, fun H1 s1 => ?_⟩
      rw [List.take_append_drop]
      refine ⟨_, _, rfl, ⟨by rw [strL_length]; omega, rfl⟩, _, _, rfl, rfl, _, rfl, ?_⟩
      refine ite2 (fun hc2 => ?_) (fun hc2 => ?_)
      · have hi2 := of_decide_eq_true hc2
        rw [strL_length] at hi2
        exact k .non H1 s1 (by rw [if_neg (by omega)])
      · have hi2 : i ≤ (t.length : Int) := by
          have h' : ¬ (((strL t).length : Int) < i) := fun z => hc2 (decide_eq_true z)
          rw [strL_length] at h'; omega
        obtain ⟨n, rfl⟩ : ∃ n : Nat, i = (n : Int) := ⟨i.toNat, by omega⟩
        refine ⟨_, rfl, _, rfl, bt, _, _, _, n, rfl, b3.mono s1, by omega, by omega, fun p H2 s2 b => k _ H2 (s1.trans s2) ?_⟩
        rw [List.take_append_drop] at b
        rw [if_pos ⟨hi, hi2⟩, Int.toNat_natCast]
        refine ⟨p, rfl, BenchT.of b (List.take_append_drop n t) (by rw [List.length_take]; omega) ?_⟩
        rw [List.length_take, List.length_drop]; omega
theorem sc_gone_to_row : FnScope ["bench", "number", "place"] ["bench", "number"] (defScope s_gone_to_row) := ⟨rfl, rfl, rfl, by decide +kernel, rfl, by decide +kernel, by decide +kernel⟩
def sp_gone_to_row : Sp := fun vs H Q _ => ∃ (bt : Addr) (t : Tx) (h N : Nat) (i : Int), vs = [.ref bt, .int i] ∧ BenchT H bt t h N ∧ N ≤ 100000 ∧ ∀ v H', Same H H' → (if 0 ≤ i ∧ i < ((splitL 47 t).length : Int) then ∃ p, v = .ref p ∧ BenchT H' p t (wsum ((splitL 47 t).take i.toNat)) N else v = .non) → Q v H'
theorem ok_gone_to_row (T : Txt K mg A) : FnOk P w K mg base CX0 3 A.f_gone_to_row A.fd_gone_to_row ["bench", "number"] sp_gone_to_row := by
  have B := T.B
  refine T.F_gone_to_row.ok sc_gone_to_row (fun vs H Q E h => ?_) (fun cdv A' outer s H vs Q E hr h => ?_)
  · obtain ⟨bt, t, h, N, i, rfl, _⟩ := h
    rfl
  · have hu := hr.units0
    obtain ⟨bt, t, h, N, i, rfl, hb, hz, k⟩ := h
    have e1 := hb.tk
    have e2 := hb.dp
    obtain ⟨b1, b2, b3⟩ := id hb
    refine ⟨_, (pss_cons (ps_set (i := 2) sc_gone_to_row.nd rfl (Or.inl rfl) (pe_call (ok_first_of T) (hr.mono (by decide)) (by rfl) T.m_first_of T.F_first_of.kp T.b_first_of .nil pass0 (pa_cons (pe_call (ok_text_of T) (hr.mono (by decide)) (by rfl) T.m_text_of T.F_text_of.kp T.b_text_of .nil pass0 (pa_cons (pv 0) pa_nil)) (pa_cons (pv 1) pa_nil))))
      (pss_cons (ps_if (pt_cmp (pc_isN (pv 2))) (pss_one (ps_ret pe_non)) pss_nil)
      (pss_one (ps_ret (pe_call (ok_moved T) (hr.mono (by decide)) (by rfl) T.m_moved T.F_moved.kp T.b_moved .nil pass0 (pa_cons (pv 0) (pa_cons (pv 2) pa_nil))))))), ?_⟩
    refine ⟨_, rfl, bt, _, _, _, rfl, b3, by omega, fun H1 s1 => ?_⟩
    rw [List.take_append_drop]
    refine ⟨_, rfl, t, i, rfl, by omega, fun H2 s2 => ?_⟩
    by_cases hi : 0 ≤ i ∧ i < ((splitL 47 t).length : Int)
    · have ef : firstL t i = V.int (wsum ((splitL 47 t).take i.toNat) : Nat) := by unfold firstL; rw [if_pos hi]
      rw [ef]
      have hw := wsum_take_le 47 t (r := i.toNat) (by omega)
      refine ⟨_, rfl, _, rfl, iteN (fun z => nomatch z) ?_⟩
      refine ⟨_, rfl, _, rfl, bt, _, _, _, _, rfl, b3.mono (s1.trans s2), by omega, by omega, fun p H3 s3 b => k _ H3 ((s1.trans s2).trans s3) ?_⟩
      rw [List.take_append_drop] at b
      rw [if_pos hi]
      refine ⟨p, rfl, BenchT.of b (List.take_append_drop _ t) (by rw [List.length_take]; omega) ?_⟩
      rw [List.length_take, List.length_drop]; omega
    · have ef : firstL t i = V.non := by unfold firstL; rw [if_neg hi]
      rw [ef]
      refine ⟨_, rfl, _, rfl, iteY rfl ?_⟩
      exact k .non H2 (s1.trans s2) (by rw [if_neg hi])
theorem sc_bench_after : FnScope ["bench", "deed", "kind"] ["bench", "deed"] (defScope s_bench_after) := ⟨rfl, rfl, rfl, by decide +kernel, rfl, by decide +kernel, by decide +kernel⟩
def sp_bench_after : Sp := fun vs H Q _ => ∃ (bt dr : Addr) (t : Tx) (h N : Nat) (d : Deed), vs = [.ref bt, .ref dr] ∧ BenchT H bt t h N ∧ N ≤ 50000 ∧ DeedAt H dr d ∧ d ≠ .undo ∧ okD d ∧ ∀ v H', Same H H' → BA t h N d v H' → Q v H'
theorem ok_bench_after (T : Txt K mg A) : FnOk P w K mg base CX0 4 A.f_bench_after A.fd_bench_after ["bench", "deed"] sp_bench_after := by
  have B := T.B
  refine T.F_bench_after.ok sc_bench_after (fun vs H Q E h => ?_) (fun cdv A' outer s H vs Q E hr h => ?_)
  · obtain ⟨bt, dr, t, h, N, d, rfl, _⟩ := h
    rfl
  · have hu := hr.units0
    obtain ⟨bt, dr, t, h, N, d, rfl, hb, hz, hd, hne, hok, k⟩ := h
    have e1 := hb.tk
    have e2 := hb.dp
    obtain ⟨b1, b2, b3⟩ := id hb
    refine ⟨_, (pss_cons (ps_set (i := 2) sc_bench_after.nd rfl (Or.inl rfl) (pe_ix ix_tup (pv 1) pe_int (fun _ _ => rfl)))
      (pss_cons (ps_if (pt_cmpR op_eq (pv 2) pe_str (nomark _)) (pss_one (ps_ret (pe_call (ok_put_all T) (hr.mono (by decide)) (by rfl) T.m_put_all T.F_put_all.kp T.b_put_all .nil pass0 (pa_cons (pv 0) (pa_cons (pe_ix ix_tup (pv 1) pe_int (fun _ _ => rfl)) pa_nil))))) pss_nil)
      (pss_cons (ps_if (pt_cmpR op_eq (pv 2) pe_str (nomark _)) (pss_one (ps_ret (pe_call (ok_rubbed T) (hr.mono (by decide)) (by rfl) T.m_rubbed T.F_rubbed.kp T.b_rubbed .nil pass0 (pa_cons (pv 0) (pa_cons (pe_ix ix_tup (pv 1) pe_int (fun _ _ => rfl)) pa_nil))))) pss_nil)
      (pss_cons (ps_if (pt_cmpR op_eq (pv 2) pe_str (nomark _)) (pss_one (ps_ret (pe_call (ok_cleared T) (hr.mono (by decide)) (by rfl) T.m_cleared T.F_cleared.kp T.b_cleared .nil pass0 (pa_cons (pv 0) (pa_cons (pe_ix ix_tup (pv 1) pe_int (fun _ _ => rfl)) pa_nil))))) pss_nil)
      (pss_cons (ps_if (pt_cmpR op_eq (pv 2) pe_str (nomark _)) (pss_one (ps_ret (pe_call (ok_gone T) (hr.mono (by decide)) (by rfl) T.m_gone T.F_gone.kp T.b_gone .nil pass0 (pa_cons (pv 0) (pa_cons (pe_ix ix_tup (pv 1) pe_int (fun _ _ => rfl)) pa_nil))))) pss_nil)
      (pss_one (ps_ret (pe_call (ok_gone_to_row T) (hr.mono (by decide)) (by rfl) T.m_gone_to_row T.F_gone_to_row.kp T.b_gone_to_row .nil pass0 (pa_cons (pv 0) (pa_cons (pe_ix ix_tup (pv 1) pe_int (fun _ _ => rfl)) pa_nil)))))))))), ?_⟩
    cases d with
    | put z =>
      have hzl : z.length ≤ 40 := hok
      refine ⟨_, rfl, dr, _, 0, _, rfl, rfl, SqT.of hd, rfl, ?_⟩
      refine ⟨_, rfl, rfl, _, rfl, iteY rfl ?_⟩
      refine ⟨_, rfl, _, rfl, dr, _, 1, _, rfl, rfl, SqT.of hd, rfl, bt, _, _, z, _, rfl, b3, by omega, by omega, fun p H2 s2 b => k _ H2 s2 ?_⟩
      show ∃ p', V.ref p = .ref p' ∧ BenchT H2 p' (t.take h ++ z ++ t.drop h) (h + z.length) (growD N (t.take h ++ z ++ t.drop h).length)
      have el : (t.take h ++ z ++ t.drop h).length = (t.take h).length + z.length + (t.drop h).length := by rw [List.length_append, List.length_append]
      have en : (t.take h).length + (N - t.length) + (t.drop h).length = N := by omega
      rw [en, grow_eq, ← el] at b
      have g1 := growD_ge N (t.take h ++ z ++ t.drop h).length
      refine ⟨p, rfl, BenchT.of b rfl (by rw [List.length_append, e1]) ?_⟩
      rw [List.length_append]; omega
    | rub n =>
      refine ⟨_, rfl, dr, _, 0, _, rfl, rfl, SqT.of hd, rfl, ?_⟩
      refine ⟨_, rfl, rfl, _, rfl, iteN (by decide +kernel) ?_⟩
      refine ⟨_, rfl, rfl, _, rfl, iteY rfl ?_⟩
      refine ⟨_, rfl, _, rfl, dr, _, 1, _, rfl, rfl, SqT.of hd, rfl, bt, t, h, N, n, rfl, hb, by omega, fun v H2 s2 hv => k v H2 s2 ?_⟩
      unfold BA
      simp only [dstep]
      by_cases hn : n ≤ h
      · rw [if_pos hn] at hv ⊢
        obtain ⟨p, rfl, b⟩ := hv
        have := b.2.1
        exact ⟨p, rfl, by rw [growD_stop this]; exact b⟩
      · rw [if_neg hn] at hv ⊢
        exact hv
    | clear n =>
      refine ⟨_, rfl, dr, _, 0, _, rfl, rfl, SqT.of hd, rfl, ?_⟩
      refine ⟨_, rfl, rfl, _, rfl, iteN (by decide +kernel) ?_⟩
      refine ⟨_, rfl, rfl, _, rfl, iteN (by decide +kernel) ?_⟩
      refine ⟨_, rfl, rfl, _, rfl, iteY rfl ?_⟩
      refine ⟨_, rfl, _, rfl, dr, _, 1, _, rfl, rfl, SqT.of hd, rfl, bt, t, h, N, n, rfl, hb, by omega, fun v H2 s2 hv => k v H2 s2 ?_⟩
      unfold BA
      simp only [dstep]
      by_cases hn : n ≤ t.length - h
      · rw [if_pos hn] at hv ⊢
        obtain ⟨p, rfl, b⟩ := hv
        have := b.2.1
        exact ⟨p, rfl, by rw [growD_stop this]; exact b⟩
      · rw [if_neg hn] at hv ⊢
        exact hv
    | go p0 =>
      refine ⟨_, rfl, dr, _, 0, _, rfl, rfl, SqT.of hd, rfl, ?_⟩
      refine ⟨_, rfl, rfl, _, rfl, iteN (by decide +kernel) ?_⟩
      refine ⟨_, rfl, rfl, _, rfl, iteN (by decide +kernel) ?_⟩
      refine ⟨_, rfl, rfl, _, rfl, iteN (by decide +kernel) ?_⟩
      refine ⟨_, rfl, rfl, _, rfl, iteY rfl ?_⟩
      refine ⟨_, rfl, _, rfl, dr, _, 1, _, rfl, rfl, SqT.of hd, rfl, bt, t, h, N, p0, rfl, hb, by omega, fun v H2 s2 hv => k v H2 s2 ?_⟩
      unfold BA
      simp only [dstep]
      by_cases hn : 0 ≤ p0 ∧ p0 ≤ t.length
      · rw [if_pos hn] at hv ⊢
        obtain ⟨p, rfl, b⟩ := hv
        have := b.2.1
        exact ⟨p, rfl, by rw [growD_stop this]; exact b⟩
      · rw [if_neg hn] at hv ⊢
        exact hv
    | row r0 =>
      refine ⟨_, rfl, dr, _, 0, _, rfl, rfl, SqT.of hd, rfl, ?_⟩
      refine ⟨_, rfl, rfl, _, rfl, iteN (by decide +kernel) ?_⟩
      refine ⟨_, rfl, rfl, _, rfl, iteN (by decide +kernel) ?_⟩
      refine ⟨_, rfl, rfl, _, rfl, iteN (by decide +kernel) ?_⟩
      refine ⟨_, rfl, rfl, _, rfl, iteN (by decide +kernel) ?_⟩
      refine ⟨_, rfl, _, rfl, dr, _, 1, _, rfl, rfl, SqT.of hd, rfl, bt, t, h, N, r0, rfl, hb, by omega, fun v H2 s2 hv => k v H2 s2 ?_⟩
      unfold BA
      simp only [dstep]
      by_cases hn : 0 ≤ r0 ∧ r0 < ((splitL 47 t).length : Int)
      · rw [if_pos hn] at hv ⊢
        obtain ⟨p, rfl, b⟩ := hv
        have := b.2.1
        exact ⟨p, rfl, by rw [growD_stop this]; exact b⟩
      · rw [if_neg hn] at hv ⊢
        exact hv
    | undo => exact absurd rfl hne
theorem sc_state_of : FnScope ["bench"] ["bench"] (defScope s_state_of) := ⟨rfl, rfl, rfl, by decide +kernel, rfl, by decide +kernel, by decide +kernel⟩
def sp_state_of : Sp := fun vs H Q _ => ∃ (bt : Addr) (t : Tx) (h N : Nat), vs = [.ref bt] ∧ BenchT H bt t h N ∧ N ≤ 100000 ∧ ∀ p H', Same H H' → H p = none → StAt H' p (t, h) → Q (.ref p) H'
theorem ok_state_of (T : Txt K mg A) : FnOk P w K mg base CX0 3 A.f_state_of A.fd_state_of ["bench"] sp_state_of := by
  have B := T.B
  refine T.F_state_of.ok sc_state_of (fun vs H Q E h => ?_) (fun cdv A' outer s H vs Q E hr h => ?_)
  · obtain ⟨bt, t, h, N, rfl, _⟩ := h
    rfl
  · have hu := hr.units0
    obtain ⟨bt, t, h, N, rfl, hb, hz, k⟩ := h
    have hsl := sizeLine_eq
    have e1 := hb.tk
    have e2 := hb.dp
    obtain ⟨b1, b2, b3⟩ := id hb
    obtain ⟨c, q1, q2⟩ := id b3
    refine ⟨_, (pss_one (ps_ret (pe_tup (pa_cons (pe_call (ok_text_of T) (hr.mono (by decide)) (by rfl) T.m_text_of T.F_text_of.kp T.b_text_of .nil pass0 (pa_cons (pv 0) pa_nil)) (pa_cons (pe_ix ix_tup (pv 0) pe_int (fun _ _ => rfl)) pa_nil))))), ?_⟩
    refine ⟨_, rfl, bt, _, _, _, rfl, b3, by omega, fun H1 s1 => ?_⟩
    rw [List.take_append_drop]
    refine ⟨_, rfl, bt, _, 1, _, rfl, rfl, SqT.of (s1 _ _ q1), rfl, (by simp [sizeLine_eq]), fun p f => ?_⟩
    refine k p _ (s1.trans (Same.new f)) (s1.free f) ?_
    unfold StAt
    rw [upd_same, e1]
theorem sc___init__ : FnScope ["self"] ["self"] (defScope s___init__) := ⟨rfl, rfl, rfl, by decide +kernel, rfl, by decide +kernel, by decide +kernel⟩
def sp___init__ (C : Addr) : Sp := fun vs H Q _ => ∃ (d dx : Addr), vs = [.ref d] ∧ H d = some (.ins C dx []) ∧ ∀ (pl : Addr) (H' : Hp), H pl = none → (∀ b o, H b = some o → b ≠ d → H' b = some o) → DayAt C H' d pl day0 → Q .non H'
theorem ok___init__ (T : Txt K mg A) : FnOk P w K mg base CX0 2 A.f___init__ A.fd___init__ ["self"] (sp___init__ A.C) := by
  have B := T.B
  refine T.F___init__.ok sc___init__ (fun vs H Q E h => ?_) (fun cdv A' outer s H vs Q E hr h => ?_)
  · obtain ⟨d, dx, rfl, _⟩ := h
    rfl
  · have hu := hr.units0
    obtain ⟨d, dx, rfl, hd, k⟩ := h
    have hsl := sizeLine_eq
    refine ⟨_, (pss_cons (ps_fld (pv 0) (pe_call (ok_laid T) (hr.mono (by decide)) (by rfl) T.m_laid T.F_laid.kp T.b_laid .nil pass0 (pa_cons (pe_lst pa_nil) (pa_cons (pe_lst pa_nil) (pa_cons (pe_glob (by rfl) T.c_CELLS_AT_FIRST T.r_CELLS_AT_FIRST) pa_nil)))) rfl)
      (pss_one (ps_fld (pv 0) (pe_lst pa_nil) rfl))), ?_⟩
    refine ⟨(by simp), fun p1 f1 => ?_⟩
    refine ⟨(by simp), fun p2 f2 => ?_⟩
    refine ⟨p1, p2, [], [], 4, rfl, sn f2 upd_same, upd_same, by decide, by decide, fun bt H1 s1 b1 => ?_⟩
    have s2 : Same H H1 := ((Same.new f1).trans (Same.new f2)).trans s1
    refine ⟨_, rfl, d, A.C, dx, _, rfl, s2 _ _ hd, T.cl, T.nBench, (by show 0 < 1000; decide), ?_⟩
    refine ⟨(by simp), fun pl fp => ?_⟩
    have ndp : d ≠ pl := by
      intro z
      rw [← z, upd_same] at fp
      cases fp
    have fp1 : H1 pl = none := by rw [upd_ne (Ne.symm ndp)] at fp; exact fp
    refine ⟨_, rfl, d, A.C, dx, _, rfl, (by rw [upd_ne ndp, upd_same]), T.cl, T.nPast, (by show 1 < 1000; decide), ?_⟩
    have keep : ∀ b o, H1 b = some o → b ≠ d → (upd (upd (upd H1 d (.ins A.C dx (putF "bench" (.ref bt) []))) pl (.lst [])) d (.ins A.C dx (putF "past" (.ref pl) (putF "bench" (.ref bt) [])))) b = some o := fun b o e hb => by
      rw [upd_ne hb, upd_ne (ne_of_none e fp1), upd_ne hb]; exact e
    refine k pl _ (s2.free fp1) (fun b o e hb => keep b o (s2 _ _ e) hb) ⟨dx, bt, [], by decide, upd_same, ?_, by rw [upd_ne (Ne.symm ndp), upd_same]; rfl, .nil⟩
    obtain ⟨c, q1, q2⟩ := b1
    have dn : ∀ o, H1 d ≠ some (.lst o) ∧ H1 d ≠ some (.tup o) := fun o => by rw [s2 _ _ hd]; exact ⟨fun z => (by cases z), fun z => (by cases z)⟩
    exact ⟨Nat.le_refl _, by decide, c, keep _ _ q1 (fun z => (dn _).2 (z ▸ q1)), keep _ _ q2 (fun z => (dn _).1 (z ▸ q2))⟩
theorem sc_undoes : FnScope ["self", "state", "text", "hand"] ["self"] (defScope s_undoes) := ⟨rfl, rfl, rfl, by decide +kernel, rfl, by decide +kernel, by decide +kernel⟩
def sp_undoes (C : Addr) : Sp := fun vs H Q _ => ∃ (d pl : Addr) (s : Dy) (M : Nat), vs = [.ref d] ∧ DayAt C H d pl s ∧ Fits s M ∧ M ≤ 20000 ∧ ∀ H', But d pl H H' → DayAt C H' d pl (nx s .undo).1 → Q (.bl (nx s .undo).2) H'
theorem ok_undoes (T : Txt K mg A) : FnOk P w K mg base CX0 2 A.f_undoes A.fd_undoes ["self"] (sp_undoes A.C) := by
  have B := T.B
  refine T.F_undoes.ok sc_undoes (fun vs H Q E h => ?_) (fun cdv A' outer s H vs Q E hr h => ?_)
  · obtain ⟨d, pl, s, M, rfl, _⟩ := h
    rfl
  · have hu := hr.units0
    obtain ⟨d, pl, s, M, rfl, D, hf, hM, k⟩ := h
    have hsl := sizeLine_eq
    obtain ⟨dx, bt, rs, hN, h1, h2, h3, h4⟩ := id D
    have hsz := hf.size
    have hmany := hf.many
    have lrs := h4.length
    have ndp : d ≠ pl := ne_of h1 h3 (by intro z; cases z)
    refine ⟨_, (pss_cons (ps_if (pt_cmpR op_eq (pe_callB call_len (by rfl) B.len b_len (pa_cons (pe_fld (pv 0) rfl) pa_nil)) pe_int (nomark _)) (pss_one (ps_ret pe_bl)) pss_nil)
      (pss_cons (ps_set (i := 1) sc_undoes.nd rfl (Or.inl rfl) (pe_bm0 F.plainAttrs_list F.slot_list_pop F.type_list_pop mt_pop (pe_fld (pv 0) rfl)))
      (pss_cons (ps_set (i := 2) sc_undoes.nd rfl (Or.inl rfl) (pe_ix ix_tup (pv 1) pe_int (fun _ _ => rfl)))
      (pss_cons (ps_set (i := 3) sc_undoes.nd rfl (Or.inl rfl) (pe_ix ix_tup (pv 1) pe_int (fun _ _ => rfl)))
      (pss_cons (ps_fld (pv 0) (pe_call (ok_laid T) (hr.mono (by decide)) (by rfl) T.m_laid T.F_laid.kp T.b_laid .nil pass0 (pa_cons (pe_callTy (call_listS rfl) (by rfl) B.list b_list (pa_cons (pe_slice sl_str (pv 2) po_none (po_some (pv 3))) pa_nil)) (pa_cons (pe_callTy (call_listS rfl) (by rfl) B.list b_list (pa_cons (pe_slice sl_str (pv 2) (po_some (pv 3)) po_none) pa_nil)) (pa_cons (pe_callB call_len (by rfl) B.len b_len (pa_cons (pe_ix ix_tup (pe_fld (pv 0) rfl) pe_int (fun _ _ => rfl)) pa_nil)) pa_nil)))) rfl)
      (pss_one (ps_ret pe_bl))))))), ?_⟩
    refine ⟨_, rfl, d, A.C, dx, _, _, rfl, h1, T.cl, T.nPast, flds_past _ _, _, _, rfl, Or.inl ⟨_, SqL.of h3, rfl⟩, rfl, _, rfl, ?_⟩
    cases hl : s.past.getLast? with
    | none =>
      have hp : s.past = [] := List.getLast?_eq_none_iff.mp hl
      have hr0 : rs = [] := List.eq_nil_of_length_eq_zero (by rw [lrs, hp]; rfl)
      have en : nx s .undo = (s, false) := by unfold nx; simp only [dstep, hl]
      rw [en] at k
      refine iteY (by rw [hr0]; rfl) ?_
      exact k H (But.refl _ _ _) D
    | some q =>
      obtain ⟨r, hr1, hr2⟩ := paired_last h4 hl
      have hq := hf.old q (List.mem_of_getLast? hl)
      have en : nx s .undo = (⟨q.1, q.2, s.past.dropLast, growD s.N q.1.length⟩, true) := by unfold nx; simp only [dstep, hl]
      rw [en, growD_stop hq.2.1] at k
      have hlen : 0 < rs.length := by
        have := (List.getElem?_eq_some_iff.mp hr1).1
        omega
      refine iteN (fun z => ?_) ?_
      · injection z with z'
        rw [List.length_map] at z'
        omega
      refine ⟨_, rfl, d, A.C, dx, _, _, rfl, h1, T.cl, T.nPast, flds_past _ _, Or.inl ⟨rfl, _, SqL.of h3⟩, pl, _, .ref r, rfl, rfl, h3, (by rw [List.length_map, List.getElem?_map, hr1]; rfl), ?_⟩
      have ed : (rs.map V.ref).dropLast = rs.dropLast.map V.ref := by rw [List.map_dropLast]
      rw [ed]
      have kb : But d pl H (upd H pl (.lst (rs.dropLast.map V.ref))) := But.updP
      have tk := D.tups kb
      have hr3 : StAt (upd H pl (.lst (rs.dropLast.map V.ref))) r q := hr2.mono tk
      have h1' : (upd H pl (.lst (rs.dropLast.map V.ref))) d = some (.ins A.C dx (flds bt pl)) := by rw [upd_ne ndp]; exact h1
      have h2' := h2.but hN h1 h3 kb
      obtain ⟨b1, b2, c, q1, q2⟩ := id h2'
      refine ⟨_, rfl, r, _, 0, _, rfl, rfl, SqT.of hr3, rfl, ?_⟩
      refine ⟨_, rfl, r, _, 1, _, rfl, rfl, SqT.of hr3, rfl, ?_⟩
      refine ⟨_, rfl, _, rfl, _, rfl, _, rfl, by rw [strL_length]; omega, ?_⟩
      rw [cutS_to]
      refine ⟨_, rfl, by rw [strL_length, List.length_take]; omega, fun p1 f1 => ?_⟩
      rw [sg_signs]
      refine ⟨_, rfl, _, rfl, _, rfl, _, rfl, by rw [strL_length]; omega, ?_⟩
      rw [cutS_from]
      refine ⟨_, rfl, by rw [strL_length, List.length_drop]; omega, fun p2 f2 => ?_⟩
      rw [sg_signs]
      refine ⟨_, rfl, d, A.C, dx, _, _, rfl, (sn f2 (sn f1 h1')), T.cl, T.nBench, flds_bench _ _, bt, _, 0, _, rfl, rfl, SqT.of (sn f2 (sn f1 q1)), rfl, _, _, rfl, Or.inl ⟨_, SqL.of (sn f2 (sn f1 q2)), rfl⟩, ?_⟩
      have lc := cells_length (s.t.take s.h) (s.t.drop s.h) (s.N - s.t.length)
      have e1 := h2.tk
      have e2 := h2.dp
      have e3 : (q.1.take q.2).length = q.2 := by rw [List.length_take]; omega
      have e4 : (q.1.drop q.2).length = q.1.length - q.2 := List.length_drop
      have lcN : (cells (s.t.take s.h) (s.t.drop s.h) (s.N - s.t.length)).length = s.N := by omega
      rw [lcN]
      refine ⟨p1, p2, q.1.take q.2, q.1.drop q.2, s.N, rfl, sn f2 upd_same, upd_same, by omega, by omega, fun p3 H3 s3 b3 => ?_⟩
      have s4 : Same (upd H pl (.lst (rs.dropLast.map V.ref))) H3 := ((Same.new f1).trans (Same.new f2)).trans s3
      have hd3 := s4 _ _ h1'
      have hp3 : H3 pl = some (.lst (rs.dropLast.map V.ref)) := s4 _ _ upd_same
      refine ⟨_, rfl, d, A.C, dx, _, rfl, hd3, T.cl, T.nBench, (by rw [flds_eq]; show 2 < 1000; decide), ?_⟩
      rw [flds_put]
      have bT : BenchT H3 p3 q.1 q.2 s.N := BenchT.of b3 (List.take_append_drop _ _) e3 (by omega)
      have kd : But d pl H3 (upd H3 d (.ins A.C dx (flds p3 pl))) := But.updD
      refine k _ ((kb.trans (But.of s4)).trans kd) ⟨dx, p3, rs.dropLast, hN, upd_same, bT.but hN hd3 hp3 kd, by rw [upd_ne (Ne.symm ndp)]; exact hp3, ?_⟩
      refine sts_mono (fun b xs e => ?_) (sts_mono tk (paired_dropLast h4))
      rw [upd_ne (ne_of (s4 _ _ e) hd3 (by intro z; cases z))]
      exact s4 _ _ e
theorem sc_does : FnScope ["self", "deed", "bench"] ["self", "deed"] (defScope s_does) := ⟨rfl, rfl, rfl, by decide +kernel, rfl, by decide +kernel, by decide +kernel⟩
def sp_does (C : Addr) : Sp := fun vs H Q _ => ∃ (d pl dr : Addr) (s : Dy) (dd : Deed) (M : Nat), vs = [.ref d, .ref dr] ∧ DayAt C H d pl s ∧ DeedAt H dr dd ∧ okD dd ∧ Fits s M ∧ M ≤ 20000 ∧ ∀ H', But d pl H H' → DayAt C H' d pl (nx s dd).1 → Q (.bl (nx s dd).2) H'
theorem ok_does (T : Txt K mg A) : FnOk P w K mg base CX0 5 A.f_does A.fd_does ["self", "deed"] (sp_does A.C) := by
  have B := T.B
  refine T.F_does.ok sc_does (fun vs H Q E h => ?_) (fun cdv A' outer s H vs Q E hr h => ?_)
  · obtain ⟨d, pl, dr, s, dd, M, rfl, _⟩ := h
    rfl
  · have hu := hr.units0
    obtain ⟨d, pl, dr, s, dd, M, rfl, D, hd, hok, hf, hM, k⟩ := h
    have hsl := sizeLine_eq
    obtain ⟨dx, bt, rs, hN, h1, h2, h3, h4⟩ := id D
    have hsz := hf.size
    have hmany := hf.many
    have lrs := h4.length
    have ndp : d ≠ pl := ne_of h1 h3 (by intro z; cases z)
    obtain ⟨da, deedsR, dobj⟩ := T.r_DEEDS_TO_UNDO
    refine ⟨_, (pss_cons (ps_if (pt_cmpR op_eq (pe_ix ix_tup (pv 1) pe_int (fun _ _ => rfl)) pe_str (nomark _)) (pss_one (ps_ret (pe_meth0 (pv 0) T.cl T.me_undoes (ok_undoes T) (hr.mono (by decide)) T.b_undoes .nil pass0))) pss_nil)
      (pss_cons (ps_set (i := 2) sc_does.nd rfl (Or.inl rfl) (pe_call (ok_bench_after T) (hr.mono (by decide)) (by rfl) T.m_bench_after T.F_bench_after.kp T.b_bench_after .nil pass0 (pa_cons (pe_fld (pv 0) rfl) (pa_cons (pv 1) pa_nil))))
      (pss_cons (ps_if (pt_cmp (pc_isN (pv 2))) (pss_one (ps_ret pe_bl)) pss_nil)
      (pss_cons (ps_if (pt_cmpR op_in_seq (pe_ix ix_tup (pv 1) pe_int (fun _ _ => rfl)) (pe_glob (by rfl) T.c_DEEDS_TO_UNDO (show L2.RelV (.ref da) _ from deedsR)) (by with_unfolding_all rfl)) (pss_one (ps_expr (pe_bm F.plainAttrs_list F.slot_list_append F.type_list_append mt_append (pe_fld (pv 0) rfl) (pa_cons (pe_call (ok_state_of T) (hr.mono (by decide)) (by rfl) T.m_state_of T.F_state_of.kp T.b_state_of .nil pass0 (pa_cons (pe_fld (pv 0) rfl) pa_nil)) pa_nil)))) pss_nil)
      (pss_cons (ps_fld (pv 0) (pv 2) rfl)
      (pss_one (ps_ret pe_bl))))))), ?_⟩
    by_cases hne : dd = .undo
    · subst hne
      refine ⟨_, rfl, dr, _, 0, _, rfl, rfl, SqT.of hd, rfl, rfl, _, rfl, iteY rfl ?_⟩
      exact ⟨_, rfl, d, dx, _, rfl, h1, flds_no _ _ (by decide +kernel) (by decide +kernel), d, pl, s, M, rfl, D, hf, hM, k⟩
    · obtain ⟨kd, wv, hd', hku, hin⟩ : ∃ (kd : Str) (wv : V), H dr = some (.tup [.str kd, wv]) ∧ kd ≠ "undo" ∧ inV (.str kd) [.str "put", .str "rub", .str "clear"] = isCh dd := by
        cases dd with
        | put z => exact ⟨_, _, hd, by decide +kernel, (show inV _ _ = true by decide +kernel)⟩
        | rub n => exact ⟨_, _, hd, by decide +kernel, (show inV _ _ = true by decide +kernel)⟩
        | clear n => exact ⟨_, _, hd, by decide +kernel, (show inV _ _ = true by decide +kernel)⟩
        | go p => exact ⟨_, _, hd, by decide +kernel, (show inV _ _ = false by decide +kernel)⟩
        | row p => exact ⟨_, _, hd, by decide +kernel, (show inV _ _ = false by decide +kernel)⟩
        | undo => exact absurd rfl hne
      refine ⟨_, rfl, dr, _, 0, _, rfl, rfl, SqT.of hd', rfl, rfl, _, rfl, iteN (fun z => hku (by injection z)) ?_⟩
      refine ⟨_, rfl, d, A.C, dx, _, _, rfl, h1, T.cl, T.nBench, flds_bench _ _, _, rfl, bt, dr, s.t, s.h, s.N, dd, rfl, h2, by omega, hd, hne, hok, fun v H1 s1 hv => ?_⟩
      cases hs : dstep s.t s.h [] dd with
      | none =>
        unfold BA at hv
        rw [hs] at hv
        have hv' : v = .non := hv
        subst hv'
        have en : nx s dd = (s, false) := by unfold nx; rw [step_past s.past hne, hs]; rfl
        rw [en] at k
        refine ⟨_, rfl, _, rfl, iteY rfl ?_⟩
        exact k H1 (But.of s1) ⟨dx, bt, rs, hN, s1 _ _ h1, h2.mono s1, s1 _ _ h3, sts_mono (Same.tups s1) h4⟩
      | some res =>
        obtain ⟨st', q⟩ := res
        unfold BA at hv
        rw [hs] at hv
        obtain ⟨p, rfl, bT⟩ := hv
        have eq := step_new hs hne
        have en : nx s dd = (⟨st'.1, st'.2, s.past ++ q, growD s.N st'.1.length⟩, true) := by unfold nx; rw [step_past s.past hne, hs]; rfl
        rw [en] at k
        have hN2 : 0 < growD s.N st'.1.length := by have := growD_ge s.N st'.1.length; omega
        refine ⟨_, rfl, _, rfl, iteN (fun z => nomatch z) ?_⟩
        refine ⟨_, rfl, dr, _, 0, _, rfl, rfl, SqT.of (s1 _ _ hd'), rfl, da, _, rfl, Or.inr (Or.inr dobj), rfl, rfl, _, rfl, ?_⟩
        refine (?_ : if (inV (V.str kd) [.str "put", .str "rub", .str "clear"]) = true then _ else _)
        rw [hin]
        cases hch : isCh dd with
        | true =>
          rw [hch] at eq
          have eq' : q = [(s.t, s.h)] := eq
          subst eq'
          refine iteT ?_
          refine ⟨_, rfl, d, A.C, dx, _, _, rfl, (s1 _ _ h1), T.cl, T.nPast, flds_past _ _, Or.inl ⟨rfl, _, SqL.of (s1 _ _ h3)⟩, _, rfl, d, A.C, dx, _, _, rfl, (s1 _ _ h1), T.cl, T.nBench, flds_bench _ _, bt, s.t, s.h, s.N, rfl, h2.mono s1, by omega, fun r H2 s2 fr e2 => ?_⟩
          have hp2 := s2 _ _ (s1 _ _ h3)
          have hd2 := s2 _ _ (s1 _ _ h1)
          refine ⟨pl, _, _, rfl, rfl, hp2, by rw [List.length_map]; omega, ?_⟩
          have er : rs.map V.ref ++ [V.ref r] = (rs ++ [r]).map V.ref := by rw [List.map_append]; rfl
          rw [er]
          have kp : But d pl H2 (upd H2 pl (.lst ((rs ++ [r]).map V.ref))) := But.updP
          have hd3 : (upd H2 pl (.lst ((rs ++ [r]).map V.ref))) d = some (.ins A.C dx (flds bt pl)) := by rw [upd_ne ndp]; exact hd2
          refine ⟨_, rfl, _, rfl, d, A.C, dx, _, rfl, hd3, T.cl, T.nBench, (by rw [flds_eq]; show 2 < 1000; decide), ?_⟩
          rw [flds_put]
          have kd2 : But d pl (upd H2 pl (.lst ((rs ++ [r]).map V.ref))) (upd (upd H2 pl (.lst ((rs ++ [r]).map V.ref))) d (.ins A.C dx (flds p pl))) := But.updD
          have kall : But d pl H2 (upd (upd H2 pl (.lst ((rs ++ [r]).map V.ref))) d (.ins A.C dx (flds p pl))) := kp.trans kd2
          have tall : TupSame H2 (upd (upd H2 pl (.lst ((rs ++ [r]).map V.ref))) d (.ins A.C dx (flds p pl))) := fun b xs e => kall b _ e (ne_of e hd2 (by intro z; cases z)) (ne_of e hp2 (by intro z; cases z))
          refine k _ ((But.of (s1.trans s2)).trans kall) ⟨dx, p, rs ++ [r], hN2, upd_same, (bT.mono s2).but hN2 hd2 hp2 kall, by rw [upd_ne (Ne.symm ndp), upd_same], ?_⟩
          exact paired_append (sts_mono tall (sts_mono (Same.tups (s1.trans s2)) h4)) (.cons (e2.mono tall) .nil)
        | false =>
          rw [hch] at eq
          have eq' : q = [] := eq
          subst eq'
          refine iteF ?_
          have hd2 := s1 _ _ h1
          have hp2 := s1 _ _ h3
          refine ⟨_, rfl, _, rfl, d, A.C, dx, _, rfl, hd2, T.cl, T.nBench, (by rw [flds_eq]; show 2 < 1000; decide), ?_⟩
          rw [flds_put]
          have kd2 : But d pl H1 (upd H1 d (.ins A.C dx (flds p pl))) := But.updD
          have tall : TupSame H1 (upd H1 d (.ins A.C dx (flds p pl))) := fun b xs e => kd2 b _ e (ne_of e hd2 (by intro z; cases z)) (ne_of e hp2 (by intro z; cases z))
          rw [List.append_nil] at k
          exact k _ ((But.of s1).trans kd2) ⟨dx, p, rs, hN2, upd_same, bT.but hN2 hd2 hp2 kd2, by rw [upd_ne (Ne.symm ndp)]; exact hp2, sts_mono tall (sts_mono (Same.tups s1) h4)⟩
theorem sc_answers : FnScope ["deeds", "day"] ["deeds"] (defScope s_answers) := ⟨rfl, rfl, rfl, by decide +kernel, rfl, by decide +kernel, by decide +kernel⟩
def sp_answers (K : PySem.W.Frag) : Sp := fun vs H Q _ => ∃ (a : Addr) (rs : List Addr) (ds : List Deed), vs = [.ref a] ∧ SqL K H a (rs.map V.ref) ∧ Dds H rs ds ∧ (∀ d ∈ ds, okD d) ∧ ds.length ≤ 400 ∧ ∀ p H', Same H H' → H p = none → H' p = some (.lst ((ansL ds ds.length).map V.bl)) → Q (.ref p) H'
theorem ok_answers (T : Txt K mg A) : FnOk P w K mg base CX0 6 A.f_answers A.fd_answers ["deeds"] (sp_answers K) := by
  have B := T.B
  refine T.F_answers.ok sc_answers (fun vs H Q E h => ?_) (fun cdv A' outer s H vs Q E hr h => ?_)
  · obtain ⟨a, rs, ds, rfl, _⟩ := h
    rfl
  · have hu := hr.units0
    obtain ⟨a, rs, ds, rfl, hS, hds, hok, hl, k⟩ := h
    have hsl := sizeLine_eq
    refine ⟨_, (pss_cons (ps_set (i := 1) sc_answers.nd rfl (Or.inr rfl) (pe_make0 T.mkDay (ok___init__ T) (hr.mono (by decide)) (by rfl) T.mgDay T.b___init__ .nil pass0))
      (pss_one (ps_ret (pe_lc rfl (CompSc.one (j := 1) (L := [(".0", .local), ("deed", .local), ("day", .cell)]) rfl rfl (by decide +kernel) rfl (by decide +kernel) rfl rfl rfl rfl (by decide +kernel) (by decide +kernel)) (pv 0) (fun _ _ _ _ _ => pif_nil) (fun _ _ _ _ _ => (pe_meth (pv 1) T.cl T.me_does (ok_does T) (hr.mono (by decide)) T.b_does .nil pass0 (pa_cons (pv 0) pa_nil))))))), ?_⟩
    intro x dx nx ndx nex
    refine ⟨x, dx, rfl, upd_same, fun pl H1 fpl kp D1 => ⟨rfl, ?_⟩⟩
    obtain ⟨s1, npl⟩ := make_same nx ndx nex fpl kp
    have hln := hds.length
    have D1 : DayAt A.C H1 x pl (En ds 0) := by rw [En_zero]; exact D1
    refine ⟨_, rfl, a, rs.map V.ref, rfl, s1.seq hS, fun i ys H2 => Same H H2 ∧ DayAt A.C H2 x pl (En ds i) ∧ ys = (ansL ds i).map V.bl, ⟨s1, D1, rfl⟩, ?_, ?_, ?_⟩
    · rintro i ys H2 ⟨s2, D2, rfl⟩
      exact s2.seq hS
    · rintro i vv ys H2 hvv ⟨s2, D2, rfl⟩
      have hi : i < rs.length := by have := (List.getElem?_eq_some_iff.mp hvv).1; rw [List.length_map] at this; exact this
      obtain ⟨r, hr⟩ : ∃ r, rs[i]? = some r := ⟨_, List.getElem?_eq_getElem hi⟩
      have hv : (rs.map V.ref)[i]? = some (V.ref r) := by rw [List.getElem?_map, hr]; rfl
      obtain ⟨dd, hdd, hat⟩ := paired_get' hds hr
      have hat2 : DeedAt H2 r dd := hat.mono (Same.tups s2)
      have hokd := hok dd (List.mem_of_getElem? hdd)
      have hft := En_fits hok i
      obtain ⟨dx2, bt2, rs2, hN2, q1, q2, q3, q4⟩ := id D2
      rw [hv] at hvv
      cases hvv
      refine ⟨_, rfl, x, dx2, _, rfl, q1, flds_no _ _ (by decide +kernel) (by decide +kernel), _, rfl, x, pl, r, En ds i, dd, 40 * i, rfl, D2, hat2, hokd, hft, by omega, fun H3 k3 D3 => ?_⟩
      have s3 : Same H H3 := Same.but s2 nx npl k3
      rw [← En_succ hdd] at D3
      refine ⟨s3, D3, ?_⟩
      rw [ansL_succ hdd, List.map_append]
      rfl
    · rintro ys H2 ⟨s2, D2, rfl⟩ p hp
      refine k p _ (s2.trans (Same.new hp)) (s2.free hp) ?_
      rw [upd_same, List.length_map, hln]
theorem sc_states : FnScope ["deeds", "day", "found", "deed"] ["deeds"] (defScope s_states) := ⟨rfl, rfl, rfl, by decide +kernel, rfl, by decide +kernel, by decide +kernel⟩
def sp_states (K : PySem.W.Frag) : Sp := fun vs H Q _ => ∃ (a : Addr) (rs : List Addr) (ds : List Deed), vs = [.ref a] ∧ SqL K H a (rs.map V.ref) ∧ Dds H rs ds ∧ (∀ d ∈ ds, okD d) ∧ ds.length ≤ 400 ∧ ∀ p H' ps, Same H H' → H p = none → H' p = some (.lst (ps.map V.ref)) → Sts H' ps (stsL ds ds.length) → Q (.ref p) H'
theorem ok_states (T : Txt K mg A) : FnOk P w K mg base CX0 6 A.f_states A.fd_states ["deeds"] (sp_states K) := by
  have B := T.B
  refine T.F_states.ok sc_states (fun vs H Q E h => ?_) (fun cdv A' outer s H vs Q E hr h => ?_)
  · obtain ⟨a, rs, ds, rfl, _⟩ := h
    rfl
  · have hu := hr.units0
    obtain ⟨a, rs, ds, rfl, hS, hds, hok, hl, k⟩ := h
    have hsl := sizeLine_eq
    refine ⟨_, (pss_cons (ps_set (i := 1) sc_states.nd rfl (Or.inl rfl) (pe_make0 T.mkDay (ok___init__ T) (hr.mono (by decide)) (by rfl) T.mgDay T.b___init__ .nil pass0))
      (pss_cons (ps_set (i := 2) sc_states.nd rfl (Or.inl rfl) (pe_lst pa_nil))
      (pss_cons (ps_for PassesOwn.never rfl (pi_list (pv 0)) (pg_name (i := 3) sc_states.nd rfl (Or.inl rfl)) (pss_cons (ps_expr (pe_meth (pv 1) T.cl T.me_does (ok_does T) (hr.mono (by decide)) T.b_does .nil pass0 (pa_cons (pv 3) pa_nil)))
      (pss_one (ps_expr (pe_bm F.plainAttrs_list F.slot_list_append F.type_list_append mt_append (pv 2) (pa_cons (pe_call (ok_state_of T) (hr.mono (by decide)) (by rfl) T.m_state_of T.F_state_of.kp T.b_state_of .nil pass0 (pa_cons (pe_fld (pv 1) rfl) pa_nil)) pa_nil))))))
      (pss_one (ps_ret (pv 2)))))), ?_⟩
    intro x dx nx ndx nex
    refine ⟨x, dx, rfl, upd_same, fun pl H1 fpl kp D1 => ⟨rfl, ?_⟩⟩
    obtain ⟨s1, npl⟩ := make_same nx ndx nex fpl kp
    have hln := hds.length
    have D1 : DayAt A.C H1 x pl (En ds 0) := by rw [En_zero]; exact D1
    refine ⟨(by simp), fun fp ff => ?_⟩
    have nfp : H fp = none := s1.free ff
    have nefp : fp ≠ pl := by
      obtain ⟨rs0, e0⟩ := D1.pl
      exact (ne_of_none e0 ff).symm
    refine ⟨_, rfl, a, rfl, ⟨_, (s1.trans (Same.new ff)).seq hS⟩, for_list (K := K) (a := a) (xs := rs.map V.ref) (fun i σ H2 => ∃ (v : Option V) (ps : List Addr), σ = [some (.ref a), some (.ref x), some (.ref fp), v] ∧ Same H H2 ∧ DayAt A.C H2 x pl (En ds i) ∧ H2 fp = some (.lst (ps.map V.ref)) ∧ Sts H2 ps (stsL ds i)) ⟨none, [], rfl, s1.trans (Same.new ff), D1.same (Same.new ff), upd_same, .nil⟩ ?_ ?_ ?_⟩
    · rintro i σ H2 hi ⟨v, ps, rfl, s2, D2, e2, g2⟩
      exact s2.seq hS
    · rintro i vv σ H2 hvv ⟨v, ps, rfl, s2, D2, e2, g2⟩
      have hi : i < rs.length := by have := (List.getElem?_eq_some_iff.mp hvv).1; rw [List.length_map] at this; exact this
      obtain ⟨r, hr⟩ : ∃ r, rs[i]? = some r := ⟨_, List.getElem?_eq_getElem hi⟩
      have hv : (rs.map V.ref)[i]? = some (V.ref r) := by rw [List.getElem?_map, hr]; rfl
      obtain ⟨dd, hdd, hat⟩ := paired_get' hds hr
      have hat2 : DeedAt H2 r dd := hat.mono (Same.tups s2)
      have hokd := hok dd (List.mem_of_getElem? hdd)
      have hft := En_fits hok i
      obtain ⟨dx2, bt2, rs2, hN2, q1, q2, q3, q4⟩ := id D2
      rw [hv] at hvv
      cases hvv
      refine ⟨_, rfl, x, dx2, _, rfl, q1, flds_no _ _ (by decide +kernel) (by decide +kernel), _, rfl, x, pl, r, En ds i, dd, 40 * i, rfl, D2, hat2, hokd, hft, by omega, fun H3 k3 D3 => ?_⟩
      have s3 : Same H H3 := Same.but s2 nx npl k3
      rw [← En_succ hdd] at D3
      have e3 : H3 fp = some (.lst (ps.map V.ref)) := k3 _ _ e2 (ne_of e2 q1 (by intro z; cases z)) nefp
      have g3 : Sts H3 ps (stsL ds i) := sts_mono (D2.tups k3) g2
      obtain ⟨dx, bt, rs3, hN3, y1, y2, y3, y4⟩ := id D3
      have hft2 := (En_fits hok (i + 1)).size
      have lps := g3.length
      rw [stsL_length] at lps
      refine ⟨_, rfl, Or.inl ⟨rfl, _, SqL.of e3⟩, _, rfl, x, A.C, dx, _, _, rfl, y1, T.cl, T.nBench, flds_bench _ _, bt, _, _, _, rfl, y2, by omega, fun r3 H4 s4 f4 e4 => ?_⟩
      refine ⟨fp, _, _, rfl, rfl, s4 _ _ e3, by rw [List.length_map]; omega, ?_⟩
      have er : ps.map V.ref ++ [V.ref r3] = (ps ++ [r3]).map V.ref := by rw [List.map_append]; rfl
      rw [er]
      have tk := tup_upd (o := .lst ((ps ++ [r3]).map V.ref)) (s4 _ _ e3)
      refine ⟨_, ps ++ [r3], rfl, (s3.trans s4).put nfp, (D3.same s4).updF (s4 _ _ e3) nefp, upd_same, ?_⟩
      rw [stsL_succ]
      exact paired_append (sts_mono tk (sts_mono (Same.tups s4) g3)) (.cons (e4.mono tk) .nil)
    · rintro σ H2 ⟨v, ps, rfl, s2, D2, e2, g2⟩
      rw [List.length_map, hln] at g2
      exact ⟨_, rfl, k fp H2 ps s2 nfp e2 g2⟩
theorem sc__law_whole : FnScope ["_law_found"] ["_law_found"] (defScope s__law_whole) := ⟨rfl, rfl, rfl, by decide +kernel, rfl, by decide +kernel, by decide +kernel⟩
def sp__law_whole : Sp := fun vs H Q _ => ∃ i : Int, vs = [.int i] ∧ Q (.bl true) H
theorem ok__law_whole (T : Txt K mg A) : FnOk P w K mg base CX0 1 A.f__law_whole A.fd__law_whole ["_law_found"] sp__law_whole := by
  have B := T.B
  refine T.F__law_whole.ok sc__law_whole (fun vs H Q E h => ?_) (fun cdv A' outer s H vs Q E hr h => ?_)
  · obtain ⟨i, rfl, _⟩ := h
    rfl
  · have hu := hr.units0
    obtain ⟨i, rfl, k⟩ := h
    refine ⟨_, (pss_one (ps_ret (pe_and (pe_callB (call_isi (T := "int")) (by rfl) B.isi b_isinstance (pa_cons (pv 0) (pa_cons (pe_bltn (v := .ty "int") (by rfl) B.int b_int rfl) pa_nil))) (pe_one (pe_not (pe_callB (call_isi (T := "bool")) (by rfl) B.isi b_isinstance (pa_cons (pv 0) (pa_cons (pe_bltn (v := .ty "bool") (by rfl) B.bool b_bool rfl) pa_nil)))))))), ?_⟩
    refine ⟨_, rfl, _, _, _, rfl, TyOf.int _, Isi.same _, _, rfl, ?_⟩
    refine iteT ?_
    exact ⟨_, rfl, _, _, _, rfl, TyOf.int _, Isi.int_bool, _, rfl, k⟩
theorem sc__law_signed : FnScope ["_law_seed", "_law_signs"] ["_law_seed"] (defScope s__law_signed) := ⟨rfl, rfl, rfl, by decide +kernel, rfl, by decide +kernel, by decide +kernel⟩
def sp__law_signed : Sp := fun vs H Q _ => ∃ i : Int, vs = [.int i] ∧ ∀ z : Str, z.length = 2 → Q (.str z) H
theorem ok__law_signed (T : Txt K mg A) : FnOk P w K mg base CX0 1 A.f__law_signed A.fd__law_signed ["_law_seed"] sp__law_signed := by
  have B := T.B
  refine T.F__law_signed.ok sc__law_signed (fun vs H Q E h => ?_) (fun cdv A' outer s H vs Q E hr h => ?_)
  · obtain ⟨i, rfl, _⟩ := h
    rfl
  · have hu := hr.units0
    obtain ⟨i, rfl, k⟩ := h
    refine ⟨_, (pss_cons (ps_set (i := 1) sc__law_signed.nd rfl (Or.inl rfl) pe_str)
      (pss_cons (ps_set (i := 1) sc__law_signed.nd rfl (Or.inl rfl) (pe_op op_add_str (pv 1) pe_str))
      (pss_one (ps_ret (pe_op op_add_str (pe_ix ix_str (pv 1) (pe_op op_modI (pv 0) (pe_callB call_len (by rfl) B.len b_len (pa_cons (pv 1) pa_nil))) (fun _ _ => rfl)) (pe_ix ix_str (pv 1) (pe_op op_modI (pe_op op_fdivI (pv 0) pe_int) (pe_callB call_len (by rfl) B.len b_len (pa_cons (pv 1) pa_nil))) (fun _ _ => rfl))))))), ?_⟩
    refine ⟨_, rfl, _, _, rfl, rfl, (by decide +kernel), ?_⟩
    refine ⟨_, rfl, _, rfl, _, rfl, _, _, rfl, ⟨by decide +kernel, rfl⟩, _, _, rfl, rfl, (by decide +kernel), ?_⟩
    refine ⟨_, _, _, rfl, rfl, (by decide +kernel), (atI_some (Int.emod_nonneg i (by decide +kernel)) (Int.lt_of_lt_of_le (Int.emod_lt_of_pos i (by decide +kernel)) (Int.le_of_eq (by decide +kernel)))).choose_spec.1, ?_⟩
    refine ⟨_, rfl, _, rfl, _, _, rfl, rfl, ⟨by decide, by decide⟩, _, rfl, _, _, rfl, ⟨by decide +kernel, rfl⟩, _, _, rfl, rfl, (by decide +kernel), ?_⟩
    refine ⟨_, _, _, rfl, rfl, (by decide +kernel), (atI_some (Int.emod_nonneg (i / 7) (by decide +kernel)) (Int.lt_of_lt_of_le (Int.emod_lt_of_pos (i / 7) (by decide +kernel)) (Int.le_of_eq (by decide +kernel)))).choose_spec.1, ?_⟩
    exact ⟨_, _, rfl, rfl, big _ (by show 1 + 1 ≤ _; decide), k _ rfl⟩
theorem sc__law_deeds : FnScope ["_law_cells", "_law_made", "_law_words", "_law_k", "_law_turn", "_law_rest", "_law_place", "_law_far", "_law_number"] ["_law_cells"] (defScope s__law_deeds) := ⟨rfl, rfl, rfl, by decide +kernel, rfl, by decide +kernel, by decide +kernel⟩
def sp__law_deeds (K : PySem.W.Frag) : Sp := fun vs H Q _ => ∃ (a : Addr) (ns : List Int), vs = [.ref a] ∧ SqL K H a (ns.map V.int) ∧ ns.length ≤ 200 ∧ ∀ p H' rs ds, Same H H' → H p = none → H' p = some (.lst (rs.map V.ref)) → Dds H' rs ds → (∀ d ∈ ds, okD d) → ds.length = ns.length → Q (.ref p) H'
theorem ok__law_deeds (T : Txt K mg A) : FnOk P w K mg base CX0 2 A.f__law_deeds A.fd__law_deeds ["_law_cells"] (sp__law_deeds K) := by
  have B := T.B
  refine T.F__law_deeds.ok sc__law_deeds (fun vs H Q E h => ?_) (fun cdv A' outer s H vs Q E hr h => ?_)
  · obtain ⟨a, ns, rfl, _⟩ := h
    rfl
  · have hu := hr.units0
    obtain ⟨a, ns, rfl, hS, hl, k⟩ := h
    have hsl := sizeLine_eq
    refine ⟨_, (pss_wcons (ps_set (i := 1) sc__law_deeds.nd rfl (Or.inl rfl) (pe_lst pa_nil))
      (wss_cons (ws_set (i := 2) sc__law_deeds.nd rfl (Or.inl rfl) we_words)
      (pss_cons (ps_for PassesOwn.never rfl (pi_range1 (by rfl) B.range (pa_cons (pe_callB call_len (by rfl) B.len b_len (pa_cons (pv 0) pa_nil)) pa_nil)) (pg_name (i := 3) sc__law_deeds.nd rfl (Or.inl rfl)) (pss_cons (ps_set (i := 4) sc__law_deeds.nd rfl (Or.inl rfl) (pe_op op_modI (pe_op op_addI (pe_ix ix_list (pv 0) (pv 3) (fun _ _ => rfl)) (pe_op op_mulI pe_int (pv 3))) pe_int))
      (pss_cons (ps_set (i := 5) sc__law_deeds.nd rfl (Or.inl rfl) (pe_op op_fdivI (pe_ix ix_list (pv 0) (pv 3) (fun _ _ => rfl)) pe_int))
      (pss_one (ps_if (pt_cmpR op_lt (pv 4) pe_int (nomark _)) (pss_one (ps_expr (pe_wbm F.plainAttrs_list F.slot_list_append F.type_list_append mt_append (pv 1) (we_tup (wa_cons we_str (wa_cons (we_ix ix_list (we_op op_cat (we (pv 2)) (we_lst (wa_cons (we (pe_call (ok__law_signed T) (hr.mono (by decide)) (by rfl) T.m__law_signed T.F__law_signed.kp T.b__law_signed .nil pass0 (pa_cons (pv 5) pa_nil))) wa_nil))) (we_op op_modI (we_op op_addI (we (pv 5)) (we (pv 3))) we_int) (fun _ _ => rfl)) wa_nil)))))) (pss_one (ps_if (pt_cmpR op_eq (pv 4) pe_int (nomark _)) (pss_one (ps_expr (pe_wbm F.plainAttrs_list F.slot_list_append F.type_list_append mt_append (pv 1) (we_tup (wa_cons we_str (wa_cons (we_ix ix_list (we_lst (wa_cons we_int (wa_cons we_int (wa_cons we_int (wa_cons we_int (wa_cons (we_op op_powI we_int we_int) (wa_cons (we_op op_modI (we (pv 5)) we_int) wa_nil))))))) (we_op op_modI (we_op op_addI (we (pv 5)) (we (pv 3))) we_int) (fun _ _ => rfl)) wa_nil)))))) (pss_one (ps_if (pt_cmpR op_eq (pv 4) pe_int (nomark _)) (pss_one (ps_expr (pe_wbm F.plainAttrs_list F.slot_list_append F.type_list_append mt_append (pv 1) (we_tup (wa_cons we_str (wa_cons (we_ix ix_list (we_lst (wa_cons we_int (wa_cons we_int (wa_cons we_int (wa_cons we_int (wa_cons (we_op op_powI we_int we_int) (wa_cons (we_op op_modI (we (pv 5)) we_int) wa_nil))))))) (we_op op_modI (we_op op_addI (we (pv 5)) (we (pv 3))) we_int) (fun _ _ => rfl)) wa_nil)))))) (pss_one (ps_if (pt_cmpR op_lt (pv 4) pe_int (nomark _)) (WSs.h (wss_more (ws_set (i := 6) sc__law_deeds.nd rfl (Or.inl rfl) (we_op op_subI (we_op op_modI (we_op op_addI (we (pv 5)) (we_op op_mulI we_int (we (pv 3)))) (we_ix ix_list (we_lst (wa_cons we_int (wa_cons we_int wa_nil))) (we_op op_modI (we (pv 3)) we_int) (fun _ _ => rfl))) we_int))
      (wss_more (ws_set (i := 7) sc__law_deeds.nd rfl (Or.inl rfl) (we_ix ix_list (we_lst (wa_cons (we_op op_powI we_int we_int) (wa_cons (we_op op_subI (we_un un_negI we_int) (we_op op_modI (we (pv 5)) (we_op op_powI we_int we_int))) (wa_cons (we_op op_addI we_int (we_op op_modI (we (pv 5)) (we_op op_powI we_int we_int))) wa_nil)))) (we_op op_modI (we (pv 3)) we_int) (fun _ _ => rfl)))
      (wss_one (ps_expr (pe_wbm F.plainAttrs_list F.slot_list_append F.type_list_append mt_append (pv 1) (we_tup (wa_cons we_str (wa_cons (we_ix ix_list (we_lst (wa_cons (we (pv 6)) (wa_cons (we (pv 7)) wa_nil))) (we (pe_callTy call_int1 (by rfl) B.int b_int (pa_cons (pe_cmpR op_eq (pv 6) pe_int (nomark _)) pa_nil))) (fun _ _ => rfl)) wa_nil))))))))) (pss_one (ps_if (pt_cmpR op_eq (pv 4) pe_int (nomark _)) (WSs.h (wss_more (ws_set (i := 8) sc__law_deeds.nd rfl (Or.inl rfl) (we_op op_subI (we_op op_modI (we_op op_addI (we (pv 5)) (we (pv 3))) (we_ix ix_list (we_lst (wa_cons we_int (wa_cons we_int wa_nil))) (we_op op_modI (we (pv 3)) we_int) (fun _ _ => rfl))) we_int))
      (wss_more (ws_set (i := 7) sc__law_deeds.nd rfl (Or.inl rfl) (we_ix ix_list (we_lst (wa_cons (we_op op_powI we_int we_int) (wa_cons (we_op op_subI (we_un un_negI we_int) (we_op op_modI (we (pv 5)) (we_op op_powI we_int we_int))) (wa_cons (we_op op_addI we_int (we_op op_modI (we (pv 5)) (we_op op_powI we_int we_int))) wa_nil)))) (we_op op_modI (we (pv 3)) we_int) (fun _ _ => rfl)))
      (wss_one (ps_expr (pe_wbm F.plainAttrs_list F.slot_list_append F.type_list_append mt_append (pv 1) (we_tup (wa_cons we_str (wa_cons (we_ix ix_list (we_lst (wa_cons (we (pv 8)) (wa_cons (we (pv 7)) wa_nil))) (we (pe_callTy call_int1 (by rfl) B.int b_int (pa_cons (pe_cmpR op_eq (pv 8) pe_int (nomark _)) pa_nil))) (fun _ _ => rfl)) wa_nil))))))))) (pss_one (ps_expr (pe_wbm F.plainAttrs_list F.slot_list_append F.type_list_append mt_append (pv 1) (we_tup (wa_cons we_str wa_nil))))))))))))))))))
      (pss_one (ps_ret (pv 1)))))), ?_⟩
    refine ⟨(by simp), fun p fp => ?_⟩
    refine ⟨_, _, rfl, rfl, ⟨by decide, fun _ _ => by decide +kernel, fun _ _ => by decide +kernel⟩, (by simp [sizeLine_eq]), fun pw fw => ?_⟩
    have npw : pw ≠ p := (ne_of_none upd_same fw).symm
    have nf : H p = none := fp
    have ln : (ns.map V.int).length = ns.length := List.length_map _
    have s1 := (Same.new (o := .lst []) fp).trans (Same.new (o := .lst (W0.map V.str)) fw)
    refine ⟨_, rfl, _, _, rfl, Or.inl ⟨_, Same.seq s1 hS, rfl⟩, _, rfl, by omega, by omega, for_range (fun i σ H2 => ∃ (rs : List Addr) (ds : List Deed) (v3 v4 v5 v6 v7 v8 : Option V), σ = [some (.ref a), some (.ref p), some (.ref pw), v3, v4, v5, v6, v7, v8] ∧ Same H H2 ∧ H2 p = some (.lst (rs.map V.ref)) ∧ H2 pw = some (.lst (W0.map V.str)) ∧ Dds H2 rs ds ∧ (∀ d ∈ ds, okD d) ∧ ds.length = i) ⟨[], [], none, none, none, none, none, none, rfl, s1, sn fw upd_same, upd_same, .nil, fun _ z => (nomatch z), rfl⟩ ?_ ?_⟩
    · rintro i σ H2 hi ⟨rs, ds, v3, v4, v5, v6, v7, v8, rfl, s2, e2, ew, g, hok, hlen⟩
      have lrs := g.length
      have hi' : i < ns.length := by omega
      obtain ⟨z, hz⟩ : ∃ z, ns[i]? = some z := ⟨ns[i], List.getElem?_eq_getElem hi'⟩
      have hat : atI (ns.map V.int) (0 + (i : Int)) = some (.int z) := by
        rw [Int.zero_add]; exact atI_at (by rw [List.getElem?_map, hz]; rfl)
      refine ⟨_, rfl, _, rfl, a, _, _, .int z, rfl, rfl, s2.seq hS, hat, _, rfl, _, _, rfl, rfl, Or.inl ⟨by decide, by decide⟩, _, _, rfl, rfl, _, _, rfl, rfl, (by show (0 : Int) < 10; decide), ?_⟩
      refine ⟨_, rfl, _, rfl, a, _, _, .int z, rfl, rfl, s2.seq hS, hat, _, _, rfl, rfl, ⟨by decide, by decide⟩, ?_⟩
      refine ⟨_, rfl, _, _, rfl, rfl, _, rfl, ?_⟩
      refine ite2 (fun _ => ?_) (fun _ => ?_)
      · refine ⟨_, rfl, Or.inl ⟨rfl, _, SqL.of e2⟩, _, rfl, _, rfl, _, rfl, fun zs hzs => ?_⟩
        refine ⟨(by simp [sizeLine_eq]), fun q1 f1 => ?_⟩
        refine ⟨pw, q1, _, _, rfl, rfl, sn f1 ew, upd_same, by rw [List.length_map, W0_size]; show 10 + 1 ≤ _; omega, fun q2 f2 => ?_⟩
        obtain ⟨wd, hwd, hat1⟩ := pickS hzs (z / 10 + (0 + (i : Int)))
        refine ⟨_, rfl, _, rfl, _, _, rfl, rfl, _, _, rfl, rfl, (by show (0 : Int) < 11; decide), q2, _, _, _, rfl, rfl, SqL.of upd_same, hat1, (by simp [sizeLine_eq]), fun r f => ?_⟩
        have s3 := same_at f ((Same.new f1).trans (Same.new f2))
        obtain ⟨y1, y2, y3, y4⟩ := dpush (d := (.put wd.cps.toList)) s2 s3 nf e2 ew npw g f (by show _ = _; rw [upd_same, ← strL_of])
        refine ⟨p, _, _, rfl, rfl, Same.trans s3 (Same.new f) _ _ e2, by rw [List.length_map, lrs]; omega, rs ++ [r], ds ++ [_], _, _, _, _, _, _, rfl, y1, y2, y3, y4, ?_, by rw [List.length_append, hlen]; rfl⟩
        intro d hd
        rcases List.mem_append.mp hd with hd | hd
        · exact hok d hd
        · rw [List.mem_singleton.mp hd]
          exact hwd
      refine ⟨_, rfl, rfl, _, rfl, ?_⟩
      refine ite2 (fun _ => ?_) (fun _ => ?_)
      · obtain ⟨n, hn, hat1⟩ := pickN (z / 10 + (0 + (i : Int))) (z / 10)
        refine ⟨_, rfl, Or.inl ⟨rfl, _, SqL.of e2⟩, _, _, rfl, rfl, ⟨by decide, by decide, by decide⟩, _, rfl, _, _, rfl, rfl, (by show (0 : Int) < 90; decide), (by simp [sizeLine_eq]), fun q1 f1 => ?_⟩
        refine ⟨_, rfl, _, rfl, _, _, rfl, rfl, _, _, rfl, rfl, (by show (0 : Int) < 6; decide), q1, _, _, _, rfl, rfl, SqL.of upd_same, hat1, (by simp [sizeLine_eq]), fun r f => ?_⟩
        have s3 := same_at f (Same.new f1)
        obtain ⟨y1, y2, y3, y4⟩ := dpush (d := (.rub n)) s2 s3 nf e2 ew npw g f (by show _ = _; rw [upd_same])
        refine ⟨p, _, _, rfl, rfl, Same.trans s3 (Same.new f) _ _ e2, by rw [List.length_map, lrs]; omega, rs ++ [r], ds ++ [_], _, _, _, _, _, _, rfl, y1, y2, y3, y4, ?_, by rw [List.length_append, hlen]; rfl⟩
        intro d hd
        rcases List.mem_append.mp hd with hd | hd
        · exact hok d hd
        · rw [List.mem_singleton.mp hd]
          exact hn
      refine ⟨_, rfl, rfl, _, rfl, ?_⟩
      refine ite2 (fun _ => ?_) (fun _ => ?_)
      · obtain ⟨n, hn, hat1⟩ := pickN (z / 10 + (0 + (i : Int))) (z / 10)
        refine ⟨_, rfl, Or.inl ⟨rfl, _, SqL.of e2⟩, _, _, rfl, rfl, ⟨by decide, by decide, by decide⟩, _, rfl, _, _, rfl, rfl, (by show (0 : Int) < 90; decide), (by simp [sizeLine_eq]), fun q1 f1 => ?_⟩
        refine ⟨_, rfl, _, rfl, _, _, rfl, rfl, _, _, rfl, rfl, (by show (0 : Int) < 6; decide), q1, _, _, _, rfl, rfl, SqL.of upd_same, hat1, (by simp [sizeLine_eq]), fun r f => ?_⟩
        have s3 := same_at f (Same.new f1)
        obtain ⟨y1, y2, y3, y4⟩ := dpush (d := (.clear n)) s2 s3 nf e2 ew npw g f (by show _ = _; rw [upd_same])
        refine ⟨p, _, _, rfl, rfl, Same.trans s3 (Same.new f) _ _ e2, by rw [List.length_map, lrs]; omega, rs ++ [r], ds ++ [_], _, _, _, _, _, _, rfl, y1, y2, y3, y4, ?_, by rw [List.length_append, hlen]; rfl⟩
        intro d hd
        rcases List.mem_append.mp hd with hd | hd
        · exact hok d hd
        · rw [List.mem_singleton.mp hd]
          exact hn
      refine ⟨_, rfl, _, _, rfl, rfl, _, rfl, ?_⟩
      refine ite2 (fun _ => ?_) (fun _ => ?_)
      · refine ⟨_, rfl, _, rfl, _, _, rfl, rfl, Or.inl ⟨by decide, by decide⟩, _, _, rfl, rfl, (by simp [sizeLine_eq]), fun q1 f1 => ?_⟩
        obtain ⟨m1, hm1, hat1⟩ := pick2 (a := 19) (b := 90) (by decide) (by decide) (0 + (i : Int))
        refine ⟨_, rfl, _, _, rfl, rfl, (by show (0 : Int) < 2; decide), q1, _, _, _, rfl, rfl, SqL.of upd_same, hat1, _, _, rfl, rfl, hm1, _, _, rfl, rfl, ?_⟩
        obtain ⟨m2, hat2⟩ := pick3 (10 ^ (9 : Int).toNat) (-2 - z / 10 % 10 ^ (60 : Int).toNat) (100 + z / 10 % 10 ^ (60 : Int).toNat) (0 + (i : Int))
        refine ⟨_, _, rfl, rfl, ⟨by decide, by decide, by decide⟩, _, rfl, _, rfl, _, _, rfl, rfl, ⟨by decide, by decide, by decide⟩, _, _, rfl, rfl, (by decide +kernel), _, _, rfl, rfl, _, rfl, _, _, rfl, rfl, ⟨by decide, by decide, by decide⟩, _, _, rfl, rfl, (by decide +kernel), _, _, rfl, rfl, (by simp [sizeLine_eq]), fun q2 f2 => ?_⟩
        refine ⟨_, rfl, _, _, rfl, rfl, (by show (0 : Int) < 3; decide), q2, _, _, _, rfl, rfl, SqL.of upd_same, hat2, ?_⟩
        refine ⟨_, rfl, Or.inl ⟨rfl, _, SqL.of (sn f2 (sn f1 e2))⟩, _, rfl, _, rfl, (by simp [sizeLine_eq]), fun q3 f3 => ?_⟩
        refine ⟨_, rfl, rfl, Or.inr ⟨_, rfl, ?_⟩⟩
        refine ⟨q3, _, _, _, rfl, rfl, SqL.of upd_same, (pickB _ _ _), ?_⟩
        refine ⟨(by simp [sizeLine_eq]), fun r f => ?_⟩
        have s3 := same_at f (((Same.new f1).trans (Same.new f2)).trans (Same.new f3))
        obtain ⟨y1, y2, y3, y4⟩ := dpush (d := (.go _)) s2 s3 nf e2 ew npw g f upd_same
        refine ⟨p, _, _, rfl, rfl, Same.trans s3 (Same.new f) _ _ e2, by rw [List.length_map, lrs]; omega, rs ++ [r], ds ++ [_], _, _, _, _, _, _, rfl, y1, y2, y3, y4, ?_, by rw [List.length_append, hlen]; rfl⟩
        intro d hd
        rcases List.mem_append.mp hd with hd | hd
        · exact hok d hd
        · rw [List.mem_singleton.mp hd]
          exact trivial
      refine ⟨_, rfl, rfl, _, rfl, ?_⟩
      refine ite2 (fun _ => ?_) (fun _ => ?_)
      · refine ⟨_, rfl, _, rfl, _, _, rfl, rfl, (by simp [sizeLine_eq]), fun q1 f1 => ?_⟩
        obtain ⟨m1, hm1, hat1⟩ := pick2 (a := 7) (b := 20) (by decide) (by decide) (0 + (i : Int))
        refine ⟨_, rfl, _, _, rfl, rfl, (by show (0 : Int) < 2; decide), q1, _, _, _, rfl, rfl, SqL.of upd_same, hat1, _, _, rfl, rfl, hm1, _, _, rfl, rfl, ?_⟩
        obtain ⟨m2, hat2⟩ := pick3 (10 ^ (9 : Int).toNat) (-2 - z / 10 % 10 ^ (60 : Int).toNat) (100 + z / 10 % 10 ^ (60 : Int).toNat) (0 + (i : Int))
        refine ⟨_, _, rfl, rfl, ⟨by decide, by decide, by decide⟩, _, rfl, _, rfl, _, _, rfl, rfl, ⟨by decide, by decide, by decide⟩, _, _, rfl, rfl, (by decide +kernel), _, _, rfl, rfl, _, rfl, _, _, rfl, rfl, ⟨by decide, by decide, by decide⟩, _, _, rfl, rfl, (by decide +kernel), _, _, rfl, rfl, (by simp [sizeLine_eq]), fun q2 f2 => ?_⟩
        refine ⟨_, rfl, _, _, rfl, rfl, (by show (0 : Int) < 3; decide), q2, _, _, _, rfl, rfl, SqL.of upd_same, hat2, ?_⟩
        refine ⟨_, rfl, Or.inl ⟨rfl, _, SqL.of (sn f2 (sn f1 e2))⟩, _, rfl, _, rfl, (by simp [sizeLine_eq]), fun q3 f3 => ?_⟩
        refine ⟨_, rfl, rfl, Or.inr ⟨_, rfl, ?_⟩⟩
        refine ⟨q3, _, _, _, rfl, rfl, SqL.of upd_same, (pickB _ _ _), ?_⟩
        refine ⟨(by simp [sizeLine_eq]), fun r f => ?_⟩
        have s3 := same_at f (((Same.new f1).trans (Same.new f2)).trans (Same.new f3))
        obtain ⟨y1, y2, y3, y4⟩ := dpush (d := (.row _)) s2 s3 nf e2 ew npw g f upd_same
        refine ⟨p, _, _, rfl, rfl, Same.trans s3 (Same.new f) _ _ e2, by rw [List.length_map, lrs]; omega, rs ++ [r], ds ++ [_], _, _, _, _, _, _, rfl, y1, y2, y3, y4, ?_, by rw [List.length_append, hlen]; rfl⟩
        intro d hd
        rcases List.mem_append.mp hd with hd | hd
        · exact hok d hd
        · rw [List.mem_singleton.mp hd]
          exact trivial
      · refine ⟨_, rfl, Or.inl ⟨rfl, _, SqL.of e2⟩, (by simp [sizeLine_eq]), fun r f => ?_⟩
        have s3 := same_at f (Same.refl _)
        obtain ⟨y1, y2, y3, y4⟩ := dpush (d := .undo) s2 s3 nf e2 ew npw g f (by show _ = _; rw [upd_same])
        refine ⟨p, _, _, rfl, rfl, Same.trans s3 (Same.new f) _ _ e2, by rw [List.length_map, lrs]; omega, rs ++ [r], ds ++ [_], _, _, _, _, _, _, rfl, y1, y2, y3, y4, ?_, by rw [List.length_append, hlen]; rfl⟩
        intro d hd
        rcases List.mem_append.mp hd with hd | hd
        · exact hok d hd
        · rw [List.mem_singleton.mp hd]
          exact trivial
    · rintro σ H2 ⟨rs, ds, v3, v4, v5, v6, v7, v8, rfl, s2, e2, ew, g, hok, hlen⟩
      rw [ln] at hlen
      exact ⟨_, rfl, k p H2 rs ds s2 nf e2 g hok hlen⟩
theorem sc__law_first : FnScope ["_law_text", "_law_number", "_law_place", "_law_k", "_law_end"] ["_law_text", "_law_number"] (defScope s__law_first) := ⟨rfl, rfl, rfl, by decide +kernel, rfl, by decide +kernel, by decide +kernel⟩
def sp__law_first : Sp := fun vs H Q _ => ∃ (t : Tx) (r : Int), vs = [.str (strL t), .int r] ∧ Q (.int (fstD t r)) H
theorem ok__law_first (T : Txt K mg A) : FnOk P w K mg base CX0 1 A.f__law_first A.fd__law_first ["_law_text", "_law_number"] sp__law_first := by
  have B := T.B
  refine T.F__law_first.ok sc__law_first (fun vs H Q E h => ?_) (fun cdv A' outer s H vs Q E hr h => ?_)
  · obtain ⟨t, r, rfl, _⟩ := h
    rfl
  · have hu := hr.units0
    obtain ⟨t, r, rfl, k⟩ := h
    refine ⟨_, (pss_cons (ps_set (i := 2) sc__law_first.nd rfl (Or.inl rfl) pe_int)
      (pss_cons (ps_for PassesOwn.never rfl (pi_rangeL (by rfl) B.range (pa_cons (pv 1) pa_nil)) (pg_name (i := 3) sc__law_first.nd rfl (Or.inl rfl)) (pss_cons (ps_set (i := 4) sc__law_first.nd rfl (Or.inl rfl) (pe_bm F.plainAttrs_str F.slot_str_find F.type_str_find mt_find3 (pv 0) (pa_cons pe_str (pa_cons (pv 2) pa_nil))))
      (pss_cons (ps_if (pt_cmpR op_lt (pv 4) pe_int (nomark _)) (pss_one (ps_ret (pe_un un_negI pe_int))) pss_nil)
      (pss_one (ps_set (i := 2) sc__law_first.nd rfl (Or.inl rfl) (pe_op op_addI (pv 4) pe_int))))))
      (pss_cons (ps_if (pt_cmpR op_lt (pv 1) pe_int (nomark _)) (pss_one (ps_ret (pe_un un_negI pe_int))) pss_nil)
      (pss_one (ps_ret (pv 2)))))), ?_⟩
    obtain ⟨p0, r0, e0⟩ := splitL_ne 47 t
    have hpos : 0 < (splitL 47 t).length := by rw [e0]; exact Nat.succ_pos _
    refine ⟨_, rfl, _, rfl, for_range (fun i σ H2 => ∃ (v3 v4 : Option V), σ = [some (.str (strL t)), some (.int r), some (.int ((wsum ((splitL 47 t).take i) : Nat) : Int)), v3, v4] ∧ H2 = H ∧ i < (splitL 47 t).length) ⟨none, none, rfl, rfl, hpos⟩ ?_ ?_⟩
    · rintro i σ H2 hi ⟨v3, v4, rfl, rfl, hlt⟩
      have hf := find_row (c := 47) (t := t) hlt
      refine ⟨_, rfl, rfl, _, rfl, _, _, _, rfl, rfl, ?_⟩
      have hf' : Txt.find3 (strL t) ("/" : Str) ((wsum ((splitL 47 t).take i) : Nat) : Int) = if i + 1 < (splitL 47 t).length then ((wsum ((splitL 47 t).take (i + 1)) : Nat) : Int) - 1 else -1 := hf
      rw [hf']
      by_cases hn : i + 1 < (splitL 47 t).length
      · rw [if_pos hn]
        have hw : 1 ≤ wsum ((splitL 47 t).take (i + 1)) := by
          obtain ⟨p, q, e⟩ := splitL_ne 47 t
          rw [e, List.take_succ_cons]
          show 1 ≤ ((p.length + 1) :: _).sum
          rw [List.sum_cons]; omega
        refine ⟨_, rfl, _, _, rfl, rfl, _, rfl, iteN (by omega) ?_⟩
        refine ⟨_, rfl, _, _, rfl, rfl, some (V.int (0 + (i : Int))), some (V.int (((wsum ((splitL 47 t).take (i + 1)) : Nat) : Int) - 1)), ?_, rfl, hn⟩
        rw [Int.sub_add_cancel]
        rfl
      · rw [if_neg hn]
        refine ⟨_, rfl, _, _, rfl, rfl, _, rfl, iteY (by decide) ?_⟩
        refine ⟨_, rfl, ?_⟩
        have : fstD t r = -1 := by
          unfold fstD
          rw [if_neg (by omega)]
        rw [this] at k
        exact k
    · rintro σ H2 ⟨v3, v4, rfl, rfl, hlt⟩
      refine ⟨_, rfl, _, _, rfl, rfl, _, rfl, ?_⟩
      refine ite2 (fun hc => ?_) (fun hc => ?_)
      · have hr := of_decide_eq_true hc
        refine ⟨_, rfl, ?_⟩
        have : fstD t r = -1 := by
          unfold fstD
          rw [if_neg (by omega)]
        rw [this] at k
        exact k
      · have hr : ¬ (r < 0) := fun z => hc (decide_eq_true z)
        refine ⟨_, rfl, ?_⟩
        have : fstD t r = ((wsum ((splitL 47 t).take r.toNat) : Nat) : Int) := by
          unfold fstD
          rw [if_pos (by omega)]
        rw [this] at k
        exact k
theorem sc__law_next : FnScope ["_law_text", "_law_hand", "_law_past", "_law_deed", "_law_word"] ["_law_text", "_law_hand", "_law_past", "_law_deed"] (defScope s__law_next) := ⟨rfl, rfl, rfl, by decide +kernel, rfl, by decide +kernel, by decide +kernel⟩
def sp__law_next : Sp := fun vs H Q _ => ∃ (t : Tx) (h : Nat) (pl dr : Addr) (rs : List Addr) (past : List Sta) (d : Deed), vs = [.str (strL t), .int (h : Int), .ref pl, .ref dr] ∧ H pl = some (.lst (rs.map V.ref)) ∧ Sts H rs past ∧ DeedAt H dr d ∧ okD d ∧ h ≤ t.length ∧ t.length ≤ 100000 ∧ past.length ≤ 100000 ∧ ∀ v H' rs', But pl pl H H' → H' pl = some (.lst (rs'.map V.ref)) → NX t h past d v H' rs' → Q v H'
theorem ok__law_next (T : Txt K mg A) : FnOk P w K mg base CX0 2 A.f__law_next A.fd__law_next ["_law_text", "_law_hand", "_law_past", "_law_deed"] sp__law_next := by
  have B := T.B
  refine T.F__law_next.ok sc__law_next (fun vs H Q E h => ?_) (fun cdv A' outer s H vs Q E hr h => ?_)
  · obtain ⟨t, h, pl, dr, rs, past, d, rfl, _⟩ := h
    rfl
  · have hu := hr.units0
    obtain ⟨t, h, pl, dr, rs, past, d, rfl, hp, hs, hd, hok, hh, ht, hn, k⟩ := h
    have hsl := sizeLine_eq
    have lrs := hs.length
    have e1 : (t.take h).length = h := by rw [List.length_take]; omega
    have e2 : (t.drop h).length = t.length - h := List.length_drop
    refine ⟨_, (pss_cons (ps_set (i := 4) sc__law_next.nd rfl (Or.inl rfl) (pe_ix ix_tup (pv 3) pe_int (fun _ _ => rfl)))
      (pss_cons (ps_if (pt_cmpR op_eq (pv 4) pe_str (nomark _)) (pss_cons (ps_expr (pe_bm F.plainAttrs_list F.slot_list_append F.type_list_append mt_append (pv 2) (pa_cons (pe_tup (pa_cons (pv 0) (pa_cons (pv 1) pa_nil))) pa_nil)))
      (pss_one (ps_ret (pe_tup (pa_cons (pe_op op_add_str (pe_op op_add_str (pe_slice sl_str (pv 0) po_none (po_some (pv 1))) (pe_ix ix_tup (pv 3) pe_int (fun _ _ => rfl))) (pe_slice sl_str (pv 0) (po_some (pv 1)) po_none)) (pa_cons (pe_op op_addI (pv 1) (pe_callB call_len (by rfl) B.len b_len (pa_cons (pe_ix ix_tup (pv 3) pe_int (fun _ _ => rfl)) pa_nil))) pa_nil)))))) pss_nil)
      (pss_cons (ps_if (PW.pt (pw_and (pt_cmpR op_eq (pv 4) pe_str (nomark _)) (pw_and1 (pt_cmpR op_le (pe_ix ix_tup (pv 3) pe_int (fun _ _ => rfl)) (pv 1) (nomark _))))) (pss_cons (ps_expr (pe_bm F.plainAttrs_list F.slot_list_append F.type_list_append mt_append (pv 2) (pa_cons (pe_tup (pa_cons (pv 0) (pa_cons (pv 1) pa_nil))) pa_nil)))
      (pss_one (ps_ret (pe_tup (pa_cons (pe_op op_add_str (pe_slice sl_str (pv 0) po_none (po_some (pe_op op_subI (pv 1) (pe_ix ix_tup (pv 3) pe_int (fun _ _ => rfl))))) (pe_slice sl_str (pv 0) (po_some (pv 1)) po_none)) (pa_cons (pe_op op_subI (pv 1) (pe_ix ix_tup (pv 3) pe_int (fun _ _ => rfl))) pa_nil)))))) pss_nil)
      (pss_cons (ps_if (PW.pt (pw_and (pt_cmpR op_eq (pv 4) pe_str (nomark _)) (pw_and1 (pt_cmpR op_le (pe_ix ix_tup (pv 3) pe_int (fun _ _ => rfl)) (pe_op op_subI (pe_callB call_len (by rfl) B.len b_len (pa_cons (pv 0) pa_nil)) (pv 1)) (nomark _))))) (pss_cons (ps_expr (pe_bm F.plainAttrs_list F.slot_list_append F.type_list_append mt_append (pv 2) (pa_cons (pe_tup (pa_cons (pv 0) (pa_cons (pv 1) pa_nil))) pa_nil)))
      (pss_one (ps_ret (pe_tup (pa_cons (pe_op op_add_str (pe_slice sl_str (pv 0) po_none (po_some (pv 1))) (pe_slice sl_str (pv 0) (po_some (pe_op op_addI (pv 1) (pe_ix ix_tup (pv 3) pe_int (fun _ _ => rfl)))) po_none)) (pa_cons (pv 1) pa_nil)))))) pss_nil)
      (pss_cons (ps_if (PW.pt (pw_and (pt_cmpR op_eq (pv 4) pe_str (nomark _)) (pw_and (pt_cmpR op_le pe_int (pe_ix ix_tup (pv 3) pe_int (fun _ _ => rfl)) (nomark _)) (pw_and1 (pt_cmpR op_le (pe_ix ix_tup (pv 3) pe_int (fun _ _ => rfl)) (pe_callB call_len (by rfl) B.len b_len (pa_cons (pv 0) pa_nil)) (nomark _)))))) (pss_one (ps_ret (pe_tup (pa_cons (pv 0) (pa_cons (pe_ix ix_tup (pv 3) pe_int (fun _ _ => rfl)) pa_nil))))) pss_nil)
      (pss_cons (ps_if (PW.pt (pw_and (pt_cmpR op_eq (pv 4) pe_str (nomark _)) (pw_and1 (pt_cmpR op_ge (pe_call (ok__law_first T) (hr.mono (by decide)) (by rfl) T.m__law_first T.F__law_first.kp T.b__law_first .nil pass0 (pa_cons (pv 0) (pa_cons (pe_ix ix_tup (pv 3) pe_int (fun _ _ => rfl)) pa_nil))) pe_int (nomark _))))) (pss_one (ps_ret (pe_tup (pa_cons (pv 0) (pa_cons (pe_call (ok__law_first T) (hr.mono (by decide)) (by rfl) T.m__law_first T.F__law_first.kp T.b__law_first .nil pass0 (pa_cons (pv 0) (pa_cons (pe_ix ix_tup (pv 3) pe_int (fun _ _ => rfl)) pa_nil))) pa_nil))))) pss_nil)
      (pss_cons (ps_if (PW.pt (pw_and (pt_cmpR op_eq (pv 4) pe_str (nomark _)) (pw_and1 (pt_cmpR (op_neNil hu) (pv 2) (pe_lst pa_nil) (nomark _))))) (pss_one (ps_ret (pe_bm0 F.plainAttrs_list F.slot_list_pop F.type_list_pop mt_pop (pv 2)))) pss_nil)
      (pss_one (ps_ret pe_non))))))))), ?_⟩
    cases d with
    | put z =>
      have hzl : z.length ≤ 40 := hok
      refine ⟨_, rfl, dr, _, 0, _, rfl, rfl, SqT.of hd, rfl, ?_⟩
      refine ⟨_, rfl, rfl, _, rfl, iteY rfl ?_⟩
      · refine ⟨_, rfl, Or.inl ⟨rfl, _, SqL.of hp⟩, _, rfl, _, rfl, (by simp [sizeLine_eq]), fun r f => ?_⟩
        refine ⟨pl, _, _, rfl, rfl, sn f hp, by rw [List.length_map]; omega, ?_⟩
        have hd1 : (upd (upd H r (.tup [.str (strL t), .int (h : Int)])) pl (.lst (rs.map V.ref ++ [V.ref r]))) dr = some (.tup _) := tup_upd (sn f hp) _ _ (sn f hd)
        refine ⟨_, rfl, _, rfl, _, rfl, _, rfl, by rw [strL_length]; omega, ?_⟩
        rw [cutS_to]
        refine ⟨_, rfl, dr, _, 1, _, rfl, rfl, SqT.of hd1, rfl, _, _, rfl, rfl, by rw [strL_length, strL_length]; omega, ?_⟩
        rw [strL_append]
        refine ⟨_, rfl, _, rfl, _, rfl, _, rfl, by rw [strL_length]; omega, ?_⟩
        rw [cutS_from]
        refine ⟨_, _, rfl, rfl, by rw [strL_length, strL_length, List.length_append]; omega, ?_⟩
        rw [strL_append]
        refine ⟨_, rfl, _, rfl, dr, _, 1, _, rfl, rfl, SqT.of hd1, rfl, _, _, rfl, ⟨by rw [strL_length]; omega, rfl⟩, _, _, rfl, rfl, (by simp [sizeLine_eq]), fun q fq => ?_⟩
        obtain ⟨y1, y2, y3, y4⟩ := nx_push (s' := (t.take h ++ z ++ t.drop h, h + z.length)) (t := t) (h := h) hp hs f fq
        refine k _ _ (rs ++ [r]) y1 y2 ?_
        unfold NX
        simp only [dstep]
        exact ⟨⟨_, rfl, y3⟩, y4⟩
    | rub n =>
      refine ⟨_, rfl, dr, _, 0, _, rfl, rfl, SqT.of hd, rfl, ?_⟩
      refine ⟨_, rfl, rfl, _, rfl, iteN (by decide +kernel) ?_⟩
      refine ⟨_, rfl, rfl, _, rfl, iteY rfl ?_⟩
      refine ⟨_, rfl, dr, _, 1, _, rfl, rfl, SqT.of hd, rfl, _, rfl, _, _, rfl, rfl, _, rfl, ?_⟩
      refine ite2 (fun hc => ?_) (fun hc => ?_)
      · have hle : n ≤ h := by have := of_decide_eq_true hc; omega
        have esub : (h : Int) - (n : Int) = ((h - n : Nat) : Int) := by omega
        refine ⟨_, rfl, Or.inl ⟨rfl, _, SqL.of hp⟩, _, rfl, _, rfl, (by simp [sizeLine_eq]), fun r f => ?_⟩
        refine ⟨pl, _, _, rfl, rfl, sn f hp, by rw [List.length_map]; omega, ?_⟩
        have hd1 : (upd (upd H r (.tup [.str (strL t), .int (h : Int)])) pl (.lst (rs.map V.ref ++ [V.ref r]))) dr = some (.tup _) := tup_upd (sn f hp) _ _ (sn f hd)
        refine ⟨_, rfl, _, rfl, _, rfl, dr, _, 1, _, rfl, rfl, SqT.of hd1, rfl, _, _, rfl, rfl, ?_⟩
        rw [esub]
        refine ⟨_, rfl, _, rfl, by rw [strL_length]; omega, ?_⟩
        rw [cutS_to]
        refine ⟨_, rfl, _, rfl, _, rfl, _, rfl, by rw [strL_length]; omega, ?_⟩
        rw [cutS_from]
        refine ⟨_, _, rfl, rfl, by rw [strL_length, strL_length, List.length_take]; omega, ?_⟩
        rw [strL_append]
        refine ⟨_, rfl, _, rfl, dr, _, 1, _, rfl, rfl, SqT.of hd1, rfl, _, _, rfl, rfl, ?_⟩
        rw [esub]
        refine ⟨(by simp [sizeLine_eq]), fun q fq => ?_⟩
        obtain ⟨y1, y2, y3, y4⟩ := nx_push (s' := (t.take (h - n) ++ t.drop h, h - n)) (t := t) (h := h) hp hs f fq
        refine k _ _ (rs ++ [r]) y1 y2 ?_
        unfold NX
        simp only [dstep]
        rw [if_pos hle]
        exact ⟨⟨_, rfl, y3⟩, y4⟩
      · have hle : ¬ n ≤ h := fun z => hc (decide_eq_true (by omega))
        refine ⟨_, rfl, rfl, _, rfl, iteN (by decide +kernel) (iteF ?_)⟩
        refine ⟨_, rfl, rfl, _, rfl, iteN (by decide +kernel) (iteF ?_)⟩
        refine ⟨_, rfl, rfl, _, rfl, iteN (by decide +kernel) (iteF ?_)⟩
        refine ⟨_, rfl, rfl, _, rfl, iteN (by decide +kernel) (iteF ?_)⟩
        refine k .non _ rs (But.refl _ _ _) hp ?_
        unfold NX
        simp only [dstep]
        rw [if_neg hle]
        first | exact ⟨rfl, hs⟩ | exact ⟨trivial, hs⟩
    | clear n =>
      refine ⟨_, rfl, dr, _, 0, _, rfl, rfl, SqT.of hd, rfl, ?_⟩
      refine ⟨_, rfl, rfl, _, rfl, iteN (by decide +kernel) ?_⟩
      refine ⟨_, rfl, rfl, _, rfl, iteN (by decide +kernel) (iteF ?_)⟩
      refine ⟨_, rfl, rfl, _, rfl, iteY rfl ?_⟩
      refine ⟨_, rfl, dr, _, 1, _, rfl, rfl, SqT.of hd, rfl, _, rfl, _, _, rfl, ⟨by rw [strL_length]; omega, rfl⟩, _, rfl, _, _, rfl, rfl, _, _, rfl, rfl, _, rfl, ?_⟩
      rw [strL_length]
      refine ite2 (fun hc => ?_) (fun hc => ?_)
      · have hle : n ≤ t.length - h := by have := of_decide_eq_true hc; omega
        have esum : (h : Int) + (n : Int) = ((h + n : Nat) : Int) := by omega
        refine ⟨_, rfl, Or.inl ⟨rfl, _, SqL.of hp⟩, _, rfl, _, rfl, (by simp [sizeLine_eq]), fun r f => ?_⟩
        refine ⟨pl, _, _, rfl, rfl, sn f hp, by rw [List.length_map]; omega, ?_⟩
        have hd1 : (upd (upd H r (.tup [.str (strL t), .int (h : Int)])) pl (.lst (rs.map V.ref ++ [V.ref r]))) dr = some (.tup _) := tup_upd (sn f hp) _ _ (sn f hd)
        refine ⟨_, rfl, _, rfl, _, rfl, _, rfl, by rw [strL_length]; omega, ?_⟩
        rw [cutS_to]
        refine ⟨_, rfl, _, rfl, _, rfl, dr, _, 1, _, rfl, rfl, SqT.of hd1, rfl, _, _, rfl, rfl, ?_⟩
        rw [esum]
        refine ⟨_, rfl, _, rfl, by rw [strL_length]; omega, ?_⟩
        rw [cutS_from]
        refine ⟨_, _, rfl, rfl, by rw [strL_length, strL_length, List.length_drop]; omega, ?_⟩
        rw [strL_append]
        refine ⟨_, rfl, (by simp [sizeLine_eq]), fun q fq => ?_⟩
        obtain ⟨y1, y2, y3, y4⟩ := nx_push (s' := (t.take h ++ t.drop (h + n), h)) (t := t) (h := h) hp hs f fq
        refine k _ _ (rs ++ [r]) y1 y2 ?_
        unfold NX
        simp only [dstep]
        rw [if_pos hle]
        exact ⟨⟨_, rfl, y3⟩, y4⟩
      · have hle : ¬ n ≤ t.length - h := fun z => hc (decide_eq_true (by omega))
        refine ⟨_, rfl, rfl, _, rfl, iteN (by decide +kernel) (iteF ?_)⟩
        refine ⟨_, rfl, rfl, _, rfl, iteN (by decide +kernel) (iteF ?_)⟩
        refine ⟨_, rfl, rfl, _, rfl, iteN (by decide +kernel) (iteF ?_)⟩
        refine k .non _ rs (But.refl _ _ _) hp ?_
        unfold NX
        simp only [dstep]
        rw [if_neg hle]
        first | exact ⟨rfl, hs⟩ | exact ⟨trivial, hs⟩
    | go p0 =>
      refine ⟨_, rfl, dr, _, 0, _, rfl, rfl, SqT.of hd, rfl, ?_⟩
      refine ⟨_, rfl, rfl, _, rfl, iteN (by decide +kernel) ?_⟩
      refine ⟨_, rfl, rfl, _, rfl, iteN (by decide +kernel) (iteF ?_)⟩
      refine ⟨_, rfl, rfl, _, rfl, iteN (by decide +kernel) (iteF ?_)⟩
      refine ⟨_, rfl, rfl, _, rfl, iteY rfl ?_⟩
      refine ⟨_, rfl, dr, _, 1, _, rfl, rfl, SqT.of hd, rfl, _, _, rfl, rfl, _, rfl, ?_⟩
      refine ite2 (fun hc => ?_) (fun hc => ?_)
      · have h0 := of_decide_eq_true hc
        refine ⟨_, rfl, dr, _, 1, _, rfl, rfl, SqT.of hd, rfl, _, rfl, _, _, rfl, ⟨by rw [strL_length]; omega, rfl⟩, _, _, rfl, rfl, _, rfl, ?_⟩
        rw [strL_length]
        refine ite2 (fun hc => ?_) (fun hc => ?_)
        · have h1 := of_decide_eq_true hc
          refine ⟨_, rfl, _, rfl, dr, _, 1, _, rfl, rfl, SqT.of hd, rfl, (by simp [sizeLine_eq]), fun q fq => ?_⟩
          refine k _ _ rs (But.of (Same.new fq)) (sn fq hp) ?_
          unfold NX
          simp only [dstep]
          rw [if_pos ⟨h0, h1⟩]
          refine ⟨⟨_, rfl, ?_⟩, sts_mono (Same.tups (Same.new fq)) hs⟩
          show _ = _
          rw [upd_same, Int.toNat_of_nonneg h0]
        · have h1 : ¬ p0 ≤ (t.length : Int) := fun z => hc (decide_eq_true z)
          refine ⟨_, rfl, rfl, _, rfl, iteN (by decide +kernel) (iteF ?_)⟩
          refine ⟨_, rfl, rfl, _, rfl, iteN (by decide +kernel) (iteF ?_)⟩
          refine k .non _ rs (But.refl _ _ _) hp ?_
          unfold NX
          simp only [dstep]
          rw [if_neg (fun z => h1 z.2)]
          first | exact ⟨rfl, hs⟩ | exact ⟨trivial, hs⟩
      · have h0 : ¬ 0 ≤ p0 := fun z => hc (decide_eq_true z)
        refine iteF ?_
        refine ⟨_, rfl, rfl, _, rfl, iteN (by decide +kernel) (iteF ?_)⟩
        refine ⟨_, rfl, rfl, _, rfl, iteN (by decide +kernel) (iteF ?_)⟩
        refine k .non _ rs (But.refl _ _ _) hp ?_
        unfold NX
        simp only [dstep]
        rw [if_neg (fun z => h0 z.1)]
        first | exact ⟨rfl, hs⟩ | exact ⟨trivial, hs⟩
    | row r0 =>
      refine ⟨_, rfl, dr, _, 0, _, rfl, rfl, SqT.of hd, rfl, ?_⟩
      refine ⟨_, rfl, rfl, _, rfl, iteN (by decide +kernel) ?_⟩
      refine ⟨_, rfl, rfl, _, rfl, iteN (by decide +kernel) (iteF ?_)⟩
      refine ⟨_, rfl, rfl, _, rfl, iteN (by decide +kernel) (iteF ?_)⟩
      refine ⟨_, rfl, rfl, _, rfl, iteN (by decide +kernel) (iteF ?_)⟩
      refine ⟨_, rfl, rfl, _, rfl, iteY rfl ?_⟩
      refine ⟨_, rfl, _, rfl, dr, _, 1, _, rfl, rfl, SqT.of hd, rfl, t, r0, rfl, _, _, rfl, rfl, _, rfl, ?_⟩
      refine ite2 (fun hc => ?_) (fun hc => ?_)
      · have h0 := (fstD_nn t r0).mp (of_decide_eq_true hc)
        have ef : fstD t r0 = ((wsum ((splitL 47 t).take r0.toNat) : Nat) : Int) := by unfold fstD; rw [if_pos h0]
        refine ⟨_, rfl, _, rfl, _, rfl, dr, _, 1, _, rfl, rfl, SqT.of hd, rfl, t, r0, rfl, (by simp [sizeLine_eq]), fun q fq => ?_⟩
        refine k _ _ rs (But.of (Same.new fq)) (sn fq hp) ?_
        unfold NX
        simp only [dstep]
        rw [if_pos h0]
        refine ⟨⟨_, rfl, ?_⟩, sts_mono (Same.tups (Same.new fq)) hs⟩
        show _ = _
        rw [upd_same, ef]
      · have h0 : ¬ (0 ≤ r0 ∧ r0 < ((splitL 47 t).length : Int)) := fun z => hc (decide_eq_true ((fstD_nn t r0).mpr z))
        refine ⟨_, rfl, rfl, _, rfl, iteN (by decide +kernel) (iteF ?_)⟩
        refine k .non _ rs (But.refl _ _ _) hp ?_
        unfold NX
        simp only [dstep]
        rw [if_neg h0]
        first | exact ⟨rfl, hs⟩ | exact ⟨trivial, hs⟩
    | undo =>
      refine ⟨_, rfl, dr, _, 0, _, rfl, rfl, SqT.of hd, rfl, ?_⟩
      refine ⟨_, rfl, rfl, _, rfl, iteN (by decide +kernel) ?_⟩
      refine ⟨_, rfl, rfl, _, rfl, iteN (by decide +kernel) (iteF ?_)⟩
      refine ⟨_, rfl, rfl, _, rfl, iteN (by decide +kernel) (iteF ?_)⟩
      refine ⟨_, rfl, rfl, _, rfl, iteN (by decide +kernel) (iteF ?_)⟩
      refine ⟨_, rfl, rfl, _, rfl, iteN (by decide +kernel) (iteF ?_)⟩
      refine ⟨_, rfl, rfl, _, rfl, iteY rfl ?_⟩
      refine ⟨_, rfl, (by simp), fun p0 f0 => ?_⟩
      refine ⟨pl, p0, _, rfl, rfl, SqL.of (sn f0 hp), SqL.of upd_same, _, rfl, ?_⟩
      cases hl : past.getLast? with
      | none =>
        have hpe : past = [] := List.getLast?_eq_none_iff.mp hl
        have hr0 : rs = [] := List.eq_nil_of_length_eq_zero (by rw [lrs, hpe]; rfl)
        subst hr0
        refine iteF ?_
        refine k .non _ [] (But.of (Same.new f0)) (sn f0 hp) ?_
        unfold NX
        simp only [dstep]
        rw [hl]
        first | exact ⟨rfl, sts_mono (Same.tups (Same.new f0)) hs⟩ | exact ⟨trivial, sts_mono (Same.tups (Same.new f0)) hs⟩
      | some st =>
        obtain ⟨r, hr1, hr2⟩ := paired_last hs hl
        have hlen : 0 < rs.length := by have := (List.getElem?_eq_some_iff.mp hr1).1; omega
        have hne : (rs.map V.ref).isEmpty = false := by
          cases rs with
          | nil => exact absurd hlen (by decide)
          | cons _ _ => rfl
        rw [hne]
        refine iteT ?_
        refine ⟨_, rfl, Or.inl ⟨rfl, _, SqL.of (sn f0 hp)⟩, pl, _, .ref r, rfl, rfl, sn f0 hp, (by rw [List.length_map, List.getElem?_map, hr1]; rfl), ?_⟩
        have tk : TupSame H (upd (upd H p0 (.lst [])) pl (.lst (rs.map V.ref).dropLast)) := fun b xs e => tup_upd (sn f0 hp) _ _ (sn f0 e)
        refine k _ _ rs.dropLast ((But.of (Same.new f0)).trans But.updP) (by rw [upd_same, List.map_dropLast]) ?_
        unfold NX
        simp only [dstep]
        rw [hl]
        exact ⟨⟨_, rfl, hr2.mono tk⟩, sts_mono tk (paired_dropLast hs)⟩
theorem sc_law : FnScope ["_law_script", "_law_asked", "_law_now", "_law_past", "_law_deed", "_law_later", "_law_longer", "_law_found", "_law_told", "_law_due", "_law_k", "_law_pair", "_law_good"] ["_law_script"] (defScope s_law) := ⟨rfl, rfl, rfl, by decide +kernel, rfl, by decide +kernel, by decide +kernel⟩
def sp_law (K : PySem.W.Frag) : Sp := fun vs H Q _ => ∃ (a : Addr) (ns : List Int), vs = [.ref a] ∧ SqL K H a (ns.map V.int) ∧ ns.length ≤ 63 ∧ ∀ H', Q (.bl true) H'
theorem ok_law (T : Txt K mg A) : FnOk P w K mg base CX0 7 A.f_law A.fd_law ["_law_script"] (sp_law K) := by
  have B := T.B
  refine T.F_law.ok sc_law (fun vs H Q E h => ?_) (fun cdv A' outer s H vs Q E hr h => ?_)
  · obtain ⟨a, ns, rfl, _⟩ := h
    rfl
  · have hu := hr.units0
    obtain ⟨a, ns, rfl, hS, hl, k⟩ := h
    have hsl := sizeLine_eq
    refine ⟨_, (pss_cons (ps_set (i := 1) sc_law.nd rfl (Or.inl rfl) (pe_call (ok__law_deeds T) (hr.mono (by decide)) (by rfl) T.m__law_deeds T.F__law_deeds.kp T.b__law_deeds .nil pass0 (pa_cons (pe_slice sl_list (pv 0) po_none (po_some pe_int)) pa_nil)))
      (pss_cons (ps_set (i := 2) sc_law.nd rfl (Or.inl rfl) (pe_tup (pa_cons pe_str (pa_cons pe_int pa_nil))))
      (pss_cons (ps_set (i := 3) sc_law.nd rfl (Or.inl rfl) (pe_lst pa_nil))
      (pss_cons (ps_for PassesOwn.never rfl (pi_list (pv 1)) (pg_name (i := 4) sc_law.nd rfl (Or.inl rfl)) (pss_cons (ps_set (i := 5) sc_law.nd rfl (Or.inl rfl) (pe_call (ok__law_next T) (hr.mono (by decide)) (by rfl) T.m__law_next T.F__law_next.kp T.b__law_next .nil pass0 (pa_cons (pe_ix ix_tup (pv 2) pe_int (fun _ _ => rfl)) (pa_cons (pe_ix ix_tup (pv 2) pe_int (fun _ _ => rfl)) (pa_cons (pv 3) (pa_cons (pv 4) pa_nil))))))
      (pss_one (ps_if (pt_cmp (pc_notN (pv 5))) (pss_one (ps_set (i := 2) sc_law.nd rfl (Or.inl rfl) (pv 5))) pss_nil))))
      (pss_cons (ps_set (i := 6) sc_law.nd rfl (Or.inl rfl) (pe_op op_cat (pv 1) (pe_op op_rep (pe_lst (pa_cons (pe_tup (pa_cons pe_str pa_nil)) pa_nil)) (pe_op op_addI (pe_callB call_len (by rfl) B.len b_len (pa_cons (pv 3) pa_nil)) pe_int))))
      (pss_cons (ps_set (i := 7) sc_law.nd rfl (Or.inl rfl) (pe_call (ok_states T) (hr.mono (by decide)) (by rfl) T.m_states T.F_states.kp T.b_states .nil pass0 (pa_cons (pe_callTy call_list_of (by rfl) B.list b_list (pa_cons (pv 6) pa_nil)) pa_nil)))
      (pss_cons (ps_set (i := 8) sc_law.nd rfl (Or.inl rfl) (pe_call (ok_answers T) (hr.mono (by decide)) (by rfl) T.m_answers T.F_answers.kp T.b_answers .nil pass0 (pa_cons (pe_callTy call_list_of (by rfl) B.list b_list (pa_cons (pv 6) pa_nil)) pa_nil)))
      (pss_cons (ps_if (PW.pt (pw_or (pt_not (pt_val (pe_callB (call_isi (T := "list")) (by rfl) B.isi b_isinstance (pa_cons (pv 7) (pa_cons (pe_bltn (v := .ty "list") (by rfl) B.list b_list rfl) pa_nil))))) (pw_or1 (pt_cmpR op_ne (pe_callB call_len (by rfl) B.len b_len (pa_cons (pv 7) pa_nil)) (pe_callB call_len (by rfl) B.len b_len (pa_cons (pv 6) pa_nil)) (nomark _))))) (pss_one (ps_ret pe_bl)) pss_nil)
      (pss_cons (ps_if (PW.pt (pw_or (pt_not (pt_val (pe_callB (call_isi (T := "list")) (by rfl) B.isi b_isinstance (pa_cons (pv 8) (pa_cons (pe_bltn (v := .ty "list") (by rfl) B.list b_list rfl) pa_nil))))) (pw_or1 (pt_cmpR op_ne (pe_callB call_len (by rfl) B.len b_len (pa_cons (pv 8) pa_nil)) (pe_callB call_len (by rfl) B.len b_len (pa_cons (pv 6) pa_nil)) (nomark _))))) (pss_one (ps_ret pe_bl)) pss_nil)
      (pss_cons (ps_set (i := 9) sc_law.nd rfl (Or.inl rfl) (pe_listRev rfl (pv 3) (by rfl) B.list (by rfl) B.reversed b_list b_reversed))
      (pss_cons (ps_for PassesOwn.never rfl (pi_range1 (by rfl) B.range (pa_cons (pe_callB call_len (by rfl) B.len b_len (pa_cons (pv 9) pa_nil)) pa_nil)) (pg_name (i := 10) sc_law.nd rfl (Or.inl rfl)) (pss_cons (ps_set (i := 11) sc_law.nd rfl (Or.inl rfl) (pe_ix ix_list (pv 7) (pe_op op_addI (pe_callB call_len (by rfl) B.len b_len (pa_cons (pv 1) pa_nil)) (pv 10)) (fun _ _ => rfl)))
      (pss_cons (ps_if (PW.pt (pw_or (pt_not (pt_val (pe_callB (call_isi (T := "tuple")) (by rfl) B.isi b_isinstance (pa_cons (pv 11) (pa_cons (pe_bltn (v := .ty "tuple") (by rfl) B.tuple b_tuple rfl) pa_nil))))) (pw_or (pt_cmpR op_ne (pe_callB call_len (by rfl) B.len b_len (pa_cons (pv 11) pa_nil)) pe_int (nomark _)) (pw_or1 (pt_not (pt_val (pe_call (ok__law_whole T) (hr.mono (by decide)) (by rfl) T.m__law_whole T.F__law_whole.kp T.b__law_whole .nil pass0 (pa_cons (pe_ix ix_tup (pv 11) pe_int (fun _ _ => rfl)) pa_nil)))))))) (pss_one (ps_ret pe_bl)) pss_nil)
      (pss_cons (ps_if (PW.pt (pw_or (pt_not (pt_val (pe_callB (call_isi (T := "str")) (by rfl) B.isi b_isinstance (pa_cons (pe_ix ix_tup (pv 11) pe_int (fun _ _ => rfl)) (pa_cons (pe_bltn (v := .ty "str") (by rfl) B.str b_str rfl) pa_nil))))) (pw_or1 (pt_cmpR (op_neT hu) (pv 11) (pe_ix ix_list (pv 9) (pv 10) (fun _ _ => rfl)) (nomark _))))) (pss_one (ps_ret pe_bl)) pss_nil)
      (pss_cons (ps_set (i := 12) sc_law.nd rfl (Or.inl rfl) (pe_ix ix_list (pv 8) (pe_op op_addI (pe_callB call_len (by rfl) B.len b_len (pa_cons (pv 1) pa_nil)) (pv 10)) (fun _ _ => rfl)))
      (pss_one (ps_if (PW.pt (pw_or (pt_not (pt_val (pe_callB (call_isi (T := "bool")) (by rfl) B.isi b_isinstance (pa_cons (pv 12) (pa_cons (pe_bltn (v := .ty "bool") (by rfl) B.bool b_bool rfl) pa_nil))))) (pw_or1 (pt_not (pt_val (pv 12)))))) (pss_one (ps_ret pe_bl)) pss_nil)))))))
      (pss_one (ps_ret (pe_and (pe_callB (call_isi (T := "bool")) (by rfl) B.isi b_isinstance (pa_cons (pe_ix ix_list (pv 8) (pe_un un_negI pe_int) (fun _ _ => rfl)) (pa_cons (pe_bltn (v := .ty "bool") (by rfl) B.bool b_bool rfl) pa_nil))) (pe_one (pe_not (pe_ix ix_list (pv 8) (pe_un un_negI pe_int) (fun _ _ => rfl)))))))))))))))))), ?_⟩
    refine ⟨_, rfl, _, rfl, a, _, rfl, hS, fun p0 f0 => ?_⟩
    have e0 : cutV (ns.map V.int) none (some (200 : Int)) = (ns.take 200).map V.int := (cutV_to _ 200).trans List.map_take.symm
    have l0 : (ns.take 200).length = ns.length := by rw [List.length_take]; omega
    refine ⟨p0, ns.take 200, rfl, SqL.of (by rw [upd_same, e0]), by omega, fun pa H1 rs ds s1 na1 eA1 gD1 hok hlen => ?_⟩
    rw [l0] at hlen
    have lrs := gD1.length
    have lmap : (rs.map V.ref).length = rs.length := List.length_map _
    refine ⟨(by simp [sizeLine_eq]), fun pn0 fn => ?_⟩
    refine ⟨(by simp), fun pp fpp => ?_⟩
    have snn := Same.new (o := .tup [.str "", .int 0]) fn
    obtain ⟨H5, hH5⟩ : ∃ H5, H5 = upd H1 pn0 (.tup [.str "", .int 0]) := ⟨_, rfl⟩
    rw [← hH5] at snn
    have st0 : H5 pn0 = some (.tup [.str "", .int 0]) := by rw [hH5]; exact upd_same
    have npp : H5 pp = none := by rw [hH5]; exact fpp
    rw [← hH5]
    have eA := snn _ _ eA1
    have gD := dds_mono (Same.tups snn) gD1
    have sp := Same.new (o := .lst []) npp
    refine ⟨_, rfl, pa, rfl, ⟨_, SqL.of (sp _ _ eA)⟩, for_list (K := K) (a := pa) (xs := rs.map V.ref) (fun i σ H6 => ∃ (pn : Addr) (rs6 : List Addr) (v4 v5 : Option V), σ = [some (.ref a), some (.ref pa), some (.ref pn), some (.ref pp), v4, v5, none, none, none, none, none, none, none] ∧ Same H5 H6 ∧ StAt H6 pn (view (En ds i)) ∧ H6 pp = some (.lst (rs6.map V.ref)) ∧ Sts H6 rs6 (En ds i).past) ⟨pn0, [], none, none, rfl, sp, ?_, upd_same, ?_⟩ ?_ ?_ ?_⟩
    · rw [En_zero]; exact sp _ _ st0
    · rw [En_zero]; exact .nil
    · rintro i σ H6 hi ⟨pn, rs6, v4, v5, rfl, s6, st6, pp6, ss6⟩
      exact SqL.of (s6 _ _ eA)
    · rintro i vv σ H6 hvv ⟨pn, rs6, v4, v5, rfl, s6, st6, pp6, ss6⟩
      have hi : i < rs.length := by have := (List.getElem?_eq_some_iff.mp hvv).1; rw [List.length_map] at this; exact this
      obtain ⟨r, hr1⟩ : ∃ r, rs[i]? = some r := ⟨_, List.getElem?_eq_getElem hi⟩
      have hv : (rs.map V.ref)[i]? = some (V.ref r) := by rw [List.getElem?_map, hr1]; rfl
      rw [hv] at hvv
      cases hvv
      obtain ⟨dd, hdd, hat5⟩ := paired_get' gD hr1
      have hat6 : DeedAt H6 r dd := hat5.mono (Same.tups s6)
      have hokd := hok dd (List.mem_of_getElem? hdd)
      have hft := En_fits hok i
      have hfs := hft.hand
      have hft2 := hft.text
      have hft3 := hft.many
      refine ⟨_, rfl, pn, _, 0, _, rfl, rfl, SqT.of st6, rfl, _, rfl, pn, _, 1, _, rfl, rfl, SqT.of st6, rfl, _, rfl, _, rfl, (En ds i).t, (En ds i).h, pp, r, rs6, (En ds i).past, dd, rfl, pp6, ss6, hat6, hokd, hfs, by omega, by omega, fun v H7 rs7 k7 e7 x7 => ?_⟩
      have s7 : Same H5 H7 := Same.of_but npp ((But.of s6).trans k7)
      have hEn := En_succ hdd
      cases hd7 : dstep (En ds i).t (En ds i).h (En ds i).past dd with
      | none =>
        have hnx := nx_none hd7
        unfold NX at x7
        rw [hd7] at x7
        obtain ⟨rfl, ss7⟩ := x7
        have tk7 : TupSame H6 H7 := fun b xs e => k7 b _ e (ne_of e pp6 (by intro z; cases z)) (ne_of e pp6 (by intro z; cases z))
        have hEn2 : En ds (i + 1) = En ds i := by rw [hEn, hnx]
        have st8 : StAt H7 pn (view (En ds (i + 1))) := by rw [hEn2]; exact st6.mono tk7
        have ss8 : Sts H7 rs7 (En ds (i + 1)).past := by rw [hEn2]; exact ss7
        refine ⟨_, rfl, _, rfl, iteNS rfl ?_⟩
        exact ⟨pn, rs7, _, _, rfl, s7, st8, e7, ss8⟩
      | some res =>
        obtain ⟨s', past'⟩ := res
        have hnx := nx_some hd7
        unfold NX at x7
        rw [hd7] at x7
        obtain ⟨⟨r7, rfl, st7⟩, ss7⟩ := x7
        have hEn2 : view (En ds (i + 1)) = s' := by rw [hEn, hnx]; rfl
        have hEn3 : (En ds (i + 1)).past = past' := by rw [hEn, hnx]
        have st8 : StAt H7 r7 (view (En ds (i + 1))) := by rw [hEn2]; exact st7
        have ss8 : Sts H7 rs7 (En ds (i + 1)).past := by rw [hEn3]; exact ss7
        refine ⟨_, rfl, _, rfl, iteNY (fun z => nomatch z) ?_⟩
        refine ⟨_, rfl, ?_⟩
        exact ⟨r7, rs7, _, _, rfl, s7, st8, e7, ss8⟩
    · rintro σ H6 ⟨pn, rs6, v4, v5, rfl, s6, st6, pp6, ss6⟩
      rw [lmap, lrs] at ss6
      have l6 := ss6.length
      have lm6 : (rs6.map V.ref).length = rs6.length := List.length_map _
      have hpast := past_le ds ds.length
      have hU := undone (ds := ds) rfl
      have lX : (ds ++ List.replicate ((En ds ds.length).past.length + 1) Deed.undo).length = ds.length + ((En ds ds.length).past.length + 1) := by rw [List.length_append, List.length_replicate]
      have hokX := ok_undo ((En ds ds.length).past.length + 1) hok
      generalize (En ds ds.length).past = P at ss6 l6 hpast hU lX hokX
      have hk : (((rs6.map V.ref).length : Nat) : Int) + 1 = ((P.length + 1 : Nat) : Int) := by rw [lm6, l6]; omega
      refine ⟨_, rfl, (by simp [sizeLine_eq]), fun ru fu => ?_⟩
      refine ⟨(by simp [sizeLine_eq]), fun p1 f1 => ?_⟩
      refine ⟨_, rfl, _, _, rfl, Or.inl ⟨_, SqL.of (sn f1 (sn fu pp6)), rfl⟩, _, _, rfl, rfl, ?_⟩
      rw [hk]
      refine ⟨p1, _, _, rfl, rfl, upd_same, by omega, by omega, by rw [List.length_singleton, Int.toNat_natCast]; omega, fun p2 f2 => ?_⟩
      rw [Int.toNat_natCast, rep_ref]
      refine ⟨pa, p2, _, _, rfl, rfl, sn f2 (sn f1 (sn fu (s6 _ _ eA))), upd_same, by simp only [List.length_map, List.length_replicate]; omega, fun pL fL => ?_⟩
      rw [← List.map_append]
      have sM := ((Same.new f1).trans (Same.new f2)).trans (Same.new (o := .lst ((rs ++ List.replicate (P.length + 1) ru).map V.ref)) fL)
      have sN := (Same.new fu).trans sM
      have hu1 : DeedAt (upd H6 ru (.tup [.str "undo"])) ru .undo := upd_same
      have gX := dds_undo (P.length + 1) (dds_mono (Same.tups (s6.trans sN)) gD) (hu1.mono (Same.tups sM))
      have lrX : ((rs ++ List.replicate (P.length + 1) ru).map V.ref).length = ds.length + (P.length + 1) := by rw [List.length_map, List.length_append, List.length_replicate, lrs]
      generalize ds ++ List.replicate (P.length + 1) Deed.undo = dX at hU lX hokX gX
      obtain ⟨c1, c2⟩ := hU
      refine ⟨_, rfl, pL, _, rfl, Or.inl (SqL.of upd_same), fun ph fh => ⟨ph, _, dX, rfl, SqL.of upd_same, dds_mono (Same.tups (Same.new fh)) gX, hokX, by omega, fun pf H7 ps s7 nf7 eF7 gF7 => ?_⟩⟩
      have sF := (Same.new fh).trans s7
      refine ⟨_, rfl, pL, _, rfl, Or.inl (SqL.of (sF _ _ upd_same)), fun pg fg => ⟨pg, _, dX, rfl, SqL.of upd_same, dds_mono (Same.tups (sF.trans (Same.new fg))) gX, hokX, by omega, fun pt H8 s8 nt8 eT8 => ?_⟩⟩
      have sG := (Same.new fg).trans s8
      have sX := sF.trans sG
      have eL8 := sX pL _ upd_same
      have eF8 := sG _ _ eF7
      have gF8 := sts_mono (Same.tups sG) gF7
      have eP8 := sX _ _ (sN _ _ pp6)
      have sP8 : Sts H8 rs6 P := sts_mono (Same.tups (sN.trans sX)) ss6
      have eA8 := sX _ _ (sN _ _ (s6 _ _ eA))
      have lps := gF8.length
      rw [stsL_length] at lps
      have lps2 : (ps.map V.ref).length = ds.length + (P.length + 1) := by rw [List.length_map, lps, lX]
      have lT : ((ansL dX dX.length).map V.bl).length = ds.length + (P.length + 1) := by rw [List.length_map, ansL_length, lX]
      refine ⟨_, rfl, _, _, _, rfl, TyOf.lst eF8, Isi.same _, _, rfl, iteF ?_⟩
      refine ⟨_, rfl, _, _, rfl, Or.inl ⟨_, SqL.of eF8, rfl⟩, _, rfl, _, _, rfl, Or.inl ⟨_, SqL.of eL8, rfl⟩, rfl, _, rfl, iteNS (by rw [lps2, lrX]) ?_⟩
      refine ⟨_, rfl, _, _, _, rfl, TyOf.lst eT8, Isi.same _, _, rfl, iteF ?_⟩
      refine ⟨_, rfl, _, _, rfl, Or.inl ⟨_, SqL.of eT8, rfl⟩, _, rfl, _, _, rfl, Or.inl ⟨_, SqL.of eL8, rfl⟩, rfl, _, rfl, iteNS (by rw [lT, lrX]) ?_⟩
      refine ⟨_, rfl, pp, _, rfl, SqL.of eP8, fun pd fd => ?_⟩
      rw [← List.map_reverse]
      have lrr : (rs6.reverse.map V.ref).length = P.length := by rw [List.length_map, List.length_reverse, l6]
      have sD := Same.new (o := .lst (rs6.reverse.map V.ref)) fd
      have eD9 : (upd H8 pd (.lst (rs6.reverse.map V.ref))) pd = some (.lst (rs6.reverse.map V.ref)) := upd_same
      have gR := paired_rev (sts_mono (Same.tups sD) sP8)
      have eF9 := sD _ _ eF8
      have gF9 := sts_mono (Same.tups sD) gF8
      have eT9 := sD _ _ eT8
      have eA9 := sD _ _ eA8
      generalize upd H8 pd (.lst (rs6.reverse.map V.ref)) = H9 at eD9 gR eF9 gF9 eT9 eA9 ⊢
      refine ⟨_, rfl, _, _, rfl, Or.inl ⟨_, SqL.of eD9, rfl⟩, _, rfl, by omega, by omega, for_range (fun i σ H' => ∃ (v10 v11 v12 : Option V), σ = [some (.ref a), some (.ref pa), some (.ref pn), some (.ref pp), v4, v5, some (.ref pL), some (.ref pf), some (.ref pt), some (.ref pd), v10, v11, v12] ∧ H9 = H') ⟨none, none, none, rfl, rfl⟩ ?_ ?_⟩
      · rintro i σ H' hi ⟨v10, v11, v12, rfl, rfl⟩
        have hj : i < P.reverse.length := by rw [List.length_reverse]; omega
        obtain ⟨sd, hsd⟩ : ∃ sd, P.reverse[i]? = some sd := ⟨_, List.getElem?_eq_getElem hj⟩
        obtain ⟨c3, c4⟩ := c1 i sd hsd
        obtain ⟨rd, hrd, stD⟩ := paired_get gR hsd
        obtain ⟨rf, hrf, stF⟩ := paired_get gF9 c3
        have hatD : atI (rs6.reverse.map V.ref) (0 + (i : Int)) = some (.ref rd) := by rw [Int.zero_add]; exact atI_at (by rw [List.getElem?_map, hrd]; rfl)
        have eix : (((rs.map V.ref).length : Nat) : Int) + (0 + (i : Int)) = ((ds.length + i : Nat) : Int) := by rw [lmap, lrs]; omega
        have hatF : atI (ps.map V.ref) ((((rs.map V.ref).length : Nat) : Int) + (0 + (i : Int))) = some (.ref rf) := by rw [eix]; exact atI_at (by rw [List.getElem?_map, hrf]; rfl)
        have hatT : atI ((ansL dX dX.length).map V.bl) ((((rs.map V.ref).length : Nat) : Int) + (0 + (i : Int))) = some (.bl true) := by rw [eix]; exact atI_at (by rw [List.getElem?_map, c4]; rfl)
        refine ⟨_, rfl, _, rfl, _, _, rfl, Or.inl ⟨_, SqL.of eA9, rfl⟩, _, rfl, _, _, rfl, rfl, pf, _, _, .ref rf, rfl, rfl, SqL.of eF9, hatF, ?_⟩
        refine ⟨_, rfl, _, _, _, rfl, TyOf.tup stF, Isi.same _, _, rfl, iteF ?_⟩
        refine ⟨_, rfl, _, _, rfl, Or.inr ⟨_, SqT.of stF, rfl⟩, rfl, _, rfl, iteNS rfl ?_⟩
        refine ⟨_, rfl, rf, _, 1, _, rfl, rfl, SqT.of stF, rfl, _, rfl, _, rfl, iteF ?_⟩
        refine ⟨_, rfl, rf, _, 0, _, rfl, rfl, SqT.of stF, rfl, _, _, _, rfl, TyOf.str _, Isi.same _, _, rfl, iteF ?_⟩
        refine ⟨_, rfl, _, rfl, _, rfl, pd, _, _, .ref rd, rfl, rfl, SqL.of eD9, hatD, rf, rd, _, _, rfl, rfl, SqT.of stF, SqT.of stD, rfl, rfl, _, rfl, iteNS rfl ?_⟩
        refine ⟨_, rfl, _, rfl, _, _, rfl, Or.inl ⟨_, SqL.of eA9, rfl⟩, _, rfl, _, _, rfl, rfl, pt, _, _, .bl true, rfl, rfl, SqL.of eT9, hatT, ?_⟩
        refine ⟨_, rfl, _, _, _, rfl, TyOf.bl _, Isi.same _, _, rfl, iteF ?_⟩
        refine ⟨_, rfl, _, rfl, iteF ?_⟩
        exact ⟨_, _, _, rfl, rfl⟩
      · rintro σ H' ⟨v10, v11, v12, rfl, rfl⟩
        have hatL : atI ((ansL dX dX.length).map V.bl) (-1) = some (.bl false) := atI_end (n := ds.length + P.length) (by rw [lT]; omega) (by rw [List.getElem?_map, c2]; rfl)
        refine ⟨_, rfl, _, rfl, pt, _, _, .bl false, rfl, rfl, SqL.of eT9, hatL, _, _, _, rfl, TyOf.bl _, Isi.same _, _, rfl, iteT ?_⟩
        exact ⟨_, rfl, _, rfl, pt, _, _, .bl false, rfl, rfl, SqL.of eT9, hatL, _, rfl, k _⟩
end
theorem all_mk {l : PySem.W.OpenLaw} {w : World} {K : PySem.W.Frag} {h : Heap} {mg : Str → Option Value} {fa f_signs_ahead f_signs_behind f_laid f_size_for f_text_of f_moved f_put_all f_less_ahead f_less_behind f_rows_of f_first_of f_rubbed f_cleared f_gone f_gone_to_row f_bench_after f_state_of f___init__ f_does f_undoes f_answers f_states f__law_whole f__law_signed f__law_deeds f__law_first f__law_next f_law C : Addr} (X : K.In h) (G : h.Ns mainGlobals mg) (hfa : mg "law" = some (.ref fa))
    {od_signs_ahead an_signs_ahead od_signs_behind an_signs_behind od_laid an_laid od_size_for an_size_for od_text_of an_text_of od_moved an_moved od_put_all an_put_all od_less_ahead an_less_ahead od_less_behind an_less_behind od_rows_of an_rows_of od_first_of an_first_of od_rubbed an_rubbed od_cleared an_cleared od_gone an_gone od_gone_to_row an_gone_to_row od_bench_after an_bench_after od_state_of an_state_of od___init__ an___init__ od_does an_does od_undoes an_undoes od_answers an_answers od_states an_states od__law_whole an__law_whole od__law_signed an__law_signed od__law_deeds an__law_deeds od__law_first an__law_first od__law_next an__law_next od_law an_law : Option Addr} {sl_signs_ahead sl_signs_behind sl_laid sl_size_for sl_text_of sl_moved sl_put_all sl_less_ahead sl_less_behind sl_rows_of sl_first_of sl_rubbed sl_cleared sl_gone sl_gone_to_row sl_bench_after sl_state_of sl___init__ sl_does sl_undoes sl_answers sl_states sl__law_whole sl__law_signed sl__law_deeds sl__law_first sl__law_next sl_law : Array (Option Value)} {oc_signs_ahead kV_signs_ahead dc_signs_ahead pm_signs_ahead cd_signs_ahead ct_signs_ahead oc_signs_behind kV_signs_behind dc_signs_behind pm_signs_behind cd_signs_behind ct_signs_behind oc_laid kV_laid dc_laid pm_laid cd_laid ct_laid oc_size_for kV_size_for dc_size_for pm_size_for cd_size_for ct_size_for oc_text_of kV_text_of dc_text_of pm_text_of cd_text_of ct_text_of oc_moved kV_moved dc_moved pm_moved cd_moved ct_moved oc_put_all kV_put_all dc_put_all pm_put_all cd_put_all ct_put_all oc_less_ahead kV_less_ahead dc_less_ahead pm_less_ahead cd_less_ahead ct_less_ahead oc_less_behind kV_less_behind dc_less_behind pm_less_behind cd_less_behind ct_less_behind oc_rows_of kV_rows_of dc_rows_of pm_rows_of cd_rows_of ct_rows_of oc_first_of kV_first_of dc_first_of pm_first_of cd_first_of ct_first_of oc_rubbed kV_rubbed dc_rubbed pm_rubbed cd_rubbed ct_rubbed oc_cleared kV_cleared dc_cleared pm_cleared cd_cleared ct_cleared oc_gone kV_gone dc_gone pm_gone cd_gone ct_gone oc_gone_to_row kV_gone_to_row dc_gone_to_row pm_gone_to_row cd_gone_to_row ct_gone_to_row oc_bench_after kV_bench_after dc_bench_after pm_bench_after cd_bench_after ct_bench_after oc_state_of kV_state_of dc_state_of pm_state_of cd_state_of ct_state_of oc___init__ kV___init__ dc___init__ pm___init__ cd___init__ ct___init__ oc_does kV_does dc_does pm_does cd_does ct_does oc_undoes kV_undoes dc_undoes pm_undoes cd_undoes ct_undoes oc_answers kV_answers dc_answers pm_answers cd_answers ct_answers oc_states kV_states dc_states pm_states cd_states ct_states oc__law_whole kV__law_whole dc__law_whole pm__law_whole cd__law_whole ct__law_whole oc__law_signed kV__law_signed dc__law_signed pm__law_signed cd__law_signed ct__law_signed oc__law_deeds kV__law_deeds dc__law_deeds pm__law_deeds cd__law_deeds ct__law_deeds oc__law_first kV__law_first dc__law_first pm__law_first cd__law_first ct__law_first oc__law_next kV__law_next dc__law_next pm__law_next cd__law_next ct__law_next oc_law kV_law dc_law pm_law cd_law ct_law : Value}
    {u_MORE_CELLS : Value}
    {u_ROW_END : Value}
    {u_CELLS_AT_FIRST : Value}
    {u_DEEDS_TO_UNDO : Value}
    (a_signs_ahead : PySem.W.nsIn K mainGlobals "signs_ahead" = some (some (.ref f_signs_ahead)))
    (l_signs_ahead : K.lookup f_signs_ahead = some ⟨oc_signs_ahead, od_signs_ahead, .func (PySem.W.fnOf "signs_ahead" "signs_ahead" (defArgs s_signs_ahead) (defBody s_signs_ahead) (defScope s_signs_ahead) .none kV_signs_ahead dc_signs_ahead pm_signs_ahead an_signs_ahead cd_signs_ahead ct_signs_ahead), sl_signs_ahead⟩) (c_signs_ahead : PySem.W.codeIn K cd_signs_ahead "signs_ahead" = true) (k_signs_ahead : PySem.W.keepIn K (.ref f_signs_ahead) = true)
    (a_signs_behind : PySem.W.nsIn K mainGlobals "signs_behind" = some (some (.ref f_signs_behind)))
    (l_signs_behind : K.lookup f_signs_behind = some ⟨oc_signs_behind, od_signs_behind, .func (PySem.W.fnOf "signs_behind" "signs_behind" (defArgs s_signs_behind) (defBody s_signs_behind) (defScope s_signs_behind) .none kV_signs_behind dc_signs_behind pm_signs_behind an_signs_behind cd_signs_behind ct_signs_behind), sl_signs_behind⟩) (c_signs_behind : PySem.W.codeIn K cd_signs_behind "signs_behind" = true) (k_signs_behind : PySem.W.keepIn K (.ref f_signs_behind) = true)
    (a_laid : PySem.W.nsIn K mainGlobals "laid" = some (some (.ref f_laid)))
    (l_laid : K.lookup f_laid = some ⟨oc_laid, od_laid, .func (PySem.W.fnOf "laid" "laid" (defArgs s_laid) (defBody s_laid) (defScope s_laid) .none kV_laid dc_laid pm_laid an_laid cd_laid ct_laid), sl_laid⟩) (c_laid : PySem.W.codeIn K cd_laid "laid" = true) (k_laid : PySem.W.keepIn K (.ref f_laid) = true)
    (a_size_for : PySem.W.nsIn K mainGlobals "size_for" = some (some (.ref f_size_for)))
    (l_size_for : K.lookup f_size_for = some ⟨oc_size_for, od_size_for, .func (PySem.W.fnOf "size_for" "size_for" (defArgs s_size_for) (defBody s_size_for) (defScope s_size_for) .none kV_size_for dc_size_for pm_size_for an_size_for cd_size_for ct_size_for), sl_size_for⟩) (c_size_for : PySem.W.codeIn K cd_size_for "size_for" = true) (k_size_for : PySem.W.keepIn K (.ref f_size_for) = true)
    (a_text_of : PySem.W.nsIn K mainGlobals "text_of" = some (some (.ref f_text_of)))
    (l_text_of : K.lookup f_text_of = some ⟨oc_text_of, od_text_of, .func (PySem.W.fnOf "text_of" "text_of" (defArgs s_text_of) (defBody s_text_of) (defScope s_text_of) .none kV_text_of dc_text_of pm_text_of an_text_of cd_text_of ct_text_of), sl_text_of⟩) (c_text_of : PySem.W.codeIn K cd_text_of "text_of" = true) (k_text_of : PySem.W.keepIn K (.ref f_text_of) = true)
    (a_moved : PySem.W.nsIn K mainGlobals "moved" = some (some (.ref f_moved)))
    (l_moved : K.lookup f_moved = some ⟨oc_moved, od_moved, .func (PySem.W.fnOf "moved" "moved" (defArgs s_moved) (defBody s_moved) (defScope s_moved) .none kV_moved dc_moved pm_moved an_moved cd_moved ct_moved), sl_moved⟩) (c_moved : PySem.W.codeIn K cd_moved "moved" = true) (k_moved : PySem.W.keepIn K (.ref f_moved) = true)
    (a_put_all : PySem.W.nsIn K mainGlobals "put_all" = some (some (.ref f_put_all)))
    (l_put_all : K.lookup f_put_all = some ⟨oc_put_all, od_put_all, .func (PySem.W.fnOf "put_all" "put_all" (defArgs s_put_all) (defBody s_put_all) (defScope s_put_all) .none kV_put_all dc_put_all pm_put_all an_put_all cd_put_all ct_put_all), sl_put_all⟩) (c_put_all : PySem.W.codeIn K cd_put_all "put_all" = true) (k_put_all : PySem.W.keepIn K (.ref f_put_all) = true)
    (a_less_ahead : PySem.W.nsIn K mainGlobals "less_ahead" = some (some (.ref f_less_ahead)))
    (l_less_ahead : K.lookup f_less_ahead = some ⟨oc_less_ahead, od_less_ahead, .func (PySem.W.fnOf "less_ahead" "less_ahead" (defArgs s_less_ahead) (defBody s_less_ahead) (defScope s_less_ahead) .none kV_less_ahead dc_less_ahead pm_less_ahead an_less_ahead cd_less_ahead ct_less_ahead), sl_less_ahead⟩) (c_less_ahead : PySem.W.codeIn K cd_less_ahead "less_ahead" = true) (k_less_ahead : PySem.W.keepIn K (.ref f_less_ahead) = true)
    (a_less_behind : PySem.W.nsIn K mainGlobals "less_behind" = some (some (.ref f_less_behind)))
    (l_less_behind : K.lookup f_less_behind = some ⟨oc_less_behind, od_less_behind, .func (PySem.W.fnOf "less_behind" "less_behind" (defArgs s_less_behind) (defBody s_less_behind) (defScope s_less_behind) .none kV_less_behind dc_less_behind pm_less_behind an_less_behind cd_less_behind ct_less_behind), sl_less_behind⟩) (c_less_behind : PySem.W.codeIn K cd_less_behind "less_behind" = true) (k_less_behind : PySem.W.keepIn K (.ref f_less_behind) = true)
    (a_rows_of : PySem.W.nsIn K mainGlobals "rows_of" = some (some (.ref f_rows_of)))
    (l_rows_of : K.lookup f_rows_of = some ⟨oc_rows_of, od_rows_of, .func (PySem.W.fnOf "rows_of" "rows_of" (defArgs s_rows_of) (defBody s_rows_of) (defScope s_rows_of) .none kV_rows_of dc_rows_of pm_rows_of an_rows_of cd_rows_of ct_rows_of), sl_rows_of⟩) (c_rows_of : PySem.W.codeIn K cd_rows_of "rows_of" = true) (k_rows_of : PySem.W.keepIn K (.ref f_rows_of) = true)
    (a_first_of : PySem.W.nsIn K mainGlobals "first_of" = some (some (.ref f_first_of)))
    (l_first_of : K.lookup f_first_of = some ⟨oc_first_of, od_first_of, .func (PySem.W.fnOf "first_of" "first_of" (defArgs s_first_of) (defBody s_first_of) (defScope s_first_of) .none kV_first_of dc_first_of pm_first_of an_first_of cd_first_of ct_first_of), sl_first_of⟩) (c_first_of : PySem.W.codeIn K cd_first_of "first_of" = true) (k_first_of : PySem.W.keepIn K (.ref f_first_of) = true)
    (a_rubbed : PySem.W.nsIn K mainGlobals "rubbed" = some (some (.ref f_rubbed)))
    (l_rubbed : K.lookup f_rubbed = some ⟨oc_rubbed, od_rubbed, .func (PySem.W.fnOf "rubbed" "rubbed" (defArgs s_rubbed) (defBody s_rubbed) (defScope s_rubbed) .none kV_rubbed dc_rubbed pm_rubbed an_rubbed cd_rubbed ct_rubbed), sl_rubbed⟩) (c_rubbed : PySem.W.codeIn K cd_rubbed "rubbed" = true) (k_rubbed : PySem.W.keepIn K (.ref f_rubbed) = true)
    (a_cleared : PySem.W.nsIn K mainGlobals "cleared" = some (some (.ref f_cleared)))
    (l_cleared : K.lookup f_cleared = some ⟨oc_cleared, od_cleared, .func (PySem.W.fnOf "cleared" "cleared" (defArgs s_cleared) (defBody s_cleared) (defScope s_cleared) .none kV_cleared dc_cleared pm_cleared an_cleared cd_cleared ct_cleared), sl_cleared⟩) (c_cleared : PySem.W.codeIn K cd_cleared "cleared" = true) (k_cleared : PySem.W.keepIn K (.ref f_cleared) = true)
    (a_gone : PySem.W.nsIn K mainGlobals "gone" = some (some (.ref f_gone)))
    (l_gone : K.lookup f_gone = some ⟨oc_gone, od_gone, .func (PySem.W.fnOf "gone" "gone" (defArgs s_gone) (defBody s_gone) (defScope s_gone) .none kV_gone dc_gone pm_gone an_gone cd_gone ct_gone), sl_gone⟩) (c_gone : PySem.W.codeIn K cd_gone "gone" = true) (k_gone : PySem.W.keepIn K (.ref f_gone) = true)
    (a_gone_to_row : PySem.W.nsIn K mainGlobals "gone_to_row" = some (some (.ref f_gone_to_row)))
    (l_gone_to_row : K.lookup f_gone_to_row = some ⟨oc_gone_to_row, od_gone_to_row, .func (PySem.W.fnOf "gone_to_row" "gone_to_row" (defArgs s_gone_to_row) (defBody s_gone_to_row) (defScope s_gone_to_row) .none kV_gone_to_row dc_gone_to_row pm_gone_to_row an_gone_to_row cd_gone_to_row ct_gone_to_row), sl_gone_to_row⟩) (c_gone_to_row : PySem.W.codeIn K cd_gone_to_row "gone_to_row" = true) (k_gone_to_row : PySem.W.keepIn K (.ref f_gone_to_row) = true)
    (a_bench_after : PySem.W.nsIn K mainGlobals "bench_after" = some (some (.ref f_bench_after)))
    (l_bench_after : K.lookup f_bench_after = some ⟨oc_bench_after, od_bench_after, .func (PySem.W.fnOf "bench_after" "bench_after" (defArgs s_bench_after) (defBody s_bench_after) (defScope s_bench_after) .none kV_bench_after dc_bench_after pm_bench_after an_bench_after cd_bench_after ct_bench_after), sl_bench_after⟩) (c_bench_after : PySem.W.codeIn K cd_bench_after "bench_after" = true) (k_bench_after : PySem.W.keepIn K (.ref f_bench_after) = true)
    (a_state_of : PySem.W.nsIn K mainGlobals "state_of" = some (some (.ref f_state_of)))
    (l_state_of : K.lookup f_state_of = some ⟨oc_state_of, od_state_of, .func (PySem.W.fnOf "state_of" "state_of" (defArgs s_state_of) (defBody s_state_of) (defScope s_state_of) .none kV_state_of dc_state_of pm_state_of an_state_of cd_state_of ct_state_of), sl_state_of⟩) (c_state_of : PySem.W.codeIn K cd_state_of "state_of" = true) (k_state_of : PySem.W.keepIn K (.ref f_state_of) = true)
    (a___init__ : PySem.W.findIn K (.ref C) "__init__" = some (some (.ref f___init__))) (i___init__ : PySem.W.isFn K (.ref f___init__) = true)
    (l___init__ : K.lookup f___init__ = some ⟨oc___init__, od___init__, .func (PySem.W.fnOf "__init__" "Day.__init__" (defArgs s___init__) (defBody s___init__) (defScope s___init__) .none kV___init__ dc___init__ pm___init__ an___init__ cd___init__ ct___init__), sl___init__⟩) (c___init__ : PySem.W.codeIn K cd___init__ "Day.__init__" = true) (k___init__ : PySem.W.keepIn K (.ref f___init__) = true)
    (a_does : PySem.W.findIn K (.ref C) "does" = some (some (.ref f_does))) (i_does : PySem.W.isFn K (.ref f_does) = true)
    (l_does : K.lookup f_does = some ⟨oc_does, od_does, .func (PySem.W.fnOf "does" "Day.does" (defArgs s_does) (defBody s_does) (defScope s_does) .none kV_does dc_does pm_does an_does cd_does ct_does), sl_does⟩) (c_does : PySem.W.codeIn K cd_does "Day.does" = true) (k_does : PySem.W.keepIn K (.ref f_does) = true)
    (a_undoes : PySem.W.findIn K (.ref C) "undoes" = some (some (.ref f_undoes))) (i_undoes : PySem.W.isFn K (.ref f_undoes) = true)
    (l_undoes : K.lookup f_undoes = some ⟨oc_undoes, od_undoes, .func (PySem.W.fnOf "undoes" "Day.undoes" (defArgs s_undoes) (defBody s_undoes) (defScope s_undoes) .none kV_undoes dc_undoes pm_undoes an_undoes cd_undoes ct_undoes), sl_undoes⟩) (c_undoes : PySem.W.codeIn K cd_undoes "Day.undoes" = true) (k_undoes : PySem.W.keepIn K (.ref f_undoes) = true)
    (a_answers : PySem.W.nsIn K mainGlobals "answers" = some (some (.ref f_answers)))
    (l_answers : K.lookup f_answers = some ⟨oc_answers, od_answers, .func (PySem.W.fnOf "answers" "answers" (defArgs s_answers) (defBody s_answers) (defScope s_answers) .none kV_answers dc_answers pm_answers an_answers cd_answers ct_answers), sl_answers⟩) (c_answers : PySem.W.codeIn K cd_answers "answers" = true) (k_answers : PySem.W.keepIn K (.ref f_answers) = true)
    (a_states : PySem.W.nsIn K mainGlobals "states" = some (some (.ref f_states)))
    (l_states : K.lookup f_states = some ⟨oc_states, od_states, .func (PySem.W.fnOf "states" "states" (defArgs s_states) (defBody s_states) (defScope s_states) .none kV_states dc_states pm_states an_states cd_states ct_states), sl_states⟩) (c_states : PySem.W.codeIn K cd_states "states" = true) (k_states : PySem.W.keepIn K (.ref f_states) = true)
    (a__law_whole : PySem.W.nsIn K mainGlobals "_law_whole" = some (some (.ref f__law_whole)))
    (l__law_whole : K.lookup f__law_whole = some ⟨oc__law_whole, od__law_whole, .func (PySem.W.fnOf "_law_whole" "_law_whole" (defArgs s__law_whole) (defBody s__law_whole) (defScope s__law_whole) .none kV__law_whole dc__law_whole pm__law_whole an__law_whole cd__law_whole ct__law_whole), sl__law_whole⟩) (c__law_whole : PySem.W.codeIn K cd__law_whole "_law_whole" = true) (k__law_whole : PySem.W.keepIn K (.ref f__law_whole) = true)
    (a__law_signed : PySem.W.nsIn K mainGlobals "_law_signed" = some (some (.ref f__law_signed)))
    (l__law_signed : K.lookup f__law_signed = some ⟨oc__law_signed, od__law_signed, .func (PySem.W.fnOf "_law_signed" "_law_signed" (defArgs s__law_signed) (defBody s__law_signed) (defScope s__law_signed) .none kV__law_signed dc__law_signed pm__law_signed an__law_signed cd__law_signed ct__law_signed), sl__law_signed⟩) (c__law_signed : PySem.W.codeIn K cd__law_signed "_law_signed" = true) (k__law_signed : PySem.W.keepIn K (.ref f__law_signed) = true)
    (a__law_deeds : PySem.W.nsIn K mainGlobals "_law_deeds" = some (some (.ref f__law_deeds)))
    (l__law_deeds : K.lookup f__law_deeds = some ⟨oc__law_deeds, od__law_deeds, .func (PySem.W.fnOf "_law_deeds" "_law_deeds" (defArgs s__law_deeds) (defBody s__law_deeds) (defScope s__law_deeds) .none kV__law_deeds dc__law_deeds pm__law_deeds an__law_deeds cd__law_deeds ct__law_deeds), sl__law_deeds⟩) (c__law_deeds : PySem.W.codeIn K cd__law_deeds "_law_deeds" = true) (k__law_deeds : PySem.W.keepIn K (.ref f__law_deeds) = true)
    (a__law_first : PySem.W.nsIn K mainGlobals "_law_first" = some (some (.ref f__law_first)))
    (l__law_first : K.lookup f__law_first = some ⟨oc__law_first, od__law_first, .func (PySem.W.fnOf "_law_first" "_law_first" (defArgs s__law_first) (defBody s__law_first) (defScope s__law_first) .none kV__law_first dc__law_first pm__law_first an__law_first cd__law_first ct__law_first), sl__law_first⟩) (c__law_first : PySem.W.codeIn K cd__law_first "_law_first" = true) (k__law_first : PySem.W.keepIn K (.ref f__law_first) = true)
    (a__law_next : PySem.W.nsIn K mainGlobals "_law_next" = some (some (.ref f__law_next)))
    (l__law_next : K.lookup f__law_next = some ⟨oc__law_next, od__law_next, .func (PySem.W.fnOf "_law_next" "_law_next" (defArgs s__law_next) (defBody s__law_next) (defScope s__law_next) .none kV__law_next dc__law_next pm__law_next an__law_next cd__law_next ct__law_next), sl__law_next⟩) (c__law_next : PySem.W.codeIn K cd__law_next "_law_next" = true) (k__law_next : PySem.W.keepIn K (.ref f__law_next) = true)
    (a_law : PySem.W.nsIn K mainGlobals "law" = some (some (.ref f_law)))
    (l_law : K.lookup f_law = some ⟨oc_law, od_law, .func (PySem.W.fnOf "law" "law" (defArgs s_law) (defBody s_law) (defScope s_law) .none kV_law dc_law pm_law an_law cd_law ct_law), sl_law⟩) (c_law : PySem.W.codeIn K cd_law "law" = true) (k_law : PySem.W.keepIn K (.ref f_law) = true)
    (aC : PySem.W.nsIn K mainGlobals "Day" = some (some (.ref C))) (pg : PySem.W.plainGet K C Str.empty = true) (hd : PySem.W.hasDictIn K C = true) (po : PySem.W.plainOver K C = true) (sa : PySem.W.findIn K (.ref C) "__setattr__" = some (some (.builtin "object.__setattr__"))) (mk : PySem.W.makesIn K C = true) (kc : PySem.W.keepIn K (.ref C) = true)
    (nB : PySem.W.findIn K (.ref C) "bench" = some none) (nP : PySem.W.findIn K (.ref C) "past" = some none)
    (z_MORE_CELLS : PySem.W.nsIn K mainGlobals "MORE_CELLS" = some (some u_MORE_CELLS)) (y_MORE_CELLS : RelV (.int 4) u_MORE_CELLS)
    (z_ROW_END : PySem.W.nsIn K mainGlobals "ROW_END" = some (some u_ROW_END)) (y_ROW_END : RelV (.str "/") u_ROW_END)
    (z_CELLS_AT_FIRST : PySem.W.nsIn K mainGlobals "CELLS_AT_FIRST" = some (some u_CELLS_AT_FIRST)) (y_CELLS_AT_FIRST : RelV (.int 4) u_CELLS_AT_FIRST)
    (z_DEEDS_TO_UNDO : PySem.W.nsIn K mainGlobals "DEEDS_TO_UNDO" = some (some u_DEEDS_TO_UNDO)) (y_DEEDS_TO_UNDO : (∃ a, u_DEEDS_TO_UNDO = .ref a ∧ ∃ (o : Obj) (its : Array Value) (n : Nat), K.lookup a = some o ∧ o.cls = .type "tuple" ∧ o.data = .seq its n ∧ its.size ≤ sizeLine ∧ Vals [.str "put", .str "rub", .str "clear"] its.toList))
    (n_len : PySem.W.nsIn K mainGlobals "len" = some none)
    (n_isinstance : PySem.W.nsIn K mainGlobals "isinstance" = some none)
    (n_sum : PySem.W.nsIn K mainGlobals "sum" = some none)
    (n_int : PySem.W.nsIn K mainGlobals "int" = some none)
    (n_bool : PySem.W.nsIn K mainGlobals "bool" = some none)
    (n_str : PySem.W.nsIn K mainGlobals "str" = some none)
    (n_list : PySem.W.nsIn K mainGlobals "list" = some none)
    (n_tuple : PySem.W.nsIn K mainGlobals "tuple" = some none)
    (n_range : PySem.W.nsIn K mainGlobals "range" = some none)
    (n_reversed : PySem.W.nsIn K mainGlobals "reversed" = some none) :
    ∃ fd : FuncData, (∀ (s : Shared) (v : Value), BindsTo s fd ⟨[v], []⟩ [("_law_script", v)]) ∧ ∀ base : Heap, K.In base → base.Ns mainGlobals mg → FnOk l.prog w K mg base CX0 7 fa fd ["_law_script"] (sp_law K) := by
  have e := hfa.symm.trans (PySem.W.mg_of X G a_law)
  cases e
  have F_signs_ahead := fun_mk (st := s_signs_ahead) l_signs_ahead c_signs_ahead k_signs_ahead
  have b_signs_ahead := F_signs_ahead.binds (ps := ["bench"]) fun _ _ _ _ _ _ us hl => match us, hl with | [_], _ => rfl
  have F_signs_behind := fun_mk (st := s_signs_behind) l_signs_behind c_signs_behind k_signs_behind
  have b_signs_behind := F_signs_behind.binds (ps := ["bench"]) fun _ _ _ _ _ _ us hl => match us, hl with | [_], _ => rfl
  have F_laid := fun_mk (st := s_laid) l_laid c_laid k_laid
  have b_laid := F_laid.binds (ps := ["ahead", "behind", "size"]) fun _ _ _ _ _ _ us hl => match us, hl with | [_, _, _], _ => rfl
  have F_size_for := fun_mk (st := s_size_for) l_size_for c_size_for k_size_for
  have b_size_for := F_size_for.binds (ps := ["size", "signs"]) fun _ _ _ _ _ _ us hl => match us, hl with | [_, _], _ => rfl
  have F_text_of := fun_mk (st := s_text_of) l_text_of c_text_of k_text_of
  have b_text_of := F_text_of.binds (ps := ["bench"]) fun _ _ _ _ _ _ us hl => match us, hl with | [_], _ => rfl
  have F_moved := fun_mk (st := s_moved) l_moved c_moved k_moved
  have b_moved := F_moved.binds (ps := ["bench", "place"]) fun _ _ _ _ _ _ us hl => match us, hl with | [_, _], _ => rfl
  have F_put_all := fun_mk (st := s_put_all) l_put_all c_put_all k_put_all
  have b_put_all := F_put_all.binds (ps := ["bench", "text"]) fun _ _ _ _ _ _ us hl => match us, hl with | [_, _], _ => rfl
  have F_less_ahead := fun_mk (st := s_less_ahead) l_less_ahead c_less_ahead k_less_ahead
  have b_less_ahead := F_less_ahead.binds (ps := ["bench", "many"]) fun _ _ _ _ _ _ us hl => match us, hl with | [_, _], _ => rfl
  have F_less_behind := fun_mk (st := s_less_behind) l_less_behind c_less_behind k_less_behind
  have b_less_behind := F_less_behind.binds (ps := ["bench", "many"]) fun _ _ _ _ _ _ us hl => match us, hl with | [_, _], _ => rfl
  have F_rows_of := fun_mk (st := s_rows_of) l_rows_of c_rows_of k_rows_of
  have b_rows_of := F_rows_of.binds (ps := ["text"]) fun _ _ _ _ _ _ us hl => match us, hl with | [_], _ => rfl
  have F_first_of := fun_mk (st := s_first_of) l_first_of c_first_of k_first_of
  have b_first_of := F_first_of.binds (ps := ["text", "number"]) fun _ _ _ _ _ _ us hl => match us, hl with | [_, _], _ => rfl
  have F_rubbed := fun_mk (st := s_rubbed) l_rubbed c_rubbed k_rubbed
  have b_rubbed := F_rubbed.binds (ps := ["bench", "many"]) fun _ _ _ _ _ _ us hl => match us, hl with | [_, _], _ => rfl
  have F_cleared := fun_mk (st := s_cleared) l_cleared c_cleared k_cleared
  have b_cleared := F_cleared.binds (ps := ["bench", "many"]) fun _ _ _ _ _ _ us hl => match us, hl with | [_, _], _ => rfl
  have F_gone := fun_mk (st := s_gone) l_gone c_gone k_gone
  have b_gone := F_gone.binds (ps := ["bench", "place"]) fun _ _ _ _ _ _ us hl => match us, hl with | [_, _], _ => rfl
  have F_gone_to_row := fun_mk (st := s_gone_to_row) l_gone_to_row c_gone_to_row k_gone_to_row
  have b_gone_to_row := F_gone_to_row.binds (ps := ["bench", "number"]) fun _ _ _ _ _ _ us hl => match us, hl with | [_, _], _ => rfl
  have F_bench_after := fun_mk (st := s_bench_after) l_bench_after c_bench_after k_bench_after
  have b_bench_after := F_bench_after.binds (ps := ["bench", "deed"]) fun _ _ _ _ _ _ us hl => match us, hl with | [_, _], _ => rfl
  have F_state_of := fun_mk (st := s_state_of) l_state_of c_state_of k_state_of
  have b_state_of := F_state_of.binds (ps := ["bench"]) fun _ _ _ _ _ _ us hl => match us, hl with | [_], _ => rfl
  have F___init__ := fun_mk (st := s___init__) l___init__ c___init__ k___init__
  have b___init__ := F___init__.binds (ps := ["self"]) fun _ _ _ _ _ _ us hl => match us, hl with | [_], _ => rfl
  have F_does := fun_mk (st := s_does) l_does c_does k_does
  have b_does := F_does.binds (ps := ["self", "deed"]) fun _ _ _ _ _ _ us hl => match us, hl with | [_, _], _ => rfl
  have F_undoes := fun_mk (st := s_undoes) l_undoes c_undoes k_undoes
  have b_undoes := F_undoes.binds (ps := ["self"]) fun _ _ _ _ _ _ us hl => match us, hl with | [_], _ => rfl
  have F_answers := fun_mk (st := s_answers) l_answers c_answers k_answers
  have b_answers := F_answers.binds (ps := ["deeds"]) fun _ _ _ _ _ _ us hl => match us, hl with | [_], _ => rfl
  have F_states := fun_mk (st := s_states) l_states c_states k_states
  have b_states := F_states.binds (ps := ["deeds"]) fun _ _ _ _ _ _ us hl => match us, hl with | [_], _ => rfl
  have F__law_whole := fun_mk (st := s__law_whole) l__law_whole c__law_whole k__law_whole
  have b__law_whole := F__law_whole.binds (ps := ["_law_found"]) fun _ _ _ _ _ _ us hl => match us, hl with | [_], _ => rfl
  have F__law_signed := fun_mk (st := s__law_signed) l__law_signed c__law_signed k__law_signed
  have b__law_signed := F__law_signed.binds (ps := ["_law_seed"]) fun _ _ _ _ _ _ us hl => match us, hl with | [_], _ => rfl
  have F__law_deeds := fun_mk (st := s__law_deeds) l__law_deeds c__law_deeds k__law_deeds
  have b__law_deeds := F__law_deeds.binds (ps := ["_law_cells"]) fun _ _ _ _ _ _ us hl => match us, hl with | [_], _ => rfl
  have F__law_first := fun_mk (st := s__law_first) l__law_first c__law_first k__law_first
  have b__law_first := F__law_first.binds (ps := ["_law_text", "_law_number"]) fun _ _ _ _ _ _ us hl => match us, hl with | [_, _], _ => rfl
  have F__law_next := fun_mk (st := s__law_next) l__law_next c__law_next k__law_next
  have b__law_next := F__law_next.binds (ps := ["_law_text", "_law_hand", "_law_past", "_law_deed"]) fun _ _ _ _ _ _ us hl => match us, hl with | [_, _, _, _], _ => rfl
  have F_law := fun_mk (st := s_law) l_law c_law k_law
  have b_law := F_law.binds (ps := ["_law_script"]) fun _ _ _ _ _ _ us hl => match us, hl with | [_], _ => rfl
  let A : Adr := ⟨f_signs_ahead, PySem.W.fnOf "signs_ahead" "signs_ahead" (defArgs s_signs_ahead) (defBody s_signs_ahead) (defScope s_signs_ahead) .none kV_signs_ahead dc_signs_ahead pm_signs_ahead an_signs_ahead cd_signs_ahead ct_signs_ahead, f_signs_behind, PySem.W.fnOf "signs_behind" "signs_behind" (defArgs s_signs_behind) (defBody s_signs_behind) (defScope s_signs_behind) .none kV_signs_behind dc_signs_behind pm_signs_behind an_signs_behind cd_signs_behind ct_signs_behind, f_laid, PySem.W.fnOf "laid" "laid" (defArgs s_laid) (defBody s_laid) (defScope s_laid) .none kV_laid dc_laid pm_laid an_laid cd_laid ct_laid, f_size_for, PySem.W.fnOf "size_for" "size_for" (defArgs s_size_for) (defBody s_size_for) (defScope s_size_for) .none kV_size_for dc_size_for pm_size_for an_size_for cd_size_for ct_size_for, f_text_of, PySem.W.fnOf "text_of" "text_of" (defArgs s_text_of) (defBody s_text_of) (defScope s_text_of) .none kV_text_of dc_text_of pm_text_of an_text_of cd_text_of ct_text_of, f_moved, PySem.W.fnOf "moved" "moved" (defArgs s_moved) (defBody s_moved) (defScope s_moved) .none kV_moved dc_moved pm_moved an_moved cd_moved ct_moved, f_put_all, PySem.W.fnOf "put_all" "put_all" (defArgs s_put_all) (defBody s_put_all) (defScope s_put_all) .none kV_put_all dc_put_all pm_put_all an_put_all cd_put_all ct_put_all, f_less_ahead, PySem.W.fnOf "less_ahead" "less_ahead" (defArgs s_less_ahead) (defBody s_less_ahead) (defScope s_less_ahead) .none kV_less_ahead dc_less_ahead pm_less_ahead an_less_ahead cd_less_ahead ct_less_ahead, f_less_behind, PySem.W.fnOf "less_behind" "less_behind" (defArgs s_less_behind) (defBody s_less_behind) (defScope s_less_behind) .none kV_less_behind dc_less_behind pm_less_behind an_less_behind cd_less_behind ct_less_behind, f_rows_of, PySem.W.fnOf "rows_of" "rows_of" (defArgs s_rows_of) (defBody s_rows_of) (defScope s_rows_of) .none kV_rows_of dc_rows_of pm_rows_of an_rows_of cd_rows_of ct_rows_of, f_first_of, PySem.W.fnOf "first_of" "first_of" (defArgs s_first_of) (defBody s_first_of) (defScope s_first_of) .none kV_first_of dc_first_of pm_first_of an_first_of cd_first_of ct_first_of, f_rubbed, PySem.W.fnOf "rubbed" "rubbed" (defArgs s_rubbed) (defBody s_rubbed) (defScope s_rubbed) .none kV_rubbed dc_rubbed pm_rubbed an_rubbed cd_rubbed ct_rubbed, f_cleared, PySem.W.fnOf "cleared" "cleared" (defArgs s_cleared) (defBody s_cleared) (defScope s_cleared) .none kV_cleared dc_cleared pm_cleared an_cleared cd_cleared ct_cleared, f_gone, PySem.W.fnOf "gone" "gone" (defArgs s_gone) (defBody s_gone) (defScope s_gone) .none kV_gone dc_gone pm_gone an_gone cd_gone ct_gone, f_gone_to_row, PySem.W.fnOf "gone_to_row" "gone_to_row" (defArgs s_gone_to_row) (defBody s_gone_to_row) (defScope s_gone_to_row) .none kV_gone_to_row dc_gone_to_row pm_gone_to_row an_gone_to_row cd_gone_to_row ct_gone_to_row, f_bench_after, PySem.W.fnOf "bench_after" "bench_after" (defArgs s_bench_after) (defBody s_bench_after) (defScope s_bench_after) .none kV_bench_after dc_bench_after pm_bench_after an_bench_after cd_bench_after ct_bench_after, f_state_of, PySem.W.fnOf "state_of" "state_of" (defArgs s_state_of) (defBody s_state_of) (defScope s_state_of) .none kV_state_of dc_state_of pm_state_of an_state_of cd_state_of ct_state_of, f___init__, PySem.W.fnOf "__init__" "Day.__init__" (defArgs s___init__) (defBody s___init__) (defScope s___init__) .none kV___init__ dc___init__ pm___init__ an___init__ cd___init__ ct___init__, f_does, PySem.W.fnOf "does" "Day.does" (defArgs s_does) (defBody s_does) (defScope s_does) .none kV_does dc_does pm_does an_does cd_does ct_does, f_undoes, PySem.W.fnOf "undoes" "Day.undoes" (defArgs s_undoes) (defBody s_undoes) (defScope s_undoes) .none kV_undoes dc_undoes pm_undoes an_undoes cd_undoes ct_undoes, f_answers, PySem.W.fnOf "answers" "answers" (defArgs s_answers) (defBody s_answers) (defScope s_answers) .none kV_answers dc_answers pm_answers an_answers cd_answers ct_answers, f_states, PySem.W.fnOf "states" "states" (defArgs s_states) (defBody s_states) (defScope s_states) .none kV_states dc_states pm_states an_states cd_states ct_states, f__law_whole, PySem.W.fnOf "_law_whole" "_law_whole" (defArgs s__law_whole) (defBody s__law_whole) (defScope s__law_whole) .none kV__law_whole dc__law_whole pm__law_whole an__law_whole cd__law_whole ct__law_whole, f__law_signed, PySem.W.fnOf "_law_signed" "_law_signed" (defArgs s__law_signed) (defBody s__law_signed) (defScope s__law_signed) .none kV__law_signed dc__law_signed pm__law_signed an__law_signed cd__law_signed ct__law_signed, f__law_deeds, PySem.W.fnOf "_law_deeds" "_law_deeds" (defArgs s__law_deeds) (defBody s__law_deeds) (defScope s__law_deeds) .none kV__law_deeds dc__law_deeds pm__law_deeds an__law_deeds cd__law_deeds ct__law_deeds, f__law_first, PySem.W.fnOf "_law_first" "_law_first" (defArgs s__law_first) (defBody s__law_first) (defScope s__law_first) .none kV__law_first dc__law_first pm__law_first an__law_first cd__law_first ct__law_first, f__law_next, PySem.W.fnOf "_law_next" "_law_next" (defArgs s__law_next) (defBody s__law_next) (defScope s__law_next) .none kV__law_next dc__law_next pm__law_next an__law_next cd__law_next ct__law_next, fa, PySem.W.fnOf "law" "law" (defArgs s_law) (defBody s_law) (defScope s_law) .none kV_law dc_law pm_law an_law cd_law ct_law, C, u_MORE_CELLS, u_ROW_END, u_CELLS_AT_FIRST, u_DEEDS_TO_UNDO⟩
  have T : Txt K mg A := ⟨F_signs_ahead, b_signs_ahead, PySem.W.mg_of X G a_signs_ahead, F_signs_behind, b_signs_behind, PySem.W.mg_of X G a_signs_behind, F_laid, b_laid, PySem.W.mg_of X G a_laid, F_size_for, b_size_for, PySem.W.mg_of X G a_size_for, F_text_of, b_text_of, PySem.W.mg_of X G a_text_of, F_moved, b_moved, PySem.W.mg_of X G a_moved, F_put_all, b_put_all, PySem.W.mg_of X G a_put_all, F_less_ahead, b_less_ahead, PySem.W.mg_of X G a_less_ahead, F_less_behind, b_less_behind, PySem.W.mg_of X G a_less_behind, F_rows_of, b_rows_of, PySem.W.mg_of X G a_rows_of, F_first_of, b_first_of, PySem.W.mg_of X G a_first_of, F_rubbed, b_rubbed, PySem.W.mg_of X G a_rubbed, F_cleared, b_cleared, PySem.W.mg_of X G a_cleared, F_gone, b_gone, PySem.W.mg_of X G a_gone, F_gone_to_row, b_gone_to_row, PySem.W.mg_of X G a_gone_to_row, F_bench_after, b_bench_after, PySem.W.mg_of X G a_bench_after, F_state_of, b_state_of, PySem.W.mg_of X G a_state_of, F___init__, b___init__, F_does, b_does, F_undoes, b_undoes, F_answers, b_answers, PySem.W.mg_of X G a_answers, F_states, b_states, PySem.W.mg_of X G a_states, F__law_whole, b__law_whole, PySem.W.mg_of X G a__law_whole, F__law_signed, b__law_signed, PySem.W.mg_of X G a__law_signed, F__law_deeds, b__law_deeds, PySem.W.mg_of X G a__law_deeds, F__law_first, b__law_first, PySem.W.mg_of X G a__law_first, F__law_next, b__law_next, PySem.W.mg_of X G a__law_next, F_law, b_law, PySem.W.mg_of X G a_law, ⟨pg, hd, po, sa⟩, PySem.W.mg_of X G aC, ⟨mk, a___init__, i___init__, kc⟩, nB, nP, ⟨a_does, i_does, k_does⟩, ⟨a_undoes, i_undoes, k_undoes⟩, PySem.W.mg_of X G z_MORE_CELLS, y_MORE_CELLS, PySem.W.mg_of X G z_ROW_END, y_ROW_END, PySem.W.mg_of X G z_CELLS_AT_FIRST, y_CELLS_AT_FIRST, PySem.W.mg_of X G z_DEEDS_TO_UNDO, y_DEEDS_TO_UNDO, ⟨PySem.W.mg_none_of X G n_len, PySem.W.mg_none_of X G n_isinstance, PySem.W.mg_none_of X G n_sum, PySem.W.mg_none_of X G n_int, PySem.W.mg_none_of X G n_bool, PySem.W.mg_none_of X G n_str, PySem.W.mg_none_of X G n_list, PySem.W.mg_none_of X G n_tuple, PySem.W.mg_none_of X G n_range, PySem.W.mg_none_of X G n_reversed⟩⟩
  exact ⟨PySem.W.fnOf "law" "law" (defArgs s_law) (defBody s_law) (defScope s_law) .none kV_law dc_law pm_law an_law cd_law ct_law, fun s v => .of_eq rfl, fun base _ _ => ok_law T⟩
theorem walk {l : PySem.W.OpenLaw} {q : Program} {loose : List Str} {XP : (Str → Option Value) → Heap → Prop} {YP : World → Heap → Prop} {d : DefRec} {K : Params → PySem.W.Frag} (hn : l.most = some 63) (hdf : d.params.defaults = [])
    (hY : ∀ (w : World) (h : Heap), YP w h → (K w.params).In h)
    (F : ∀ (w : World) (mg : Str → Option Value) (fa : Addr) (h : Heap), (K w.params).In h → h.Ns mainGlobals mg → mg d.name = some (.ref fa) →
      ∃ fd : FuncData, (∀ (s : Shared) (u : Value), BindsTo s fd ⟨[u], []⟩ [("_law_script", u)]) ∧ ∀ base : Heap, (K w.params).In base → base.Ns mainGlobals mg → FnOk l.prog w (K w.params) mg base CX0 7 fa fd ["_law_script"] (sp_law (K w.params))) :
    PySem.W.WalkO q loose XP YP l.row.toRowW d [] (fun f vs => PySem.call f vs) :=
  L2.walk_of (n := 63) (k := 7) (x := "_law_script") (CX := fun _ => CX0) (sp := fun w => sp_law (K w.params)) hn (by decide) hdf ⟨rfl, by decide, by decide⟩ hY F (fun _ _ a ns hl _ hS => ⟨a, ns, rfl, hS, hl, fun _ => rfl⟩) fun _ _ _ _ _ z => z
end Gb
open PySem PySem.W PyProof.Rows
set_option maxRecDepth 100000 in
set_option maxHeartbeats 0 in
theorem PySem.Challenge.cw_gapbench_k06_whole_undone_to_nothing_holds : PySem.Challenge.rw_gapbench_k06_whole_undone_to_nothing.Holds := by
  w_on; o_law; k_head; (case hw => w_witness2)
  k_fill
  refine Gb.walk (l := PySem.Challenge.rw_gapbench_k06_whole_undone_to_nothing) rfl rfl (fun w h Y => PySem.W.kIn_of Y) ?F
  case F =>
    intro w mg fa h KX G hmg
    refine' Gb.all_mk KX G hmg ?a_signs_ahead ?l_signs_ahead ?c_signs_ahead ?k_signs_ahead ?a_signs_behind ?l_signs_behind ?c_signs_behind ?k_signs_behind ?a_laid ?l_laid ?c_laid ?k_laid ?a_size_for ?l_size_for ?c_size_for ?k_size_for ?a_text_of ?l_text_of ?c_text_of ?k_text_of ?a_moved ?l_moved ?c_moved ?k_moved ?a_put_all ?l_put_all ?c_put_all ?k_put_all ?a_less_ahead ?l_less_ahead ?c_less_ahead ?k_less_ahead ?a_less_behind ?l_less_behind ?c_less_behind ?k_less_behind ?a_rows_of ?l_rows_of ?c_rows_of ?k_rows_of ?a_first_of ?l_first_of ?c_first_of ?k_first_of ?a_rubbed ?l_rubbed ?c_rubbed ?k_rubbed ?a_cleared ?l_cleared ?c_cleared ?k_cleared ?a_gone ?l_gone ?c_gone ?k_gone ?a_gone_to_row ?l_gone_to_row ?c_gone_to_row ?k_gone_to_row ?a_bench_after ?l_bench_after ?c_bench_after ?k_bench_after ?a_state_of ?l_state_of ?c_state_of ?k_state_of ?a___init__ ?i___init__ ?l___init__ ?c___init__ ?k___init__ ?a_does ?i_does ?l_does ?c_does ?k_does ?a_undoes ?i_undoes ?l_undoes ?c_undoes ?k_undoes ?a_answers ?l_answers ?c_answers ?k_answers ?a_states ?l_states ?c_states ?k_states ?a__law_whole ?l__law_whole ?c__law_whole ?k__law_whole ?a__law_signed ?l__law_signed ?c__law_signed ?k__law_signed ?a__law_deeds ?l__law_deeds ?c__law_deeds ?k__law_deeds ?a__law_first ?l__law_first ?c__law_first ?k__law_first ?a__law_next ?l__law_next ?c__law_next ?k__law_next ?a_law ?l_law ?c_law ?k_law ?aC ?pg ?hd ?po ?sa ?mk ?kc ?nB ?nP ?z_MORE_CELLS ?y_MORE_CELLS ?z_ROW_END ?y_ROW_END ?z_CELLS_AT_FIRST ?y_CELLS_AT_FIRST ?z_DEEDS_TO_UNDO ?y_DEEDS_TO_UNDO ?n_len ?n_isinstance ?n_sum ?n_int ?n_bool ?n_str ?n_list ?n_tuple ?n_range ?n_reversed
    (case aC => k_is)
    (case a_signs_ahead => k_is)
    (case l_signs_ahead => k_is)
    (case c_signs_ahead => k_is)
    (case k_signs_ahead => k_is)
    (case a_signs_behind => k_is)
    (case l_signs_behind => k_is)
    (case c_signs_behind => k_is)
    (case k_signs_behind => k_is)
    (case a_laid => k_is)
    (case l_laid => k_is)
    (case c_laid => k_is)
    (case k_laid => k_is)
    (case a_size_for => k_is)
    (case l_size_for => k_is)
    (case c_size_for => k_is)
    (case k_size_for => k_is)
    (case a_text_of => k_is)
    (case l_text_of => k_is)
    (case c_text_of => k_is)
    (case k_text_of => k_is)
    (case a_moved => k_is)
    (case l_moved => k_is)
    (case c_moved => k_is)
    (case k_moved => k_is)
    (case a_put_all => k_is)
    (case l_put_all => k_is)
    (case c_put_all => k_is)
    (case k_put_all => k_is)
    (case a_less_ahead => k_is)
    (case l_less_ahead => k_is)
    (case c_less_ahead => k_is)
    (case k_less_ahead => k_is)
    (case a_less_behind => k_is)
    (case l_less_behind => k_is)
    (case c_less_behind => k_is)
    (case k_less_behind => k_is)
    (case a_rows_of => k_is)
    (case l_rows_of => k_is)
    (case c_rows_of => k_is)
    (case k_rows_of => k_is)
    (case a_first_of => k_is)
    (case l_first_of => k_is)
    (case c_first_of => k_is)
    (case k_first_of => k_is)
    (case a_rubbed => k_is)
    (case l_rubbed => k_is)
    (case c_rubbed => k_is)
    (case k_rubbed => k_is)
    (case a_cleared => k_is)
    (case l_cleared => k_is)
    (case c_cleared => k_is)
    (case k_cleared => k_is)
    (case a_gone => k_is)
    (case l_gone => k_is)
    (case c_gone => k_is)
    (case k_gone => k_is)
    (case a_gone_to_row => k_is)
    (case l_gone_to_row => k_is)
    (case c_gone_to_row => k_is)
    (case k_gone_to_row => k_is)
    (case a_bench_after => k_is)
    (case l_bench_after => k_is)
    (case c_bench_after => k_is)
    (case k_bench_after => k_is)
    (case a_state_of => k_is)
    (case l_state_of => k_is)
    (case c_state_of => k_is)
    (case k_state_of => k_is)
    (case a___init__ => k_is)
    (case i___init__ => k_is)
    (case l___init__ => k_is)
    (case c___init__ => k_is)
    (case k___init__ => k_is)
    (case a_does => k_is)
    (case i_does => k_is)
    (case l_does => k_is)
    (case c_does => k_is)
    (case k_does => k_is)
    (case a_undoes => k_is)
    (case i_undoes => k_is)
    (case l_undoes => k_is)
    (case c_undoes => k_is)
    (case k_undoes => k_is)
    (case a_answers => k_is)
    (case l_answers => k_is)
    (case c_answers => k_is)
    (case k_answers => k_is)
    (case a_states => k_is)
    (case l_states => k_is)
    (case c_states => k_is)
    (case k_states => k_is)
    (case a__law_whole => k_is)
    (case l__law_whole => k_is)
    (case c__law_whole => k_is)
    (case k__law_whole => k_is)
    (case a__law_signed => k_is)
    (case l__law_signed => k_is)
    (case c__law_signed => k_is)
    (case k__law_signed => k_is)
    (case a__law_deeds => k_is)
    (case l__law_deeds => k_is)
    (case c__law_deeds => k_is)
    (case k__law_deeds => k_is)
    (case a__law_first => k_is)
    (case l__law_first => k_is)
    (case c__law_first => k_is)
    (case k__law_first => k_is)
    (case a__law_next => k_is)
    (case l__law_next => k_is)
    (case c__law_next => k_is)
    (case k__law_next => k_is)
    (case a_law => k_is)
    (case l_law => k_is)
    (case c_law => k_is)
    (case k_law => k_is)
    (case pg => k_is)
    (case hd => k_is)
    (case po => k_is)
    (case sa => k_is)
    (case mk => k_is)
    (case kc => k_is)
    (case nB => k_is)
    (case nP => k_is)
    (case z_MORE_CELLS => k_is)
    (case y_MORE_CELLS => exact ⟨_, rfl⟩)
    (case z_ROW_END => k_is)
    (case y_ROW_END => exact ⟨_, rfl⟩)
    (case z_CELLS_AT_FIRST => k_is)
    (case y_CELLS_AT_FIRST => exact ⟨_, rfl⟩)
    (case z_DEEDS_TO_UNDO => k_is)
    (case y_DEEDS_TO_UNDO => exact ⟨_, rfl, _, _, _, (by k_is), rfl, rfl, (by decide), .cons ⟨_, rfl⟩ (.cons ⟨_, rfl⟩ (.cons ⟨_, rfl⟩ .nil))⟩)
    (case n_len => k_is)
    (case n_isinstance => k_is)
    (case n_sum => k_is)
    (case n_int => k_is)
    (case n_bool => k_is)
    (case n_str => k_is)
    (case n_list => k_is)
    (case n_tuple => k_is)
    (case n_range => k_is)
    (case n_reversed => k_is)
