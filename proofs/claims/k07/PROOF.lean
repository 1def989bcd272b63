import PyProof.Rows.All
import Wide.All
import OpenK.AllK
import Wide.FinOn
import Lean
import PyProof.EqAt
import PyProof.EqKinds
import PyProof.TupleCall
import PyProof.StrCalls
import PyProof.StrCalls2
import KE.KIntText
import KE.IntTextText
import KE.KEqSeq
import KE.KEqDat
import PyProof.FitsBits
import PyProof.StrLawsTight
import PyProof.Rows.StrItems
import PyProof.MeetsStr
import PyProof.MeetsStr2
import PyProof.AutoListH
import PyProof.LongRange
import PyProof.ListRange
import PyProof.Rows.SumAny
import KE.LcSums
import PyProof.Rows.TupleGenD
import PyProof.Rows.StrFirst
import OpenK.KRaise
import PySem.Challenge.RW_rowpack_k07_texts_refused
set_option Elab.async false
set_option linter.all false
set_option maxRecDepth 100000
namespace L2
open PySem PySem.Spec PyProof.Rows

/-- a key: an int or a str -/
abbrev Key := Sum Int Str
def keyIs : Key → Value → Bool
  | .inl k, v => Value.isInt k v
  | .inr x, v => Value.isStrOf x v
def keyH (w : World) : Key → Int
  | .inl k => hashInt k
  | .inr x => hashStr w x
theorem keyIs_shape : ∀ {k : Key} {v : Value}, keyIs k v = true → (∃ i t, k = Sum.inl i ∧ v = Value.int i t) ∨ (∃ x t, k = Sum.inr x ∧ v = Value.str x t)
  | .inl i, v, h => by
    obtain ⟨t, e⟩ := Value.isInt_shape (k := i) (v := v) h
    exact .inl ⟨i, t, rfl, e⟩
  | .inr x, v, h => by
    obtain ⟨t, e⟩ := Value.isStrOf_shape (x := x) (v := v) h
    exact .inr ⟨x, t, rfl, e⟩
theorem keyIs_int (i : Int) (t : Tok) : keyIs (.inl i) (.int i t) = true := by simp [keyIs, Value.isInt]
theorem keyIs_str (x : Str) (t : Tok) : keyIs (.inr x) (.str x t) = true := by simp [keyIs, Value.isStrOf]
theorem key_ll (a b : Int) : decide ((Sum.inl a : Key) = Sum.inl b) = (a == b) := by
  by_cases e : a = b
  · subst e; simp
  · have h : ¬ (Sum.inl a : Key) = Sum.inl b := fun q => e (Sum.inl.inj q)
    rw [decide_eq_false h]
    exact (beq_eq_false_iff_ne.mpr e).symm
theorem key_rr (a b : Str) : decide ((Sum.inr a : Key) = Sum.inr b) = decide (a = b) := by
  by_cases e : a = b
  · subst e; simp
  · have h : ¬ (Sum.inr a : Key) = Sum.inr b := fun q => e (Sum.inr.inj q)
    rw [decide_eq_false h, decide_eq_false e]
theorem key_lr (a : Int) (b : Str) : decide ((Sum.inl a : Key) = Sum.inr b) = false := decide_eq_false (fun q => nomatch q)
theorem key_rl (a : Str) (b : Int) : decide ((Sum.inr a : Key) = Sum.inl b) = false := decide_eq_false (fun q => nomatch q)

def mixKind (prog : Program) (w : World) : PySem.KeyKind prog w Key where
  is := keyIs
  hash := keyH w
  inj := fun v a b ha hb => by
    rcases keyIs_shape ha with ⟨i, t, rfl, rfl⟩ | ⟨x, t, rfl, rfl⟩
    · rcases keyIs_shape hb with ⟨j, u, rfl, e⟩ | ⟨y, u, rfl, e⟩
      · injection e with e1 _; rw [e1]
      · exact nomatch e
    · rcases keyIs_shape hb with ⟨j, u, rfl, e⟩ | ⟨y, u, rfl, e⟩
      · exact nomatch e
      · injection e with e1 _; rw [e1]
  byValue := fun k v h => by
    rcases keyIs_shape h with ⟨i, t, rfl, rfl⟩ | ⟨x, t, rfl, rfl⟩ <;> rfl
  pyHash := fun hv h => by
    rcases keyIs_shape hv with ⟨i, t, rfl, rfl⟩ | ⟨x, t, rfl, rfl⟩
    · exact wpAny_pyHash_int h
    · exact wpAny_pyHash_str h
  eqBool := fun hu hv h => by
    rcases keyIs_shape hu with ⟨i, t, rfl, rfl⟩ | ⟨x, t, rfl, rfl⟩
    · rcases keyIs_shape hv with ⟨j, u, rfl, rfl⟩ | ⟨y, u, rfl, rfl⟩
      · rw [key_ll] at h; exact wpAny_eqBool_int h
      · rw [key_lr] at h; exact SeqAt.EqAt.int_str i t y u _ _ _ _ h
    · rcases keyIs_shape hv with ⟨j, u, rfl, rfl⟩ | ⟨y, u, rfl, rfl⟩
      · rw [key_rl] at h; exact SeqAt.EqAt.str_int x t j u _ _ _ _ h
      · rw [key_rr] at h; exact wpAny_eqBool_str h
  «strs» := fun k x t v h => by
    rcases keyIs_shape h with ⟨i, u, rfl, e⟩ | ⟨y, u, rfl, e⟩
    · exact nomatch e
    · injection e with e1 _
      subst e1
      cases v <;> rfl

theorem mixKind_is (prog : Program) (w : World) (k : Key) (v : Value) : (mixKind prog w).is k v = keyIs k v := rfl
theorem mixKind_int (prog : Program) (w : World) (i : Int) (t : Tok) : (mixKind prog w).is (.inl i) (.int i t) = true := keyIs_int i t
theorem mixKind_str (prog : Program) (w : World) (x : Str) (t : Tok) : (mixKind prog w).is (.inr x) (.str x t) = true := keyIs_str x t
end L2

namespace L2
open PySem PySem.Spec PyProof.Rows

/-- a value, without the heap -/
inductive V where
  | non | bl (b : Bool) | int (i : Int) | str (x : Str) | byt (b : Array UInt8) | flt (b : UInt64) | ref (a : Addr) | ty (n : String)
  deriving DecidableEq

def RelV : V → Value → Prop
  | .non, u => u = Value.none
  | .bl b, u => u = Value.bool b
  | .int i, u => ∃ t, u = Value.int i t
  | .str x, u => ∃ t, u = Value.str x t
  | .byt b, u => ∃ t, u = Value.bytes b t
  | .flt b, u => ∃ t, u = Value.float b t
  | .ref a, u => u = Value.ref a
  | .ty n, u => u = Value.type n

abbrev Vals : List V → List Value → Prop := Paired RelV
theorem Vals.length {xs : List V} {us : List Value} (r : Vals xs us) : xs.length = us.length := Paired.length r
theorem Vals.get : ∀ {xs : List V} {us : List Value} {i : Nat} {x : V}, Vals xs us → xs[i]? = some x → ∃ u, us[i]? = some u ∧ RelV x u
  | _, _, _, _, .nil, e => by simp at e
  | _, _, 0, _, .cons r _, e => by simp at e; subst e; exact ⟨_, rfl, r⟩
  | _, _, i + 1, x, .cons _ t, e => by
    obtain ⟨u, h1, h2⟩ := Vals.get (i := i) (x := x) t (by simpa using e)
    exact ⟨u, by simpa using h1, h2⟩
theorem Vals.set {x : V} {u : Value} (r : RelV x u) : ∀ {xs : List V} {us : List Value} (i : Nat), Vals xs us → Vals (xs.set i x) (us.set i u)
  | _, _, _, .nil => .nil
  | _, _, 0, .cons _ t => .cons r t
  | _, _, i + 1, .cons q t => .cons q (Vals.set r i t)
theorem Vals.append : ∀ {xs ys : List V} {us ws : List Value}, Vals xs us → Vals ys ws → Vals (xs ++ ys) (us ++ ws)
  | _, _, _, _, .nil, s => s
  | _, _, _, _, .cons r t, s => .cons r (Vals.append t s)
theorem Vals.take : ∀ {xs : List V} {us : List Value} (n : Nat), Vals xs us → Vals (xs.take n) (us.take n)
  | _, _, 0, _ => .nil
  | _, _, _ + 1, .nil => .nil
  | _, _, n + 1, .cons r t => .cons r (Vals.take n t)
theorem Vals.drop : ∀ {xs : List V} {us : List Value} (n : Nat), Vals xs us → Vals (xs.drop n) (us.drop n)
  | _, _, 0, r => r
  | _, _, _ + 1, .nil => .nil
  | _, _, n + 1, .cons _ t => Vals.drop n t
theorem Vals.none_of : ∀ {xs : List V} {us : List Value} {i : Nat}, Vals xs us → xs[i]? = none → us[i]? = none := fun {xs us i} r e => by
  have h1 := r.length
  have h2 : xs.length ≤ i := List.getElem?_eq_none_iff.mp e
  exact List.getElem?_eq_none_iff.mpr (by omega)

def RelO : Option V → Option Value → Prop
  | some v, some u => RelV v u
  | none, none => True
  | _, _ => False
def KV {κ : Type} : List (κ × V) → List (κ × Value) → Prop := Paired fun (p : κ × V) (q : κ × Value) => p.1 = q.1 ∧ RelV p.2 q.2

/-- a key of a dict (00_mix): an int or a text -/
def kV : Key → V
  | .inl i => .int i
  | .inr x => .str x

/-- what stands at a tracked address -/
inductive HO where
  /-- a list -/
  | lst (xs : List V)
  /-- a tuple (never changes) -/
  | tup (xs : List V)
  /-- a dict whose keys are ints and texts; one whose keys are tuples of ints and texts (the empty one is both) -/
  | dK (kvs : List (Key × V)) | dT (kvs : List (List Key × V))
  /-- a set of ints: its members, its size -/
  | set (S : Int → Bool) (n : Nat)
  /-- an instance of the class at C, its dict at dx, its attributes -/
  | ins (C dx : Addr) (fs : List (Str × V))
  /-- the dict of the instance at x -/
  | own (x : Addr)
  /-- the dict of an exception -/
  | xd (fs : List (Str × V))
  /-- a bound method, f of x -/
  | met (f x : Addr)
  /-- a range object lo, lo + 1, .. below hi -/
  | rng (lo hi : Int)
  /-- a thing that is known to the object (the script; a dict while a loop walks it): read, never written while it is so -/
  | frz (o : Obj) (u : HO)
  /-- a code object's table -/
  | tbl (ps : Array Value)
  /-- any other thing, by what is true of its one object (a def of one's own: SetO a S n := HO.ext fun h => ..) -/
  | ext (φ : Heap → Prop)

abbrev Hp := Addr → Option HO
def upd (H : Hp) (a : Addr) (o : HO) : Hp := fun b => if b = a then some o else H b
theorem upd_same {H : Hp} {a : Addr} {o : HO} : upd H a o a = some o := by unfold upd; rw [if_pos rfl]
theorem upd_ne {H : Hp} {a b : Addr} {o : HO} (h : b ≠ a) : upd H a o b = H b := by unfold upd; rw [if_neg h]
theorem upd_upd {H : Hp} {a : Addr} {o u : HO} : upd (upd H a o) a u = upd H a u := by
  funext b; unfold upd; split <;> rfl
/-- two objects of different content stand apart -/
theorem ne_of {H : Hp} {a b : Addr} {o u : HO} (h : H a = some o) (h' : H b = some u) (d : o ≠ u) : a ≠ b := by
  intro e; subst e; rw [h] at h'; exact d (Option.some.inj h')
theorem ne_of_none {H : Hp} {a b : Addr} {o : HO} (h : H a = some o) (h' : H b = none) : a ≠ b := by
  intro e; subst e; rw [h] at h'; cases h'

section
variable (P : Program) (w : World)
def ObjOk (H : Hp) (h : Heap) (a : Addr) : HO → Prop
  | .lst xs => xs.length ≤ sizeLine ∧ ∃ (its : List Value) (n : Nat), Vals xs its ∧ h.get? a = some { cls := .type "list", data := .seq its.toArray n }
  | .tup xs => xs.length ≤ sizeLine ∧ ∃ its : List Value, Vals xs its ∧ IsTup h a its.toArray
  | .dK kvs => kvs.length ≤ sizeLine ∧ (a == sysModules) = false ∧ ∃ vs, KV kvs vs ∧ h.DictOf (mixKind P w) a vs
  | .dT kvs => kvs.length ≤ sizeLine ∧ (a == sysModules) = false ∧ ∃ xs : List (List Key × Addr × Value),
      Paired (fun (p : List Key × V) (q : List Key × Addr × Value) => p.1 = q.1 ∧ H q.2.1 = some (.tup (p.1.map kV)) ∧ RelV p.2 q.2.2) kvs xs ∧
      ∃ o es ep, h.get? a = some o ∧ o.ExactDict ∧ o.data = .dict es ep ∧ es.toList = xs.map (entryOfKey (tupleKind (mixKind P w))) ∧ (xs.map (·.1)).Nodup
  | .set S n => h.SetOf (intKind P w) a S n
  | .ins C dx fs => H dx = some (.own a) ∧ fs.length ≤ 1000 ∧ dx ≠ a ∧ h.get? a = some (PySem.W.instObj C dx) ∧
      ∃ mA, h.Ns1 dx mA ∧ (∀ f, RelO (fs.lookup f) (mA f)) ∧ PySem.Within mA (fs.map (·.1))
  | .own _ => ∃ o, h.get? a = some o
  | .xd fs => ∃ mA, h.Ns1 a mA ∧ ∀ f, RelO (fs.lookup f) (mA f)
  | .rng lo hi => ∃ t u v, h.get? a = some { cls := .type "range", data := .fields #[.int lo t, .int hi u, .int 1 v] }
  | .frz o u => h.get? a = some o ∧ ObjOk H h a u
  | .tbl ps => h.get? a = some { cls := .none, data := .fields ps }
  | .met f x => h.get? a = some (PySem.W.methodObj (.ref f) (.ref x))
  | .ext φ => φ h ∧ (∃ o, h.get? a = some o) ∧ ∀ h1 h2 : Heap, φ h1 → (∀ o, h1.get? a = some o → h2.get? a = some o) → φ h2
/-- the abstract heap is held -/
def HOk (H : Hp) (h : Heap) : Prop := ∀ a o, H a = some o → ObjOk P w H h a o
end

section
variable {P : Program} {w : World} {H H' : Hp} {h h' : Heap} {a : Addr} {o : HO}
theorem ObjOk.lt (x : ObjOk P w H h a o) : a < h.objs.size := by
  cases o with
  | lst xs => obtain ⟨_, _, _, _, e⟩ := x; exact Heap.lt_size e
  | tup xs => obtain ⟨_, _, _, p⟩ := x; exact p.lt
  | dK kvs => obtain ⟨_, _, _, _, o, _, _, e, _⟩ := x; exact Heap.lt_size e
  | dT kvs => obtain ⟨_, _, _, _, o, _, _, e, _⟩ := x; exact Heap.lt_size e
  | set S n => obtain ⟨o, _, _, _, e, _⟩ := x; exact Heap.lt_size e
  | ins C dx fs => obtain ⟨_, _, _, e, _⟩ := x; exact Heap.lt_size e
  | own y => obtain ⟨_, e⟩ := x; exact Heap.lt_size e
  | xd fs => obtain ⟨_, ⟨_, _, _, e, _⟩, _⟩ := x; exact Heap.lt_size e
  | rng lo hi => obtain ⟨_, _, _, e⟩ := x; exact Heap.lt_size e
  | frz ob u => obtain ⟨e, _⟩ := x; exact Heap.lt_size e
  | tbl ps => exact Heap.lt_size (show h.get? a = some _ from x)
  | met f y => exact Heap.lt_size (show h.get? a = some _ from x)
  | ext φ => obtain ⟨_, ⟨_, e⟩, _⟩ := x; exact Heap.lt_size e
theorem Paired.mapP {α β : Type} {F G : α → β → Prop} : ∀ {l₁ : List α} {l₂ : List β}, Paired F l₁ l₂ → (∀ a b, F a b → G a b) → Paired G l₁ l₂
  | _, _, .nil, _ => .nil
  | _, _, .cons r t, f => .cons (f _ _ r) (Paired.mapP t f)
theorem Paired.imp' {α β : Type} {F G : α → β → Prop} (f : ∀ a b, F a b → G a b) {l₁ : List α} {l₂ : List β} (r : Paired F l₁ l₂) : Paired G l₁ l₂ := Paired.mapP r f
/-- what an object's description leans on: its own object, its own dict, the tuples -/
theorem ObjOk.stay (x : ObjOk P w H h a o) (k : ∀ b u, (b = a ∨ H b = some (.own a)) → h.get? b = some u → h'.get? b = some u)
    (ho : ∀ b, H b = some (.own a) → H' b = some (.own a)) (ht : ∀ b xs, H b = some (.tup xs) → H' b = some (.tup xs)) : ObjOk P w H' h' a o := by
  induction o with
  | lst xs => obtain ⟨z, its, n, r, e⟩ := x; exact ⟨z, its, n, r, k _ _ (.inl rfl) e⟩
  | tup xs => obtain ⟨z, its, r, ob, e, c⟩ := x; exact ⟨z, its, r, ob, k _ _ (.inl rfl) e, c⟩
  | dK kvs => obtain ⟨z, y, vs, r, ob, es, ep, e, c⟩ := x; exact ⟨z, y, vs, r, ob, es, ep, k _ _ (.inl rfl) e, c⟩
  | dT kvs =>
    obtain ⟨z, y, xs, r, ob, es, ep, e, c⟩ := x
    exact ⟨z, y, xs, Paired.mapP r fun p q z => ⟨z.1, ht _ _ z.2.1, z.2.2⟩, ob, es, ep, k _ _ (.inl rfl) e, c⟩
  | set S n => obtain ⟨ob, es, ep, t, e, c⟩ := x; exact ⟨ob, es, ep, t, k _ _ (.inl rfl) e, c⟩
  | ins C dx fs =>
    obtain ⟨d, z, ne, e, mA, ⟨od, es, ep, e2, c⟩, r⟩ := x
    exact ⟨ho _ d, z, ne, k _ _ (.inl rfl) e, mA, ⟨od, es, ep, k _ _ (.inr d) e2, c⟩, r⟩
  | own y => obtain ⟨ob, e⟩ := x; exact ⟨ob, k _ _ (.inl rfl) e⟩
  | xd fs => obtain ⟨mA, ⟨od, es, ep, e, c⟩, r⟩ := x; exact ⟨mA, ⟨od, es, ep, k _ _ (.inl rfl) e, c⟩, r⟩
  | rng lo hi => obtain ⟨t, u, v, e⟩ := x; exact ⟨t, u, v, k _ _ (.inl rfl) e⟩
  | frz ob u ih => obtain ⟨e, q⟩ := x; exact ⟨k _ _ (.inl rfl) e, ih q⟩
  | tbl ps =>
    have e : h.get? a = some { cls := .none, data := .fields ps } := x
    show h'.get? a = some { cls := .none, data := .fields ps }
    exact k a _ (.inl rfl) e
  | met f y =>
    have e : h.get? a = some (PySem.W.methodObj (.ref f) (.ref y)) := x
    show h'.get? a = some (PySem.W.methodObj (.ref f) (.ref y))
    exact k a _ (.inl rfl) e
  | ext φ => obtain ⟨p, ⟨o, e⟩, st⟩ := x; exact ⟨st _ _ p fun o q => k _ _ (.inl rfl) q, ⟨o, k _ _ (.inl rfl) e⟩, st⟩
theorem HOk.lt (x : HOk P w H h) (e : H a = some o) : a < h.objs.size := (x a o e).lt
theorem HOk.fresh (x : HOk P w H h) (e : h.objs.size ≤ a) : H a = none := by
  cases q : H a with
  | none => rfl
  | some u => exact absurd (Nat.lt_of_lt_of_le (x.lt q) e) (Nat.lt_irrefl _)
/-- every object of the heap is kept -/
theorem HOk.kept (x : HOk P w H h) (k : ∀ b u, h.get? b = some u → h'.get? b = some u) : HOk P w H h' := fun a o e =>
  (x a o e).stay (fun b u _ q => k b u q) (fun _ q => q) fun _ _ q => q
/-- a new object is laid and tracked -/
theorem HOk.laid (x : HOk P w H h) (k : ∀ b u, h.get? b = some u → h'.get? b = some u) (hp : h.objs.size ≤ a) (new : ObjOk P w (upd H a o) h' a o) : HOk P w (upd H a o) h' := fun b u e => by
  have hn := x.fresh hp
  by_cases hb : b = a
  · subst hb; rw [upd_same] at e; cases e; exact new
  · rw [upd_ne hb] at e
    exact (x b u e).stay (fun c v _ q => k c v q) (fun c q => by rw [upd_ne (ne_of_none q hn)]; exact q) fun c xs q => by rw [upd_ne (ne_of_none q hn)]; exact q
end

/-- what may be read as u: it is u, or a known u -/
def Rd (H : Hp) (a : Addr) (u : HO) : Prop := H a = some u ∨ ∃ o, H a = some (.frz o u)
theorem Rd.of {H : Hp} {a : Addr} {u : HO} (h : H a = some u) : Rd H a u := .inl h
theorem Rd.ok {P : Program} {w : World} {H : Hp} {h : Heap} {a : Addr} {u : HO} (r : Rd H a u) (x : HOk P w H h) : ObjOk P w H h a u := by
  rcases r with r | ⟨o, r⟩
  · exact x a u r
  · obtain ⟨_, q⟩ := x a _ r
    exact q
/-- what may be written -/
def Mut : Option HO → Prop
  | some (.lst _) => True
  | some (.dK _) => True
  | some (.dT _) => True
  | some (.set _ _) => True
  | some (.ins _ _ _) => True
  | some (.ext _) => True
  | _ => False
section
variable {P : Program} {w : World} {H : Hp} {h h' : Heap} {x e : Addr} {o' : HO}
/-- the object at e is changed: x itself, or the dict of the instance x -/
theorem HOk.write (ok : HOk P w H h) (mu : Mut (H x)) (he : e = x ∨ H e = some (.own x)) (k : ∀ b u, b ≠ e → h.get? b = some u → h'.get? b = some u) (heo : ∃ u, h'.get? e = some u)
    (new : ObjOk P w (upd H x o') h' x o') : HOk P w (upd H x o') h' := fun b u q => by
  have nown : ∀ c y, H c = some (.own y) → c ≠ x := fun c y r z => by subst z; rw [r] at mu; exact mu
  have ntup : ∀ c xs, H c = some (.tup xs) → c ≠ x := fun c xs r z => by subst z; rw [r] at mu; exact mu
  by_cases hb : b = x
  · subst hb; rw [upd_same] at q; cases q; exact new
  · rw [upd_ne hb] at q
    by_cases hbe : b = e
    · have q' : H b = some (.own x) := by
        rcases he with z | z
        · exact absurd (hbe.trans z) hb
        · rw [hbe]; exact z
      rw [q] at q'; cases q'
      obtain ⟨v, hv⟩ := heo
      exact ⟨v, by rw [hbe]; exact hv⟩
    · refine (ok b u q).stay (fun c v hc r => k c v ?_ r) (fun c r => by rw [upd_ne (nown c b r)]; exact r) fun c xs r => by rw [upd_ne (ntup c xs r)]; exact r
      rcases hc with rfl | hc
      · exact hbe
      · rintro rfl
        rcases he with z | z
        · exact nown c b hc z
        · rw [hc] at z; cases z; exact hb rfl
end

/-! ### kept unless tracked; of the frames at fs (the callers') the slots may change (an exception that passes writes there); of the records at ex (iterators) nothing is said -/
structure Un (fs ex : List Addr) (H H' : Hp) (h h' : Heap) : Prop where
  keep : ∀ b o, h.get? b = some o → H b = none → b ∉ fs → b ∉ ex → h'.get? b = some o
  slot : ∀ b o, h.get? b = some o → H b = none → b ∈ fs → b ∉ ex → ∃ sl, h'.get? b = some { o with slots := sl }
  free : ∀ b o, h.get? b = some o → H b = none → b ∉ ex → H' b = none
  there : ∀ b o, h.get? b = some o → b ∉ ex → ∃ o', h'.get? b = some o'
  tups : ∀ b xs, H b = some (.tup xs) → H' b = some (.tup xs)
  frzs : ∀ b o u, H b = some (.frz o u) → H' b = some (.frz o u)
  tbls : ∀ b ps, H b = some (.tbl ps) → ∃ more, H' b = some (.tbl (ps ++ more))
section
variable {fs fs' ex ex' : List Addr} {H H1 H2 : Hp} {h h1 h2 h' : Heap} {a x e : Addr} {o : HO}
theorem Un.any (u : Un fs ex H H1 h h1) {b : Addr} {ob : Obj} (q : h.get? b = some ob) (n : H b = none) (hx : b ∉ ex) : ∃ sl, h1.get? b = some { ob with slots := sl } := by
  by_cases hb : b ∈ fs
  · exact u.slot b ob q n hb hx
  · exact ⟨ob.slots, u.keep b ob q n hb hx⟩
theorem Un.trans (a : Un fs ex H H1 h h1) (b : Un fs ex H1 H2 h1 h2) : Un fs ex H H2 h h2 where
  keep := fun c ob q n hc hx => b.keep c ob (a.keep c ob q n hc hx) (a.free c ob q n hx) hc hx
  slot := fun c ob q n hc hx => by
    obtain ⟨sl, e1⟩ := a.slot c ob q n hc hx
    obtain ⟨sl', e2⟩ := b.slot c _ e1 (a.free c ob q n hx) hc hx
    exact ⟨sl', e2⟩
  free := fun c ob q n hx => by
    obtain ⟨o', e1⟩ := a.there c ob q hx
    exact b.free c o' e1 (a.free c ob q n hx) hx
  there := fun c ob q hx => by
    obtain ⟨o', e1⟩ := a.there c ob q hx
    exact b.there c o' e1 hx
  tups := fun c xs q => b.tups c xs (a.tups c xs q)
  frzs := fun c ob xs q => b.frzs c ob xs (a.frzs c ob xs q)
  tbls := fun c ps q => by
    obtain ⟨m1, e1⟩ := a.tbls c ps q
    obtain ⟨m2, e2⟩ := b.tbls c _ e1
    exact ⟨m1 ++ m2, by rw [e2, Array.append_assoc]⟩
theorem Un.kept (k : ∀ b u, h.get? b = some u → h'.get? b = some u) : Un fs ex H H h h' :=
  ⟨fun b ob q _ _ _ => k b ob q, fun b ob q _ _ _ => ⟨ob.slots, k b ob q⟩, fun _ _ _ n _ => n, fun b ob q _ => ⟨ob, k b ob q⟩, fun _ _ q => q, fun _ _ _ q => q, fun _ ps q => ⟨#[], by rw [q]; simp⟩⟩
theorem Un.refl : Un fs ex H H h h := Un.kept fun _ _ q => q
theorem Un.laid (k : ∀ b u, h.get? b = some u → h'.get? b = some u) (hp : h.objs.size ≤ a) (hn : H a = none) : Un fs ex H (upd H a o) h h' where
  keep := fun b u q _ _ _ => k b u q
  slot := fun b u q _ _ _ => ⟨u.slots, k b u q⟩
  free := fun b u q n _ => by rw [upd_ne (Nat.ne_of_lt (Nat.lt_of_lt_of_le (Heap.lt_size q) hp))]; exact n
  there := fun b u q _ => ⟨u, k b u q⟩
  tups := fun b xs q => by rw [upd_ne (ne_of_none q hn)]; exact q
  frzs := fun b u xs q => by rw [upd_ne (ne_of_none q hn)]; exact q
  tbls := fun b ps q => ⟨#[], by rw [upd_ne (ne_of_none q hn), q]; simp⟩
theorem Un.write (mu : Mut (H x)) (he : e = x ∨ H e = some (.own x)) (k : ∀ b u, b ≠ e → h.get? b = some u → h'.get? b = some u) (heo : ∃ u, h'.get? e = some u) : Un fs ex H (upd H x o) h h' := by
  have hx : ∀ b, H b = none → b ≠ x := fun b n z => by subst z; rw [n] at mu; exact mu
  have hb : ∀ b, H b = none → b ≠ e := fun b n z => by
    subst z
    rcases he with r | r
    · exact hx b n r
    · rw [n] at r; cases r
  have hm : ∀ b u, H b = some u → ¬ Mut (some u) → b ≠ x := fun b u q nm z => by subst z; rw [q] at mu; exact nm mu
  refine ⟨fun b u q n _ _ => k b u (hb b n) q, fun b u q n _ _ => ⟨u.slots, k b u (hb b n) q⟩, fun b u q n _ => by rw [upd_ne (hx b n)]; exact n, fun b u q _ => ?_,
    fun b xs q => by rw [upd_ne (hm b _ q fun z => z)]; exact q, fun b u xs q => by rw [upd_ne (hm b _ q fun z => z)]; exact q, fun b ps q => ⟨#[], by rw [upd_ne (hm b _ q fun z => z), q]; simp⟩⟩
  by_cases hbe : b = e
  · subst hbe; exact heo
  · exact ⟨u, k b u hbe q⟩
theorem Un.mono (u : Un fs ex H H1 h h1) (hs : ∀ b ∈ fs, b ∈ fs') (hx : ∀ b ∈ ex, b ∈ ex') : Un fs' ex' H H1 h h1 :=
  ⟨fun b ob q n hb he => u.keep b ob q n (fun z => hb (hs b z)) fun z => he (hx b z), fun _ _ q n _ he => u.any q n fun z => he (hx _ z), fun b ob q n he => u.free b ob q n fun z => he (hx b z), fun b ob q he => u.there b ob q fun z => he (hx b z), u.tups, u.frzs, u.tbls⟩
end

/-! ### the heap without what is tracked -/
def trk (h : Heap) (H : Hp) : List Addr := (List.range h.objs.size).filter fun a => (H a).isSome
def hidT (h : Heap) (H : Hp) : Heap := PySem.W.hideAll h (trk h H)
theorem hidT_size (h : Heap) (H : Hp) : (hidT h H).objs.size = h.objs.size := PySem.W.hideAll_size _ _
theorem hidT_get {h : Heap} {H : Hp} {b : Addr} {o : Obj} (e : h.get? b = some o) (n : H b = none) : (hidT h H).get? b = some o :=
  PySem.W.hideAll_get _ e fun hm => by
    have q : (H b).isSome = true := (List.mem_filter.mp hm).2
    rw [n] at q; simp at q
theorem of_hidT {h : Heap} {H : Hp} {b : Addr} {o : Obj} (e : (hidT h H).get? b = some o) : h.get? b = some o ∧ H b = none := by
  have e' : h.get? b = some o := PySem.W.of_hideAll (trk h H) e
  refine ⟨e', ?_⟩
  cases q : H b with
  | none => rfl
  | some x =>
    have hm : b ∈ trk h H := List.mem_filter.mpr ⟨List.mem_range.mpr (Heap.lt_size e'), by simp [q]⟩
    have z : (hidT h H).get? b = none := PySem.W.hideAll_none (trk h H) hm
    rw [z] at e; cases e

/-! ### OpenK's ledger, filled with every new object but one -/
def allNews (g h : Heap) (L : Addr) : List (Addr × Obj) := (List.range h.objs.size).filterMap fun a => if a = L ∨ (g.get? a).isSome = true then none else (h.get? a).map fun o => (a, o)
theorem mem_allNews {g h : Heap} {L a : Addr} {o : Obj} (h1 : a ≠ L) (h2 : g.get? a = none) (h3 : h.get? a = some o) : (a, o) ∈ allNews g h L :=
  List.mem_filterMap.mpr ⟨a, List.mem_range.mpr (Heap.lt_size h3), by simp [h1, h2, h3]⟩
theorem of_mem_allNews {g h : Heap} {L : Addr} {p : Addr × Obj} (hp : p ∈ allNews g h L) : p.1 ≠ L ∧ g.get? p.1 = none ∧ h.get? p.1 = some p.2 := by
  obtain ⟨b, _, e⟩ := List.mem_filterMap.mp hp
  split at e
  · cases e
  · rename_i hn
    cases q : h.get? b with
    | none => rw [q] at e; simp at e
    | some u =>
      rw [q] at e
      simp only [Option.map_some, Option.some.injEq] at e
      subst e
      refine ⟨fun z => hn (.inl z), ?_, q⟩
      show g.get? b = none
      cases r : g.get? b with
      | none => rfl
      | some v => exact (hn (.inr (by simp [r]))).elim
def rest (g h : Heap) (L d : Addr) : List (Addr × Obj) := (allNews g h L).filter fun p => decide (p.1 ≠ d)
theorem rest_ne {g h : Heap} {L d : Addr} : ∀ p ∈ rest g h L d, p.1 ≠ d := fun p hp => of_decide_eq_true (List.mem_filter.mp hp).2
theorem mem_rest {g h : Heap} {L d a : Addr} {o : Obj} (h1 : a ≠ L) (h2 : g.get? a = none) (h3 : h.get? a = some o) (h4 : a ≠ d) : (a, o) ∈ rest g h L d :=
  List.mem_filter.mpr ⟨mem_allNews h1 h2 h3, decide_eq_true h4⟩
theorem news_all {g h : Heap} {L : Addr} : News g L h (allNews g h L) := fun p hp => let ⟨a, b, c⟩ := of_mem_allNews hp; ⟨c, a, b⟩
theorem news_at {g h : Heap} {L d : Addr} {o : Obj} (h1 : d ≠ L) (h2 : g.get? d = none) (h3 : h.get? d = some o) : News g L h ((d, o) :: rest g h L d) := fun p hp => by
  rcases List.mem_cons.mp hp with rfl | hp
  · exact ⟨h3, h1, h2⟩
  · exact news_all p (List.mem_filter.mp hp).1
/-- behind a rule that changed d alone: all else but the frame is kept -/
theorem kept_of_news {g h h' : Heap} {L d : Addr} {m : Str → Option Value} (k : ∀ b o, g.get? b = some o → h.get? b = some o) (F : Fr g L h' m) (N : News g L h' (rest g h L d)) :
    ∀ b o, b ≠ L → b ≠ d → h.get? b = some o → h'.get? b = some o := fun b o h1 h2 e => by
  cases q : g.get? b with
  | some u =>
    have := k b u q
    rw [e] at this; cases this
    exact F.keep b _ q
  | none => exact (N (b, o) (mem_rest h1 q e h2)).1
end L2

namespace L2
open PySem PySem.Spec PyProof.Rows

/-- the module's facts, over the base: the heap at the law's entry without what is tracked there -/
structure Mod (K : PySem.W.Frag) (mg : Str → Option Value) (base : Heap) : Prop where
  kin : K.In base
  glob : base.Ns mainGlobals mg
  blt : ∃ mb, base.Ns builtinsNs mb ∧ ∀ x : Str, x ≠ "__name__" → mb x = bootBuiltins x
  nolimit : base.NoLimit

/-- the context: a def's body (or a comprehension's block) running. base: fixed through the whole law; s₀, H₀: the entry; outer: the frames whose slots others may change (a def's callers); stack: all frames that run;
   ex: iterators that were made ahead of the entry and are walked here (a comprehension's); fn: the names whose cells were made at the entry (a def: all; a comprehension's block: its own); calm: not within an except suite; pn: pins that every state bears; xe: what is wanted of an exception that leaves the code -/
structure Cx where
  prog : Program
  w : World
  K : PySem.W.Frag
  mg : Str → Option Value
  base : Heap
  A : Around
  N : List Str
  s₀ : Shared
  H₀ : Hp
  env : Env
  outer : List Env
  stack : List Env
  ex : List Addr
  fn : Str → Bool
  calm : Bool
  pn : List (Addr × Obj)
  xe : Value → Shared → Prop
/-- the callers' frames -/
def frs (l : List Env) : List Addr := l.filterMap (·.frame)
abbrev Cx.fs (X : Cx) : List Addr := frs X.outer

def Vis (sc : Scope) (x : Str) : Prop := sc.names.lookup x = some .local ∨ sc.names.lookup x = some .cell ∨ sc.names.lookup x = some .free
def Loc (sc : Scope) (x : Str) : Prop := sc.names.lookup x = some .local ∨ sc.names.lookup x = some .cell
def Look (env : Env) (h : Heap) (m : Str → Option Value) (x : Str) (u : Value) : Prop :=
  (env.kindOf x = some .local ∧ m x = some u) ∨ ((env.kindOf x = some .cell ∨ env.kindOf x = some .free) ∧ ∃ c, env.cells.lookup x = some c ∧ h.IsCell c (some u))

structure Cx.Ok (X : Cx) : Prop where
  mod : Mod X.K X.mg X.base
  kind : X.env.scope.kind = .function
  glob : X.env.globals = mainGlobals
  blt : X.env.builtins = builtinsNs
  above : X.s₀.heap.objs.size ≤ X.env.locals
  inj : ∀ x y c, X.env.cells.lookup x = some c → X.env.cells.lookup y = some c → x = y
  has : ∀ x, (X.env.kindOf x = some .cell ∨ X.env.kindOf x = some .free) → ∃ c, X.env.cells.lookup x = some c
  cab : ∀ x c, X.fn x = true → X.env.cells.lookup x = some c → X.s₀.heap.objs.size ≤ c
  hd : X.calm = true → X.A.handled = none
  frames : X.A.frames = some X.stack
  stk : X.stack = X.outer ∨ (X.stack = X.env :: X.outer ∧ X.env.frame = some X.env.locals)
  exf : ∀ b ∈ X.ex, b ≠ X.env.locals ∧ ∀ x c, X.env.cells.lookup x = some c → c ≠ b
  bs : ∀ b o, X.base.get? b = some o → X.s₀.heap.get? b = some o ∧ X.H₀ b = none
  bsz : X.base.objs.size ≤ X.s₀.heap.objs.size
  noex : ∀ b o, X.base.get? b = some o → b ∉ X.ex
  exfs : ∀ b ∈ X.ex, b ∉ X.fs
  funs : X.s₀.heap.FunFrames X.base X.outer
  frf : ∀ b ∈ X.fs, X.H₀ b = none

structure Inv (X : Cx) (pins : List (Addr × Obj)) (σ : List (Option V)) (H : Hp) (s : Shared) : Prop where
  ok : X.Ok
  os : s.os = X.s₀.os
  bare : AllBare s.gens
  base : Un X.fs X.ex X.H₀ H X.s₀.heap s.heap
  loc : ∃ m, s.heap.Ns X.env.locals m ∧ ∀ (i : Nat) (x : Str) (v : V), X.N[i]? = some x → σ[i]? = some (some v) → Vis X.env.scope x → ∃ u, RelV v u ∧ Look X.env s.heap m x u
  cell : ∀ x c, X.env.cells.lookup x = some c → ∃ v, s.heap.IsCell c v
  free : H X.env.locals = none
  freeC : ∀ x c, X.env.cells.lookup x = some c → H c = none
  pin : ∀ p ∈ X.pn ++ pins, s.heap.get? p.1 = some p.2 ∧ H p.1 = none ∧ p.1 ≠ X.env.locals ∧ p.1 ∉ X.fs ∧ ∀ v, p.2.data ≠ .cell v
  hok : HOk X.prog X.w H s.heap
  len : σ.length = X.N.length

section
variable {X : Cx} {pins : List (Addr × Obj)} {σ : List (Option V)} {H H' : Hp} {s : Shared} {h' : Heap}

theorem Cx.Ok.nofr (ok : X.Ok) {b : Addr} {o : Obj} (e : X.base.get? b = some o) : b ∉ X.fs := fun hb => by
  have := (ok.funs.mem hb).1
  rw [e] at this; cases this
theorem Inv.bs (I : Inv X pins σ H s) : ∀ b o, X.base.get? b = some o → s.heap.get? b = some o ∧ H b = none := fun b o e =>
  ⟨I.base.keep b o (I.ok.bs b o e).1 (I.ok.bs b o e).2 (I.ok.nofr e) (I.ok.noex b o e), I.base.free b o (I.ok.bs b o e).1 (I.ok.bs b o e).2 (I.ok.noex b o e)⟩
theorem Inv.bk (I : Inv X pins σ H s) : ∀ b o, X.base.get? b = some o → s.heap.get? b = some o := fun b o e => (I.bs b o e).1
theorem Inv.mod (I : Inv X pins σ H s) : Mod X.K X.mg X.base := I.ok.mod
theorem Inv.kIn (I : Inv X pins σ H s) : X.K.In s.heap := I.ok.mod.kin.keeps I.bk
theorem Inv.nolimit (I : Inv X pins σ H s) : s.heap.NoLimit := I.ok.mod.nolimit.keeps I.bk
/-- the frame over the base: for OpenK's rules (K.In X.base is I.mod.kin) -/
theorem Inv.fr (I : Inv X pins σ H s) : ∃ m, Fr X.base X.env.locals s.heap m :=
  let ⟨m, hn, _⟩ := I.loc
  ⟨m, hn, I.bk, Nat.le_trans I.ok.bsz I.ok.above⟩
theorem Inv.lt (I : Inv X pins σ H s) : X.env.locals < s.heap.objs.size := let ⟨_, hn, _⟩ := I.loc; hn.lt
theorem Inv.sz (I : Inv X pins σ H s) : X.s₀.heap.objs.size ≤ s.heap.objs.size := Nat.le_trans I.ok.above (Nat.le_of_lt I.lt)
theorem Inv.nofs (I : Inv X pins σ H s) {a : Addr} (h : s.heap.objs.size ≤ a) : a ∉ X.fs := fun hb => by
  obtain ⟨_, o, ho, _⟩ := I.ok.funs.mem hb
  exact absurd (Nat.lt_of_lt_of_le (Heap.lt_size ho) (Nat.le_trans I.sz h)) (Nat.lt_irrefl _)
theorem Inv.cne (I : Inv X pins σ H s) : ∀ x c, X.env.cells.lookup x = some c → c ≠ X.env.locals := fun x c e z => by
  obtain ⟨v, o, ho, hd⟩ := I.cell x c e
  obtain ⟨m, ⟨o', es, ep, ho', hd', _⟩, _⟩ := I.loc
  rw [z, ho'] at ho; cases ho; rw [hd'] at hd; cases hd
theorem Inv.funs (I : Inv X pins σ H s) : s.heap.FunFrames X.base X.outer := by
  have all : ∀ (l : List Env), (∀ b ∈ frs l, b ∈ X.fs) → X.s₀.heap.FunFrames X.base l → s.heap.FunFrames X.base l := by
    intro l
    induction l with
    | nil => intro _ _; trivial
    | cons env r ih =>
      intro hs hl
      obtain ⟨hk, ⟨L, o, hf, hn, ho, hd⟩, hr⟩ := hl
      have hL : L ∈ X.fs := hs L (by unfold frs; rw [List.filterMap_cons, hf]; exact List.mem_cons_self)
      obtain ⟨sl, e⟩ := I.base.slot L o ho (I.ok.frf L hL) hL fun z => I.ok.exfs L z hL
      exact ⟨hk, ⟨L, _, hf, hn, e, hd⟩, ih (fun b hb => hs b (by unfold frs; rw [List.filterMap_cons, hf]; exact List.mem_cons_of_mem _ hb)) hr⟩
  exact all X.outer (fun _ hb => hb) I.ok.funs

/-- the frames that run, for a call -/
theorem Inv.stack (I : Inv X pins σ H s) : s.heap.FunFrames X.base X.stack := by
  rcases I.ok.stk with e | ⟨e, hf⟩
  · rw [e]; exact I.funs
  · rw [e]
    obtain ⟨m, hn, _⟩ := I.loc
    refine .cons (by rw [I.ok.kind]; decide) hf hn ?_ I.funs
    exact Heap.get?_none_of_le (Nat.le_trans I.ok.bsz I.ok.above)
theorem Inv.stkSub (I : Inv X pins σ H s) : ∀ b ∈ frs X.stack, b ∈ X.env.locals :: X.fs := fun b hb => by
  rcases I.ok.stk with e | ⟨e, hf⟩
  · rw [e] at hb; exact List.mem_cons_of_mem _ hb
  · rw [e] at hb
    unfold frs at hb
    rw [List.filterMap_cons, hf] at hb
    exact hb
theorem Inv.stkFree (I : Inv X pins σ H s) : ∀ b ∈ frs X.stack, H b = none := fun b hb => by
  rcases List.mem_cons.mp (I.stkSub b hb) with e | hb
  · rw [e]; exact I.free
  · obtain ⟨_, o, ho, _⟩ := I.ok.funs.mem hb
    exact I.base.free b o ho (I.ok.frf b hb) fun z => I.ok.exfs b z hb

/-- THE STEP: the untracked objects but the frame and the records at ch are kept (the callers' frames up to slots), the frame's map is kept, the new abstract heap is held -/
theorem Inv.step {g' : Array GenState} {t' : Nat} {d' : Drawn} {ch : List Addr} (I : Inv X pins σ H s)
    (hch : ∀ b ∈ ch, (b ∈ X.ex ∨ X.s₀.heap.objs.size ≤ b) ∧ b ≠ X.env.locals ∧ (∀ x c, X.env.cells.lookup x = some c → c ≠ b) ∧ ∀ p ∈ X.pn ++ pins, p.1 ≠ b)
    (keep : ∀ b o, b ≠ X.env.locals → b ∉ X.fs → b ∉ ch → s.heap.get? b = some o → H b = none → h'.get? b = some o)
    (slot : ∀ b o, b ≠ X.env.locals → b ∈ X.fs → b ∉ ch → s.heap.get? b = some o → H b = none → ∃ sl, h'.get? b = some { o with slots := sl }) (free : ∀ b o, b ∉ ch → s.heap.get? b = some o → H b = none → H' b = none)
    (there : ∀ b o, b ∉ ch → s.heap.get? b = some o → ∃ o', h'.get? b = some o')
    (tups : ∀ b xs, H b = some (.tup xs) → H' b = some (.tup xs)) (frzs : ∀ b o u, H b = some (.frz o u) → H' b = some (.frz o u)) (tbls : ∀ b ps, H b = some (.tbl ps) → ∃ more, H' b = some (.tbl (ps ++ more)))
    (ns : ∀ m, s.heap.Ns X.env.locals m → h'.Ns X.env.locals m) (hok : HOk X.prog X.w H' h') (hg : AllBare g') :
    Inv X pins σ H' { s with heap := h', gens := g', drawn := d', toks := t' } := by
  have neL : ∀ b o, X.s₀.heap.get? b = some o → b ≠ X.env.locals := fun b o e => Nat.ne_of_lt (Nat.lt_of_lt_of_le (Heap.lt_size e) I.ok.above)
  have neC : ∀ b o, X.s₀.heap.get? b = some o → b ∉ X.ex → b ∉ ch := fun b o e hx hb => by
    rcases (hch b hb).1 with z | z
    · exact hx z
    · exact absurd (Nat.lt_of_lt_of_le (Heap.lt_size e) z) (Nat.lt_irrefl _)
  have cellK : ∀ x c, X.env.cells.lookup x = some c → ∀ v, s.heap.IsCell c v → h'.IsCell c v := fun x c e v ⟨o, ho, hd⟩ => by
    have nch : c ∉ ch := fun z => (hch c z).2.2.1 x c e rfl
    by_cases hc : c ∈ X.fs
    · obtain ⟨sl, q⟩ := slot c o (I.cne x c e) hc nch ho (I.freeC x c e)
      exact ⟨_, q, hd⟩
    · exact ⟨o, keep c o (I.cne x c e) hc nch ho (I.freeC x c e), hd⟩
  refine ⟨I.ok, I.os, hg, ⟨fun b o e n hb hx => ?_, fun b o e n hb hx => ?_, fun b o e n hx => ?_, fun b o e hx => ?_, fun b xs e => tups b xs (I.base.tups b xs e), fun b o xs e => frzs b o xs (I.base.frzs b o xs e), fun b ps e => ?_⟩, ?_, fun x c e => ?_, ?_, fun x c e => ?_, fun p hp => ?_, hok, I.len⟩
  · exact keep b o (neL b o e) hb (neC b o e hx) (I.base.keep b o e n hb hx) (I.base.free b o e n hx)
  · obtain ⟨sl, e1⟩ := I.base.slot b o e n hb hx
    obtain ⟨sl', e2⟩ := slot b _ (neL b o e) hb (neC b o e hx) e1 (I.base.free b o e n hx)
    exact ⟨sl', e2⟩
  · obtain ⟨o', e1⟩ := I.base.there b o e hx
    exact free b o' (neC b o e hx) e1 (I.base.free b o e n hx)
  · obtain ⟨o', e1⟩ := I.base.there b o e hx
    exact there b o' (neC b o e hx) e1
  · obtain ⟨m1, e1⟩ := I.base.tbls b ps e
    obtain ⟨m2, e2⟩ := tbls b _ e1
    exact ⟨m1 ++ m2, by rw [e2, Array.append_assoc]⟩
  · obtain ⟨m, hn, hl⟩ := I.loc
    refine ⟨m, ns m hn, fun i x v e1 e2 e3 => ?_⟩
    obtain ⟨u, r, l⟩ := hl i x v e1 e2 e3
    refine ⟨u, r, ?_⟩
    rcases l with l | ⟨k, c, e, z⟩
    · exact .inl l
    · exact .inr ⟨k, c, e, cellK x c e _ z⟩
  · obtain ⟨v, z⟩ := I.cell x c e
    exact ⟨v, cellK x c e v z⟩
  · obtain ⟨m, ⟨o, _, _, ho, _⟩, _⟩ := I.loc
    exact free _ o (fun z => (hch _ z).2.1 rfl) ho I.free
  · obtain ⟨v, o, ho, hd⟩ := I.cell x c e
    exact free c o (fun z => (hch c z).2.2.1 x c e rfl) ho (I.freeC x c e)
  · obtain ⟨e, n, ne, nf, d⟩ := I.pin p hp
    have nch : p.1 ∉ ch := fun z => (hch p.1 z).2.2.2 p hp rfl
    exact ⟨keep p.1 p.2 ne nf nch e n, free p.1 p.2 nch e n, ne, nf, d⟩
/-- .. where the frame's own object is kept too -/
theorem Inv.un {t' : Nat} (I : Inv X pins σ H s) (u : Un X.fs [] H H' s.heap h') (hok : HOk X.prog X.w H' h') : Inv X pins σ H' { s with heap := h', toks := t' } := by
  obtain ⟨m, ⟨o, es, ep, ho, r⟩, _⟩ := id I.loc
  obtain ⟨sl, hL⟩ := u.any ho I.free (by simp)
  exact I.step (g' := s.gens) (d' := s.drawn) (ch := []) (fun _ z => nomatch z) (fun b o _ hb _ e n => u.keep b o e n hb (by simp)) (fun b o _ hb _ e n => u.slot b o e n hb (by simp)) (fun b o _ e n => u.free b o e n (by simp)) (fun b o _ e => u.there b o e (by simp)) u.tups u.frzs u.tbls (fun m' hm => by
    obtain ⟨o', es', ep', ho', r'⟩ := hm
    rw [ho] at ho'; cases ho'
    exact ⟨_, es', ep', hL, r'⟩) hok I.bare
/-- behind a call (or a comprehension's block): the slots of this frame may have changed too, the records at ch may have turned -/
theorem Inv.call {g' : Array GenState} {t' : Nat} {d' : Drawn} {ch : List Addr} (I : Inv X pins σ H s) (u : Un (frs X.stack) ch H H' s.heap h') (hok : HOk X.prog X.w H' h') (hg : AllBare g')
    (hch : ∀ b ∈ ch, (b ∈ X.ex ∨ X.s₀.heap.objs.size ≤ b) ∧ b ≠ X.env.locals ∧ (∀ x c, X.env.cells.lookup x = some c → c ≠ b) ∧ ∀ p ∈ X.pn ++ pins, p.1 ≠ b) :
    Inv X pins σ H' { s with heap := h', gens := g', drawn := d', toks := t' } := by
  obtain ⟨m, ⟨o, es, ep, ho, r⟩, _⟩ := id I.loc
  obtain ⟨sl, hL⟩ := u.any ho I.free fun z => (hch _ z).2.1 rfl
  exact I.step (ch := ch) hch (fun b o hL hb hc e n => u.keep b o e n (fun z => (List.mem_cons.mp (I.stkSub b z)).elim hL hb) hc) (fun b o _ _ hc e n => u.any e n hc) (fun b o hc e n => u.free b o e n hc) (fun b o hc e => u.there b o e hc) u.tups u.frzs u.tbls (fun m' hm => by
    obtain ⟨o', es', ep', ho', r'⟩ := hm
    rw [ho] at ho'; cases ho'
    exact ⟨_, es', ep', hL, r'⟩) hok hg
/-- an untracked record of ours (an iterator) has turned -/
theorem Inv.turned {t' : Nat} {it : Addr} (I : Inv X pins σ H s) (k : ∀ b o, b ≠ it → s.heap.get? b = some o → h'.get? b = some o) (hn : H it = none) (hL : it ≠ X.env.locals)
    (h1 : it ∈ X.ex ∨ X.s₀.heap.objs.size ≤ it) (h2 : ∀ x c, X.env.cells.lookup x = some c → c ≠ it) (h3 : ∀ p ∈ X.pn ++ pins, p.1 ≠ it) : Inv X pins σ H { s with heap := h', toks := t' } := by
  have nit : ∀ b u, H b = some u → b ≠ it := fun b u e z => by rw [z, hn] at e; cases e
  refine I.step (g' := s.gens) (d' := s.drawn) (ch := [it]) (fun b hb => ?_) (fun b o _ _ hc e _ => k b o (fun z => hc (by simp [z])) e) (fun b o _ _ hc e _ => ⟨o.slots, k b o (fun z => hc (by simp [z])) e⟩) (fun _ _ _ _ n => n)
    (fun b o hc e => ⟨o, k b o (fun z => hc (by simp [z])) e⟩) (fun _ _ e => e) (fun _ _ _ e => e) (fun b ps e => ⟨#[], by rw [e]; simp⟩) (fun m hm => ?_) (fun b u e => ?_) I.bare
  · have e : b = it := by simpa using hb
    subst e
    exact ⟨h1, hL, h2, h3⟩
  · obtain ⟨o, es, ep, ho, r⟩ := hm
    exact ⟨o, es, ep, k _ o (Ne.symm hL) ho, r⟩
  · refine (I.hok b u e).stay (fun c v hc q => k c v ?_ q) (fun _ q => q) fun _ _ q => q
    rcases hc with z | z
    · rw [z]; exact nit b u e
    · exact nit c _ z
theorem Inv.tok (I : Inv X pins σ H s) (t : Nat) : Inv X pins σ H { s with toks := t } := I.un (h' := s.heap) (t' := t) Un.refl I.hok
/-- all objects kept -/
theorem Inv.kept {t' : Nat} (I : Inv X pins σ H s) (k : ∀ b u, s.heap.get? b = some u → h'.get? b = some u) : Inv X pins σ H { s with heap := h', toks := t' } := I.un (Un.kept k) (I.hok.kept k)
/-- a new object laid and tracked -/
theorem Inv.laid {a : Addr} {o : HO} {t' : Nat} (I : Inv X pins σ H s) (k : ∀ b u, s.heap.get? b = some u → h'.get? b = some u) (hp : s.heap.objs.size ≤ a) (new : ObjOk X.prog X.w (upd H a o) h' a o) :
    Inv X pins σ (upd H a o) { s with heap := h', toks := t' } := I.un (Un.laid k hp (I.hok.fresh hp)) (I.hok.laid k hp new)
/-- an object written -/
theorem Inv.write {x e : Addr} {o : HO} {t' : Nat} (I : Inv X pins σ H s) (mu : Mut (H x)) (he : e = x ∨ H e = some (.own x)) (k : ∀ b u, b ≠ e → s.heap.get? b = some u → h'.get? b = some u) (heo : ∃ u, h'.get? e = some u)
    (new : ObjOk X.prog X.w (upd H x o) h' x o) : Inv X pins σ (upd H x o) { s with heap := h', toks := t' } := I.un (Un.write mu he k heo) (I.hok.write mu he k heo new)
/-- forgetting slots, pins -/
theorem Inv.weak {σ' : List (Option V)} (I : Inv X pins σ H s) (hl : σ'.length = σ.length) (w : ∀ (i : Nat) v, σ'[i]? = some (some v) → σ[i]? = some (some v)) : Inv X pins σ' H s :=
  ⟨I.ok, I.os, I.bare, I.base, let ⟨m, hn, hl'⟩ := I.loc; ⟨m, hn, fun i x v e1 e2 e3 => hl' i x v e1 (w i v e2) e3⟩, I.cell, I.free, I.freeC, I.pin, I.hok, hl.trans I.len⟩
theorem Inv.pins_of {pins' : List (Addr × Obj)} (I : Inv X pins σ H s) (h : ∀ p ∈ pins', s.heap.get? p.1 = some p.2 ∧ H p.1 = none ∧ p.1 ≠ X.env.locals ∧ p.1 ∉ X.fs ∧ ∀ v, p.2.data ≠ .cell v) : Inv X pins' σ H s :=
  ⟨I.ok, I.os, I.bare, I.base, I.loc, I.cell, I.free, I.freeC, fun p hp => (List.mem_append.mp hp).elim (fun z => I.pin p (List.mem_append_left _ z)) (h p), I.hok, I.len⟩

theorem nodup_ix {N : List Str} (hN : N.Nodup) {i j : Nat} {x : Str} (a : N[i]? = some x) (b : N[j]? = some x) : i = j := by
  obtain ⟨h1, e1⟩ := List.getElem?_eq_some_iff.mp a
  obtain ⟨h2, e2⟩ := List.getElem?_eq_some_iff.mp b
  exact (List.getElem_inj hN).mp (e1.trans e2.symm)

/-- a name is stored; what changed -/
theorem store_ok2 {M : Model} {A : Around} {E : Value → Shared → Prop} {i : Nat} {x : Str} {v : V} {u : Value} {Q : Unit → Shared → Prop} (I : Inv X pins σ H s) (hN : X.N.Nodup) (hi : X.N[i]? = some x) (hx : Loc X.env.scope x) (r : RelV v u)
    (h : ∀ s', Inv X pins (σ.set i (some v)) H s' → (∃ a, Heap.SameBut a s.heap s'.heap ∧ (a = X.env.locals ∨ X.env.cells.lookup x = some a)) → Q () s') (hf : X.fn x = true ∨ X.env.scope.names.lookup x = some .local := by first | exact .inl rfl | exact .inr rfl | assumption) : wpAny M A (storeName X.env x u) Q E s := by
  obtain ⟨m, hn, hl⟩ := id I.loc
  have hcls : (X.env.scope.kind == .class || (X.env.scope.kind == .module && X.env.locals != X.env.globals)) = false := by rw [I.ok.kind]; rfl
  have hiσ : i < σ.length := by rw [I.len]; exact (List.getElem?_eq_some_iff.mp hi).1
  have cne := I.cne
  have tracked : ∀ {a : Addr} {h' : Heap}, (∃ o, s.heap.get? a = some o ∧ H a = none) → Heap.SameBut a s.heap h' → HOk X.prog X.w H h' := fun {a h'} ha hs b ob e => by
    obtain ⟨_, _, hfree⟩ := ha
    refine (I.hok b ob e).stay (fun c w' hc q => (hs.2 c ?_).trans q) (fun _ q => q) fun _ _ q => q
    rintro rfl
    rcases hc with rfl | hc
    · rw [hfree] at e; cases e
    · rw [hfree] at hc; cases hc
  rcases hx with hk | hk
  · refine wpAny_storeName_local hk hn (fun h' hn' hs => ?_) hcls
    obtain ⟨oL, _, _, hoL, _⟩ := id hn
    refine h _ ⟨I.ok, I.os, I.bare, ⟨fun b o e n hb hx => ?_, fun b o e n hb hx => ?_, I.base.free, fun b o e hx => ?_, I.base.tups, I.base.frzs, I.base.tbls⟩, ⟨_, hn', fun j y v' e1 e2 e3 => ?_⟩, fun y c e => ?_, I.free, I.freeC, fun p hp => ?_, tracked ⟨oL, hoL, I.free⟩ hs, by simpa using I.len⟩ ⟨_, hs, .inl rfl⟩
    · exact (hs.2 b (Nat.ne_of_lt (Nat.lt_of_lt_of_le (Heap.lt_size e) I.ok.above))).trans (I.base.keep b o e n hb hx)
    · obtain ⟨sl, e1⟩ := I.base.slot b o e n hb hx
      exact ⟨sl, (hs.2 b (Nat.ne_of_lt (Nat.lt_of_lt_of_le (Heap.lt_size e) I.ok.above))).trans e1⟩
    · obtain ⟨o', e1⟩ := I.base.there b o e hx
      exact ⟨o', (hs.2 b (Nat.ne_of_lt (Nat.lt_of_lt_of_le (Heap.lt_size e) I.ok.above))).trans e1⟩
    · by_cases hj : j = i
      · subst hj
        rw [hi] at e1; cases e1
        rw [List.getElem?_set_self hiσ] at e2
        cases e2
        exact ⟨u, r, .inl ⟨hk, by simp⟩⟩
      · rw [List.getElem?_set_ne (Ne.symm hj)] at e2
        obtain ⟨u', r', q⟩ := hl j y v' e1 e2 e3
        refine ⟨u', r', ?_⟩
        rcases q with ⟨k, e⟩ | ⟨k, c, e, z⟩
        · refine .inl ⟨k, ?_⟩
          have : y ≠ x := fun e => hj (nodup_ix hN e1 (e ▸ hi))
          simp [this, e]
        · exact .inr ⟨k, c, e, z.sameBut hs (cne y c e)⟩
    · obtain ⟨w', z⟩ := I.cell y c e
      exact ⟨w', z.sameBut hs (cne y c e)⟩
    · obtain ⟨e, n, ne, nf, d⟩ := I.pin p hp
      exact ⟨(hs.2 p.1 ne).trans e, n, ne, nf, d⟩
  · have hfn : X.fn x = true := by
      rcases hf with z | z
      · exact z
      · rw [z] at hk; cases hk
    obtain ⟨c, hc⟩ := I.ok.has x (.inl hk)
    obtain ⟨w', z⟩ := I.cell x c hc
    refine wpAny_storeName_cell I.ok.kind hk hc z (fun h' hc' hs => ?_)
    obtain ⟨oc, hoc, hocd⟩ := id z
    refine h { s with heap := h' } ⟨I.ok, I.os, I.bare, ⟨fun b o e n hb hx => ?_, fun b o e n hb hx => ?_, I.base.free, fun b o e hx => ?_, I.base.tups, I.base.frzs, I.base.tbls⟩, ⟨m, hn.sameBut hs (Ne.symm (cne x c hc)), fun j y v' e1 e2 e3 => ?_⟩, fun y c' e => ?_, I.free, I.freeC, fun p hp => ?_, tracked ⟨oc, hoc, I.freeC x c hc⟩ hs, by simpa using I.len⟩ ⟨c, hs, .inr hc⟩
    · exact (hs.2 b (Nat.ne_of_lt (Nat.lt_of_lt_of_le (Heap.lt_size e) (I.ok.cab x c hfn hc)))).trans (I.base.keep b o e n hb hx)
    · obtain ⟨sl, e1⟩ := I.base.slot b o e n hb hx
      exact ⟨sl, (hs.2 b (Nat.ne_of_lt (Nat.lt_of_lt_of_le (Heap.lt_size e) (I.ok.cab x c hfn hc)))).trans e1⟩
    · obtain ⟨o', e1⟩ := I.base.there b o e hx
      exact ⟨o', (hs.2 b (Nat.ne_of_lt (Nat.lt_of_lt_of_le (Heap.lt_size e) (I.ok.cab x c hfn hc)))).trans e1⟩
    · by_cases hj : j = i
      · subst hj
        rw [hi] at e1; cases e1
        rw [List.getElem?_set_self hiσ] at e2
        cases e2
        exact ⟨u, r, .inr ⟨.inl hk, c, hc, hc'⟩⟩
      · rw [List.getElem?_set_ne (Ne.symm hj)] at e2
        obtain ⟨u', r', q⟩ := hl j y v' e1 e2 e3
        refine ⟨u', r', ?_⟩
        rcases q with q | ⟨k, c', e, z'⟩
        · exact .inl q
        · refine .inr ⟨k, c', e, z'.sameBut hs ?_⟩
          rintro rfl
          exact hj (nodup_ix hN e1 (I.ok.inj _ _ _ e hc ▸ hi))
    · by_cases hcc : c' = c
      · subst hcc; exact ⟨_, hc'⟩
      · obtain ⟨w2, z2⟩ := I.cell y c' e
        exact ⟨w2, z2.sameBut hs hcc⟩
    · obtain ⟨e, n, ne, nf, d⟩ := I.pin p hp
      refine ⟨(hs.2 p.1 ?_).trans e, n, ne, nf, d⟩
      intro q
      rw [q, hoc] at e
      have q' : oc = p.2 := Option.some.inj e
      exact d w' (by rw [← q']; exact hocd)
theorem store_ok {M : Model} {A : Around} {E : Value → Shared → Prop} {i : Nat} {x : Str} {v : V} {u : Value} {Q : Unit → Shared → Prop} (I : Inv X pins σ H s) (hN : X.N.Nodup) (hi : X.N[i]? = some x) (hx : Loc X.env.scope x) (r : RelV v u)
    (h : ∀ s', Inv X pins (σ.set i (some v)) H s' → Q () s') (hf : X.fn x = true ∨ X.env.scope.names.lookup x = some .local := by first | exact .inl rfl | exact .inr rfl | assumption) : wpAny M A (storeName X.env x u) Q E s :=
  store_ok2 I hN hi hx r (fun s' I' _ => h s' I') hf
/-- behind a call or a block, the state as it is -/
theorem Inv.call' {s' : Shared} {ch : List Addr} (I : Inv X pins σ H s) (ho : s'.os = s.os) (u : Un (frs X.stack) ch H H' s.heap s'.heap) (hok : HOk X.prog X.w H' s'.heap) (hg : AllBare s'.gens)
    (hch : ∀ b ∈ ch, (b ∈ X.ex ∨ X.s₀.heap.objs.size ≤ b) ∧ b ≠ X.env.locals ∧ (∀ x c, X.env.cells.lookup x = some c → c ≠ b) ∧ ∀ p ∈ X.pn ++ pins, p.1 ≠ b) : Inv X pins σ H' s' := by
  obtain ⟨h', g', d', t', o'⟩ := s'
  have e : o' = s.os := ho
  subst e
  exact I.call (g' := g') (t' := t') (d' := d') u hok hg hch
end

/-! ### the judgements -/
/-- an exception: its class, its own dict's address (where it has one), the abstract heap behind it -/
abbrev XK := Value → Option Addr → Hp → Prop
abbrev St := List (Option V)
abbrev VK := V → Hp → Prop
/-- an expression's reading; a test's; an argument list's -/
abbrev TE := St → Hp → VK → Prop
abbrev TT := St → Hp → (Bool → Hp → Prop) → Prop
abbrev TA := St → Hp → (List V → Hp → Prop) → Prop
/-- what is wanted behind a statement -/
structure Ends where
  nx : St → Hp → Prop
  rt : VK
  bk : St → Hp → Prop := fun _ _ => False
  ct : St → Hp → Prop := fun _ _ => False
abbrev TS := Ends → St → Hp → Prop

def EP (X : Cx) (pins : List (Addr × Obj)) (σ : St) (Q : VK) (u : Value) (s' : Shared) : Prop := ∃ v H', Inv X pins σ H' s' ∧ RelV v u ∧ Q v H'
def TP (X : Cx) (pins : List (Addr × Obj)) (σ : St) (Q : Bool → Hp → Prop) (b : Bool) (s' : Shared) : Prop := ∃ H', Inv X pins σ H' s' ∧ Q b H'
def AP (X : Cx) (pins : List (Addr × Obj)) (σ : St) (Q : List V → Hp → Prop) (us : List Value) (s' : Shared) : Prop := ∃ vs H', Inv X pins σ H' s' ∧ Vals vs us ∧ Q vs H'
def SP (X : Cx) (pins : List (Addr × Obj)) (D : Ends) (f : Flow) (s' : Shared) : Prop :=
  match f with
  | .next => ∃ σ' H', Inv X pins σ' H' s' ∧ D.nx σ' H'
  | .brk => ∃ σ' H', Inv X pins σ' H' s' ∧ D.bk σ' H'
  | .cont => ∃ σ' H', Inv X pins σ' H' s' ∧ D.ct σ' H'
  | .ret u => ∃ v σ' H', Inv X pins σ' H' s' ∧ RelV v u ∧ D.rt v H'

def PE (X : Cx) (e : Expr) (t : TE) : Prop :=
  ∀ (pins : List (Addr × Obj)) (s : Shared) (σ : St) (H : Hp) (Q : VK), Inv X pins σ H s → t σ H Q → wpAny (model X.prog X.w) X.A (eval e X.env) (EP X pins σ Q) X.xe s
def PT (X : Cx) (e : Expr) (t : TT) : Prop :=
  ∀ (pins : List (Addr × Obj)) (s : Shared) (σ : St) (H : Hp) (Q : Bool → Hp → Prop), Inv X pins σ H s → t σ H Q → wpAny (model X.prog X.w) X.A (isTrue e X.env (eval e X.env)) (TP X pins σ Q) X.xe s
/-- a test whatever its 'whole' is (and, or) -/
def PW (X : Cx) (e : Expr) (t : TT) : Prop :=
  ∀ (whole : Sem Value) (pins : List (Addr × Obj)) (s : Shared) (σ : St) (H : Hp) (Q : Bool → Hp → Prop), Inv X pins σ H s → t σ H Q → wpAny (model X.prog X.w) X.A (isTrue e X.env whole) (TP X pins σ Q) X.xe s
theorem PW.pt {X : Cx} {e : Expr} {t : TT} (h : PW X e t) : PT X e t := h _
/-- an argument list (no star), from the left -/
def PA (X : Cx) (es : List Expr) (t : TA) : Prop :=
  ∀ (pos : Pos) (pins : List (Addr × Obj)) (s : Shared) (σ : St) (H : Hp) (Q : List V → Hp → Prop), Inv X pins σ H s → t σ H Q → wpAny (model X.prog X.w) X.A (spliced (backTo pos (starEach es X.env))) (AP X pins σ Q) X.xe s
def PS (X : Cx) (st : Stmt) (t : TS) : Prop :=
  ∀ (pins : List (Addr × Obj)) (s : Shared) (σ : St) (H : Hp) (D : Ends), Inv X pins σ H s → t D σ H → wpAny (model X.prog X.w) X.A (exec st X.env) (SP X pins D) X.xe s
def PSs (X : Cx) (st : List Stmt) (t : TS) : Prop :=
  ∀ (pins : List (Addr × Obj)) (s : Shared) (σ : St) (H : Hp) (D : Ends), Inv X pins σ H s → t D σ H → wpAny (model X.prog X.w) X.A (execs st X.env) (SP X pins D) X.xe s
/-- weaken the end -/
theorem thn {α : Type} {t : Sem α} {Q Q' : α → Shared → Prop} {M : Model} {A : Around} {E : Value → Shared → Prop} {s : Shared} (h : wpAny M A t Q E s) (hQ : ∀ a s, Q a s → Q' a s) : wpAny M A t Q' E s := wpAny_mono h hQ fun _ _ x => x
end L2

namespace L2
open PySem PySem.Spec PyProof.Rows
section
variable {X : Cx}

/-- two expressions in a row -/
theorem bin {a b : Expr} {ta tb : TE} (ha : PE X a ta) (hb : PE X b tb) {pins : List (Addr × Obj)} {s : Shared} {σ : St} {H : Hp} {R : V → V → Hp → Prop} (I : Inv X pins σ H s) (h : ta σ H fun x H1 => tb σ H1 fun y H2 => R x y H2)
    {α : Type} {Q : α → Shared → Prop} {f : Value → Value → Sem α}
    (hf : ∀ v u s2 x y H2, Inv X pins σ H2 s2 → RelV x v → RelV y u → R x y H2 → wpAny (model X.prog X.w) X.A (f v u) Q X.xe s2) :
    wpAny (model X.prog X.w) X.A (eval a X.env) (fun v s₁ => wpAny (model X.prog X.w) X.A (eval b X.env) (fun u s₂ => wpAny (model X.prog X.w) X.A (f v u) Q X.xe s₂) X.xe s₁) X.xe s := by
  refine thn (ha pins s σ H _ I h) fun v s1 ⟨x, H1, I1, r1, q1⟩ => ?_
  refine thn (hb pins s1 σ H1 _ I1 q1) fun u s2 ⟨y, H2, I2, r2, q2⟩ => ?_
  exact hf v u s2 x y H2 I2 r1 r2 q2

/-! ### names and constants -/
def tVar (i : Nat) : TE := fun σ H Q => ∃ v, σ[i]? = some (some v) ∧ Q v H
def tC (v : V) : TE := fun _ H Q => Q v H
theorem pe_var {i : Nat} {x : Str} {pos : Pos} (hN : X.N[i]? = some x) (hv : Vis X.env.scope x) (hd : (x == ("__debug__" : Str)) = false := by decide) (hcd : (x == ("__classdict__" : Str)) = false := by decide) : PE X (.Name x pos) (tVar i) := by
  intro pins s σ H Q I h
  obtain ⟨v, e, h⟩ := h
  obtain ⟨m, hn, hl⟩ := I.loc
  obtain ⟨u, r, l⟩ := hl i x v hN e hv
  have fin : EP X pins σ Q u s := ⟨v, H, I, r, h⟩
  rcases l with ⟨hk, hm⟩ | ⟨hk, c, hc, hcell⟩
  · exact wpAny_Name (wpAny_loadName_local I.ok.kind hk hn hm fin) hd
  · rcases hk with hk | hk
    · exact wpAny_Name (wpAny_loadName_cell I.ok.kind hk hc hcell fin) hd
    · exact wpAny_Name (wpAny_loadName_free I.ok.kind hk hc hcell fin hcd) hd
theorem pe_int {i j pos} : PE X (.Constant (.int i) j pos) (tC (.int i)) := fun _ _ _ H _ I h => wpAny_Constant_int ⟨.int i, H, I.tok _, ⟨_, rfl⟩, h⟩
theorem pe_bl {b j pos} : PE X (.Constant (.bool b) j pos) (tC (.bl b)) := fun _ _ _ H _ I h => Constant_bool ⟨.bl b, H, I, rfl, h⟩
theorem pe_non {j pos} : PE X (.Constant .none j pos) (tC .non) := fun _ _ _ H _ I h => Constant_none ⟨.non, H, I, rfl, h⟩
theorem pe_str {x j pos} : PE X (.Constant (.str x) j pos) (tC (.str x)) := fun _ _ _ H _ I h => Calls.Constant_str ⟨.str x, H, I.tok _, ⟨_, rfl⟩, h⟩

/-- a global name of the def -/
def Gl (X : Cx) (x : Str) : Prop := X.env.kindOf x = some .globalImplicit
theorem ld_glob {E : Value → Shared → Prop} {pins : List (Addr × Obj)} {s : Shared} {σ : St} {H : Hp} {x : Str} {u : Value} {pos : Pos} {Q : Value → Shared → Prop} (I : Inv X pins σ H s) (hg : Gl X x) (hm : X.mg x = some u) (h : Q u s)
    (hd : (x == ("__debug__" : Str)) = false := by decide) : wpAny (model X.prog X.w) X.A (eval (.Name x pos) X.env) Q E s :=
  Calls.Name_function_global I.ok.kind hg (Calls.loadGlobal_global (by rw [I.ok.glob]; exact I.mod.glob.keeps I.bk) hm h) hd
theorem ld_blt {E : Value → Shared → Prop} {pins : List (Addr × Obj)} {s : Shared} {σ : St} {H : Hp} {x : Str} {u : Value} {pos : Pos} {Q : Value → Shared → Prop} (I : Inv X pins σ H s) (hg : Gl X x) (hm : X.mg x = none) (hv : bootBuiltins x = some u) (h : Q u s)
    (hn : x ≠ "__name__" := by decide) (hd : (x == ("__debug__" : Str)) = false := by decide) : wpAny (model X.prog X.w) X.A (eval (.Name x pos) X.env) Q E s := by
  obtain ⟨mb, h1, h2⟩ := I.mod.blt
  exact Calls.Name_function_global I.ok.kind hg (Calls.loadGlobal_builtin (by rw [I.ok.glob]; exact I.mod.glob.keeps I.bk) hm (by rw [I.ok.blt]; exact h1.keeps I.bk) ((h2 x hn).trans hv) h) hd
/-- a module's constant, a class, a function, as a value -/
theorem pe_glob {x : Str} {v : V} {u : Value} {pos : Pos} (hg : Gl X x) (hm : X.mg x = some u) (r : RelV v u) (hd : (x == ("__debug__" : Str)) = false := by decide) : PE X (.Name x pos) (tC v) :=
  fun _ _ _ H _ I h => ld_glob I hg hm ⟨v, H, I, r, h⟩ hd
theorem pe_bltn {x : Str} {v : V} {u : Value} {pos : Pos} (hg : Gl X x) (hm : X.mg x = none) (hv : bootBuiltins x = some u) (r : RelV v u) (hn : x ≠ "__name__" := by decide) (hd : (x == ("__debug__" : Str)) = false := by decide) : PE X (.Name x pos) (tC v) :=
  fun _ _ _ H _ I h => ld_blt I hg hm hv ⟨v, H, I, r, h⟩ hn hd

/-! ### arithmetic -/
/-- two ints -/
def t2I (ta tb : TE) (k : Int → Int → Hp → Prop) : St → Hp → Prop := fun σ H => ta σ H fun x H1 => tb σ H1 fun y H2 => ∃ i j, x = .int i ∧ y = .int j ∧ k i j H2
def tAdd (ta tb : TE) : TE := fun σ H Q => t2I ta tb (fun i j H2 => Q (.int (i + j)) H2) σ H
def tSub (ta tb : TE) : TE := fun σ H Q => t2I ta tb (fun i j H2 => Q (.int (i - j)) H2) σ H
/-- the left factor below 2^64 -/
def tMul (ta tb : TE) : TE := fun σ H Q => t2I ta tb (fun i j H2 => (-(2 ^ 64) < i ∧ i < 2 ^ 64) ∧ Q (.int (i * j)) H2) σ H
variable {a b : Expr} {ta tb : TE} {pos : Pos}
theorem pe_add (ha : PE X a ta) (hb : PE X b tb) : PE X (.BinOp a .Add b pos) (tAdd ta tb) := by
  intro pins s σ H Q I h
  refine wpAny_BinOp (bin ha hb I h fun v u s2 x y H2 I2 rx ry q => ?_)
  obtain ⟨i, j, rfl, rfl, q⟩ := q
  obtain ⟨t, rfl⟩ := rx
  obtain ⟨t', rfl⟩ := ry
  exact add_int ⟨.int _, H2, I2.tok _, ⟨_, rfl⟩, q⟩
theorem pe_sub (ha : PE X a ta) (hb : PE X b tb) : PE X (.BinOp a .Sub b pos) (tSub ta tb) := by
  intro pins s σ H Q I h
  refine wpAny_BinOp (bin ha hb I h fun v u s2 x y H2 I2 rx ry q => ?_)
  obtain ⟨i, j, rfl, rfl, q⟩ := q
  obtain ⟨t, rfl⟩ := rx
  obtain ⟨t', rfl⟩ := ry
  exact sub_int ⟨.int _, H2, I2.tok _, ⟨_, rfl⟩, q⟩
theorem pe_mul (ha : PE X a ta) (hb : PE X b tb) : PE X (.BinOp a .Mult b pos) (tMul ta tb) := by
  intro pins s σ H Q I h
  refine wpAny_BinOp (bin ha hb I h fun v u s2 x y H2 I2 rx ry q => ?_)
  obtain ⟨i, j, rfl, rfl, ⟨q1, q2⟩, q⟩ := q
  obtain ⟨t, rfl⟩ := rx
  obtain ⟨t', rfl⟩ := ry
  exact mul_int ⟨.int _, H2, I2.tok _, ⟨_, rfl⟩, q⟩ (.of_left (intBits_le_64 q1 q2))

/-! ### comparisons -/
def PC (X : Cx) (op : CmpOp) (a b : Expr) (t : TE) : Prop :=
  ∀ (pins : List (Addr × Obj)) (s : Shared) (σ : St) (H : Hp) (Q : VK), Inv X pins σ H s → t σ H Q →
    wpAny (model X.prog X.w) X.A (eval a X.env) (fun v s₁ => wpAny (model X.prog X.w) X.A (eval b X.env) (fun u s₂ => wpAny (model X.prog X.w) X.A (compareOp op v u) (EP X pins σ Q) X.xe s₂) X.xe s₁) X.xe s
theorem nobehind (b : Expr) {op : CmpOp} (h : op ≠ .In) (h2 : op ≠ .NotIn) : behindInMarks op b = false := by
  have e1 : (op == CmpOp.In) = false := by cases op <;> first | rfl | exact absurd rfl h
  have e2 : (op == CmpOp.NotIn) = false := by cases op <;> first | rfl | exact absurd rfl h2
  cases b <;> simp [behindInMarks, e1, e2]
def tCmp (p : Int → Int → Bool) (ta tb : TE) : TE := fun σ H Q => t2I ta tb (fun i j H2 => Q (.bl (p i j)) H2) σ H
abbrev tLt : TE → TE → TE := tCmp fun i j => decide (i < j)
abbrev tLe : TE → TE → TE := tCmp fun i j => decide (i ≤ j)
abbrev tGt : TE → TE → TE := tCmp fun i j => decide (j < i)
abbrev tGe : TE → TE → TE := tCmp fun i j => decide (j ≤ i)
abbrev tEqI : TE → TE → TE := tCmp fun i j => decide (i = j)
abbrev tNeI : TE → TE → TE := tCmp fun i j => !decide (i = j)
/-- a comparison of two ints, by its rule -/
theorem pc_int {op : CmpOp} {p : Int → Int → Bool} (ha : PE X a ta) (hb : PE X b tb)
    (rule : ∀ (i j : Int) (t u : Tok) (Q : Value → Shared → Prop) (s : Shared), Q (.bool (p i j)) s → wpAny (model X.prog X.w) X.A (compareOp op (.int i t) (.int j u)) Q X.xe s) : PC X op a b (tCmp p ta tb) := by
  intro pins s σ H Q I h
  refine bin ha hb I h fun v u s2 x y H2 I2 rx ry q => ?_
  obtain ⟨i, j, rfl, rfl, q⟩ := q
  obtain ⟨t, rfl⟩ := rx
  obtain ⟨t', rfl⟩ := ry
  exact rule i j t t' _ s2 ⟨.bl _, H2, I2, rfl, q⟩
theorem pc_lt (ha : PE X a ta) (hb : PE X b tb) : PC X .Lt a b (tLt ta tb) := pc_int ha hb fun _ _ _ _ _ _ h => lt_int h
theorem pc_le (ha : PE X a ta) (hb : PE X b tb) : PC X .LtE a b (tLe ta tb) := pc_int ha hb fun _ _ _ _ _ _ h => le_int h
theorem pc_gt (ha : PE X a ta) (hb : PE X b tb) : PC X .Gt a b (tGt ta tb) := pc_int ha hb fun _ _ _ _ _ _ h => gt_int h
theorem pc_ge (ha : PE X a ta) (hb : PE X b tb) : PC X .GtE a b (tGe ta tb) := pc_int ha hb fun _ _ _ _ _ _ h => ge_int h
theorem pc_eqI (ha : PE X a ta) (hb : PE X b tb) : PC X .Eq a b (tEqI ta tb) := pc_int ha hb fun _ _ _ _ _ _ h => eq_int (by rw [Bool.beq_eq_decide_eq]; exact h)
theorem pc_neI (ha : PE X a ta) (hb : PE X b tb) : PC X .NotEq a b (tNeI ta tb) := pc_int ha hb fun _ _ _ _ _ _ h => ne_int (by rw [bne, Bool.beq_eq_decide_eq]; exact h)
/-- is None -/
def tIsN (ta : TE) : TE := fun σ H Q => ta σ H fun x H1 => Q (.bl (decide (x = .non))) H1
def tNotN (ta : TE) : TE := fun σ H Q => ta σ H fun x H1 => Q (.bl (!decide (x = .non))) H1
theorem RelV.none_iff {x : V} {v : Value} (r : RelV x v) : (v == Value.none) = decide (x = .non) := by
  cases x with
  | non => cases r; rfl
  | bl _ => cases r; rfl
  | int _ => obtain ⟨t, rfl⟩ := r; rfl
  | str _ => obtain ⟨t, rfl⟩ := r; rfl
  | byt _ => obtain ⟨t, rfl⟩ := r; rfl
  | flt _ => obtain ⟨t, rfl⟩ := r; rfl
  | ref _ => cases r; rfl
  | ty _ => cases r; rfl
theorem pc_isN {j pos'} (ha : PE X a ta) : PC X .Is a (.Constant .none j pos') (tIsN ta) := by
  intro pins s σ H Q I h
  refine thn (ha pins s σ H _ I h) fun v s1 ⟨x, H1, I1, r1, q1⟩ => ?_
  exact Constant_none (is_none_gen ⟨.bl _, H1, I1, by rw [r1.none_iff]; rfl, q1⟩)
theorem pc_notN {j pos'} (ha : PE X a ta) : PC X .IsNot a (.Constant .none j pos') (tNotN ta) := by
  intro pins s σ H Q I h
  refine thn (ha pins s σ H _ I h) fun v s1 ⟨x, H1, I1, r1, q1⟩ => ?_
  exact Constant_none (isnot_none_gen ⟨.bl _, H1, I1, by rw [r1.none_iff]; rfl, q1⟩)
/-- a comparison as a value, as a test -/
def tB (t : TE) : TT := fun σ H Q => t σ H fun x H1 => ∃ c, x = .bl c ∧ Q c H1
theorem pe_cmp {op : CmpOp} {t : TE} (h : PC X op a b t) (h1 : behindInMarks op b = false := by first | exact nobehind _ (by decide) (by decide) | rfl) : PE X (.Compare a [op] [b] pos) t := fun pins s σ H Q I hw => wpAny_Compare1 (h pins s σ H Q I hw) h1
theorem pt_cmp {op : CmpOp} {t : TE} (h : PC X op a b t) (h1 : behindInMarks op b = false := by first | exact nobehind _ (by decide) (by decide) | rfl) : PT X (.Compare a [op] [b] pos) (tB t) := by
  intro pins s σ H Q I hw
  refine wpAny_isTrue_Compare1 (thn (h pins s σ H _ I hw) fun v s1 h1 => thn h1 fun u s2 h2 => thn h2 fun c s3 ⟨x, H1, I1, r1, q1⟩ => ?_) h1
  obtain ⟨d, rfl, q⟩ := q1
  cases r1
  exact wpAny_truthy_bool ⟨H1, I1, q⟩
/-- an expression whose value is a bool, as a test -/
theorem pt_val {e : Expr} {t : TE} (h : PE X e t) (he : ∀ whole, isTrue e X.env whole = (do let v ← whole; standAt e.pos; holding [v] (truthy v)) := by intro _; rfl) : PT X e (tB t) := by
  intro pins s σ H Q I hw
  refine isTrue_plain (thn (h pins s σ H _ I hw) fun v s1 ⟨x, H1, I1, r1, q1⟩ => ?_) (he _)
  obtain ⟨d, rfl, q⟩ := q1
  cases r1
  exact wpAny_truthy_bool ⟨H1, I1, q⟩

/-! ### and, or, not -/
variable {tA tB' : TT} {rest : List Expr}
def tAnd (t u : TT) : TT := fun σ H Q => t σ H fun c H1 => if c = true then u σ H1 Q else Q false H1
def tOr (t u : TT) : TT := fun σ H Q => t σ H fun c H1 => if c = true then Q true H1 else u σ H1 Q
def tNot (t : TT) : TT := fun σ H Q => t σ H fun c H1 => Q (!c) H1
theorem pw_and1 (ha : PT X a tA) : PW X (.BoolOp .And [a] pos) tA := by
  intro wh pins s σ H Q I h
  refine isTrue_and (thn (ha pins s σ H Q I h) fun c s1 e => ?_)
  cases c with
  | true => exact isTrue_and_nil e
  | false => exact e
theorem pw_or1 (ha : PT X a tA) : PW X (.BoolOp .Or [a] pos) tA := by
  intro wh pins s σ H Q I h
  refine isTrue_or (thn (ha pins s σ H Q I h) fun c s1 e => ?_)
  cases c with
  | false => exact isTrue_or_nil e
  | true => exact e
theorem pw_and (ha : PT X a tA) (hb : PW X (.BoolOp .And (b :: rest) pos) tB') : PW X (.BoolOp .And (a :: b :: rest) pos) (tAnd tA tB') := by
  intro wh pins s σ H Q I h
  refine isTrue_and (thn (ha pins s σ H _ I h) fun c s1 ⟨H1, I1, q1⟩ => ?_)
  cases c with
  | true => exact hb wh pins s1 σ H1 Q I1 q1
  | false => exact ⟨H1, I1, q1⟩
theorem pw_or (ha : PT X a tA) (hb : PW X (.BoolOp .Or (b :: rest) pos) tB') : PW X (.BoolOp .Or (a :: b :: rest) pos) (tOr tA tB') := by
  intro wh pins s σ H Q I h
  refine isTrue_or (thn (ha pins s σ H _ I h) fun c s1 ⟨H1, I1, q1⟩ => ?_)
  cases c with
  | true => exact ⟨H1, I1, q1⟩
  | false => exact hb wh pins s1 σ H1 Q I1 q1
theorem pt_not (ha : PT X a tA) : PT X (.UnaryOp .Not a pos) (tNot tA) := by
  intro pins s σ H Q I h
  exact isTrue_not (ha pins s σ H (fun c H1 => Q (!c) H1) I h)
/-- .. as values (bools) -/
def tAndV (ta tb : TE) : TE := fun σ H Q => ta σ H fun x H1 => ∃ c, x = .bl c ∧ if c = true then tb σ H1 Q else Q (.bl false) H1
def tOrV (ta tb : TE) : TE := fun σ H Q => ta σ H fun x H1 => ∃ c, x = .bl c ∧ if c = true then Q (.bl true) H1 else tb σ H1 Q
def tNotV (ta : TE) : TE := fun σ H Q => ta σ H fun x H1 => ∃ c, x = .bl c ∧ Q (.bl (!c)) H1
theorem pe_one {op} {t : TE} (h : PE X a t) : PE X (.BoolOp op [a] pos) t := fun pins s σ H Q I hw => BoolOp_one (h pins s σ H Q I hw)
theorem pe_and (ha : PE X a ta) (hb : PE X (.BoolOp .And (b :: rest) pos) tb) : PE X (.BoolOp .And (a :: b :: rest) pos) (tAndV ta tb) := by
  intro pins s σ H Q I h
  refine BoolOp_and (thn (ha pins s σ H _ I h) fun v s1 ⟨x, H1, I1, r1, q1⟩ => ?_)
  obtain ⟨c, rfl, q1⟩ := q1
  cases r1
  refine wpAny_truthy_bool ?_
  cases c with
  | true => exact hb pins s1 σ H1 Q I1 q1
  | false => exact ⟨.bl false, H1, I1, rfl, q1⟩
theorem pe_or (ha : PE X a ta) (hb : PE X (.BoolOp .Or (b :: rest) pos) tb) : PE X (.BoolOp .Or (a :: b :: rest) pos) (tOrV ta tb) := by
  intro pins s σ H Q I h
  refine BoolOp_or (thn (ha pins s σ H _ I h) fun v s1 ⟨x, H1, I1, r1, q1⟩ => ?_)
  obtain ⟨c, rfl, q1⟩ := q1
  cases r1
  refine wpAny_truthy_bool ?_
  cases c with
  | false => exact hb pins s1 σ H1 Q I1 q1
  | true => exact ⟨.bl true, H1, I1, rfl, q1⟩
theorem pe_not (ha : PE X a ta) : PE X (.UnaryOp .Not a pos) (tNotV ta) := by
  intro pins s σ H Q I h
  refine UnaryOp_ (thn (ha pins s σ H _ I h) fun v s1 ⟨x, H1, I1, r1, q1⟩ => ?_)
  obtain ⟨c, rfl, q1⟩ := q1
  cases r1
  exact not_of (wpAny_truthy_bool ⟨.bl (!c), H1, I1, rfl, q1⟩)
/-- a if t else b -/
def tIf (t : TT) (ta tb : TE) : TE := fun σ H Q => t σ H fun c H1 => if c = true then ta σ H1 Q else tb σ H1 Q
theorem pe_ifExp {c : Expr} (hc : PT X c tA) (ha : PE X a ta) (hb : PE X b tb) : PE X (.IfExp c a b pos) (tIf tA ta tb) := by
  intro pins s σ H Q I h
  refine wpAny_IfExp (thn (hc pins s σ H _ I h) fun d s1 ⟨H1, I1, q1⟩ => ?_)
  cases d with
  | true => exact ha pins s1 σ H1 Q I1 q1
  | false => exact hb pins s1 σ H1 Q I1 q1
end
end L2

namespace L2
open PySem PySem.Spec PyProof.Rows

/-! ### a list, a tuple that is read: tracked, frozen, or an object of the module -/
def SqL (K : PySem.W.Frag) (H : Hp) (a : Addr) (xs : List V) : Prop :=
  Rd H a (.lst xs) ∨
    ∃ (o : Obj) (its : Array Value) (n : Nat), K.lookup a = some o ∧ o.cls = .type "list" ∧ o.dict = none ∧ o.data = .seq its n ∧ its.size ≤ sizeLine ∧ Vals xs its.toList
def SqT (K : PySem.W.Frag) (H : Hp) (a : Addr) (xs : List V) : Prop :=
  Rd H a (.tup xs) ∨
    ∃ (o : Obj) (its : Array Value) (n : Nat), K.lookup a = some o ∧ o.cls = .type "tuple" ∧ o.data = .seq its n ∧ its.size ≤ sizeLine ∧ Vals xs its.toList
def absV : Value → Option V
  | .none => some .non
  | .bool b => some (.bl b)
  | .int i _ => some (.int i)
  | .str x _ => some (.str x)
  | .bytes b _ => some (.byt b)
  | .float b _ => some (.flt b)
  | .ref a => some (.ref a)
  | .type n => some (.ty n)
  | _ => none
theorem RelV.abs {x : V} {u : Value} (r : RelV x u) : absV u = some x := by
  cases x with
  | non => cases r; rfl
  | bl _ => cases r; rfl
  | int _ => obtain ⟨t, rfl⟩ := r; rfl
  | str _ => obtain ⟨t, rfl⟩ := r; rfl
  | byt _ => obtain ⟨t, rfl⟩ := r; rfl
  | flt _ => obtain ⟨t, rfl⟩ := r; rfl
  | ref _ => cases r; rfl
  | ty _ => cases r; rfl
theorem RelV.inj {x y : V} {u : Value} (r : RelV x u) (q : RelV y u) : x = y := Option.some.inj (r.abs.symm.trans q.abs)
theorem Vals.inj : ∀ {xs ys : List V} {us : List Value}, Vals xs us → Vals ys us → xs = ys
  | _, _, _, .nil, .nil => rfl
  | _, _, _, .cons r t, .cons r' t' => by rw [r.inj r', Vals.inj t t']
section
variable {X : Cx} {pins : List (Addr × Obj)} {σ : St} {H : Hp} {s : Shared} {a : Addr} {xs ys : List V}
theorem SqL.of {K : PySem.W.Frag} (h : H a = some (.lst xs)) : SqL K H a xs := .inl (.inl h)
theorem SqT.of {K : PySem.W.Frag} (h : H a = some (.tup xs)) : SqT K H a xs := .inl (.inl h)
theorem Inv.list (I : Inv X pins σ H s) (h : SqL X.K H a xs) : ∃ its : List Value, Vals xs its ∧ PlainL s.heap a its.toArray ∧ xs.length ≤ sizeLine := by
  rcases h with h | ⟨o, its, n, hk, hc, hd, hs, hz, r⟩
  · obtain ⟨z, its, n, r, e⟩ := h.ok I.hok
    exact ⟨its, r, ⟨_, n, e, rfl, rfl, rfl⟩, z⟩
  · refine ⟨its.toList, r, ⟨o, n, I.kIn a o hk, hc, hd, by simpa using hs⟩, ?_⟩
    have e := r.length
    simp only [Array.length_toList] at e
    omega
theorem Inv.tuple (I : Inv X pins σ H s) (h : SqT X.K H a xs) : ∃ its : List Value, Vals xs its ∧ IsTup s.heap a its.toArray ∧ xs.length ≤ sizeLine := by
  rcases h with h | ⟨o, its, n, hk, hc, hs, hz, r⟩
  · obtain ⟨z, its, r, p⟩ := h.ok I.hok
    exact ⟨its, r, p, z⟩
  · refine ⟨its.toList, r, ⟨o, I.kIn a o hk, hc, n, by simpa using hs⟩, ?_⟩
    have e := r.length
    simp only [Array.length_toList] at e
    omega
theorem Inv.list_inj (I : Inv X pins σ H s) (h : SqL X.K H a xs) (h' : SqL X.K H a ys) : xs = ys := by
  obtain ⟨its, r, ⟨o, n, e, _, _, d⟩, _⟩ := I.list h
  obtain ⟨its', r', ⟨o', n', e', _, _, d'⟩, _⟩ := I.list h'
  rw [e] at e'; cases e'
  rw [d] at d'
  injection d' with d1 _
  have : its = its' := by simpa using congrArg Array.toList d1
  subst this
  exact r.inj r'
theorem Inv.tuple_inj (I : Inv X pins σ H s) (h : SqT X.K H a xs) (h' : SqT X.K H a ys) : xs = ys := by
  obtain ⟨its, r, ⟨o, e, _, n, d⟩, _⟩ := I.tuple h
  obtain ⟨its', r', ⟨o', e', _, n', d'⟩, _⟩ := I.tuple h'
  rw [e] at e'; cases e'
  rw [d] at d'
  injection d' with d1 _
  have : its = its' := by simpa using congrArg Array.toList d1
  subst this
  exact r.inj r'
end

/-! ### another wish about exceptions -/
abbrev Cx.wish (X : Cx) (E : Value → Shared → Prop) : Cx := { X with xe := E }
/-- no exception leaves -/
abbrev Cx.nox (X : Cx) : Cx := X.wish fun _ _ => False
theorem Cx.Ok.wish {X : Cx} (ok : X.Ok) (E : Value → Shared → Prop) : (X.wish E).Ok :=
  ⟨ok.mod, ok.kind, ok.glob, ok.blt, ok.above, ok.inj, ok.has, ok.cab, ok.hd, ok.frames, ok.stk, ok.exf, ok.bs, ok.bsz, ok.noex, ok.exfs, ok.funs, ok.frf⟩
theorem Cx.Ok.unwish {X : Cx} {E : Value → Shared → Prop} (ok : (X.wish E).Ok) : X.Ok :=
  ⟨ok.mod, ok.kind, ok.glob, ok.blt, ok.above, ok.inj, ok.has, ok.cab, ok.hd, ok.frames, ok.stk, ok.exf, ok.bs, ok.bsz, ok.noex, ok.exfs, ok.funs, ok.frf⟩
section
variable {X : Cx} {pins : List (Addr × Obj)} {σ : St} {H : Hp} {s : Shared} {E : Value → Shared → Prop}
theorem Inv.wish (I : Inv X pins σ H s) (E : Value → Shared → Prop) : Inv (X.wish E) pins σ H s := ⟨I.ok.wish E, I.os, I.bare, I.base, I.loc, I.cell, I.free, I.freeC, I.pin, I.hok, I.len⟩
theorem Inv.unwish (I : Inv (X.wish E) pins σ H s) : Inv X pins σ H s := ⟨I.ok.unwish, I.os, I.bare, I.base, I.loc, I.cell, I.free, I.freeC, I.pin, I.hok, I.len⟩
theorem SP.unwish {D : Ends} {f : Flow} {s' : Shared} (h : SP (X.wish E) pins D f s') : SP X pins D f s' := by
  cases f with
  | next => obtain ⟨σ', H', I, q⟩ := h; exact ⟨σ', H', I.unwish, q⟩
  | brk => obtain ⟨σ', H', I, q⟩ := h; exact ⟨σ', H', I.unwish, q⟩
  | cont => obtain ⟨σ', H', I, q⟩ := h; exact ⟨σ', H', I.unwish, q⟩
  | ret u => obtain ⟨v, σ', H', I, r, q⟩ := h; exact ⟨v, σ', H', I.unwish, r, q⟩
theorem PE.nox {e : Expr} {t : TE} (h : PE X.nox e t) : PE X e t := fun pins s σ H Q I hw =>
  wpAny_mono (h pins s σ H Q (I.wish _) hw) (fun _ _ ⟨v, H', I', r, q⟩ => ⟨v, H', I'.unwish, r, q⟩) fun _ _ z => False.elim z
theorem PT.nox {e : Expr} {t : TT} (h : PT X.nox e t) : PT X e t := fun pins s σ H Q I hw =>
  wpAny_mono (h pins s σ H Q (I.wish _) hw) (fun _ _ ⟨H', I', q⟩ => ⟨H', I'.unwish, q⟩) fun _ _ z => False.elim z
theorem PSs.nox {st : List Stmt} {t : TS} (h : PSs X.nox st t) : PSs X st t := fun pins s σ H D I hw =>
  wpAny_mono (h pins s σ H D (I.wish _) hw) (fun _ _ q => q.unwish) fun _ _ z => False.elim z
end

/-! ### blocks and small statements -/
section
variable {X : Cx} {st : Stmt} {rest : List Stmt} {t u : TS} {e : Expr} {te : TE} {pos : Pos}
def tNext : TS := fun D σ H => D.nx σ H
def tSeq (t u : TS) : TS := fun D σ H => t { D with nx := u D } σ H
theorem pss_nil : PSs X [] tNext := fun _ _ σ H _ I h => wpAny_execs_nil ⟨σ, H, I, h⟩
theorem pss_cons (h1 : PS X st t) (h2 : PSs X rest u) : PSs X (st :: rest) (tSeq t u) := by
  intro pins s σ H D I h
  refine wpAny_execs_cons (thn (h1 pins s σ H { D with nx := u D } I h) fun f s1 q => ?_)
  cases f with
  | next =>
    obtain ⟨σ', H', I', q⟩ := q
    exact h2 pins s1 σ' H' D I' q
  | ret v => exact q
  | brk => exact q
  | cont => exact q
theorem pss_one (h1 : PS X st t) : PSs X [st] t := by
  intro pins s σ H D I h
  refine wpAny_execs_cons (thn (h1 pins s σ H D I h) fun f s1 q => ?_)
  cases f with
  | next => exact wpAny_execs_nil q
  | ret v => exact q
  | brk => exact q
  | cont => exact q
def tBreak : TS := fun D σ H => D.bk σ H
def tCont : TS := fun D σ H => D.ct σ H
theorem ps_pass : PS X (.Pass pos) tNext := fun _ _ σ H _ I h => wpAny_Pass ⟨σ, H, I, h⟩
theorem ps_break : PS X (.Break pos) tBreak := fun _ _ σ H _ I h => wpAny_Break ⟨σ, H, I, h⟩
theorem ps_continue : PS X (.Continue pos) tCont := fun _ _ σ H _ I h => wpAny_Continue ⟨σ, H, I, h⟩
/-- in a def's body nothing is shown -/
theorem Inv.quiet {pins : List (Addr × Obj)} {σ : St} {H : Hp} {s : Shared} (I : Inv X pins σ H s) : interactive X.env = false := by simp [interactive, I.ok.kind]
/-- a docstring -/
theorem ps_doc {x j pos pos'} : PS X (.Expr (.Constant (.str x) j pos) pos') tNext := fun _ s σ H _ I h => wpAny_Expr (Calls.Constant_str (show SP X _ _ .next { s with toks := s.toks + 1 } from ⟨σ, H, I.tok _, h⟩)) I.quiet
/-- an expression whose value is dropped -/
def tDrop (te : TE) : TS := fun D σ H => te σ H fun _ H1 => D.nx σ H1
theorem ps_expr (he : PE X e te) (hs : swapsWith e none pos.line X.env = pure false := by rfl) : PS X (.Expr e pos) (tDrop te) := by
  intro pins s σ H D I h
  exact wpAny_Expr_any (thn (he pins s σ H _ I h) fun v s1 ⟨x, H1, I1, r1, q1⟩ => ⟨σ, H1, I1, q1⟩) I.quiet hs
def tRet (te : TE) : TS := fun D σ H => te σ H D.rt
theorem ps_ret (he : PE X e te) : PS X (.Return (some e) pos) (tRet te) := by
  intro pins s σ H D I h
  exact wpAny_Return_some (thn (he pins s σ H _ I h) fun v s1 ⟨x, H1, I1, r1, q1⟩ => ⟨x, σ, H1, I1, r1, q1⟩)
def tRetN : TS := fun D _ H => D.rt .non H
theorem ps_retN : PS X (.Return none pos) tRetN := fun _ _ σ H _ I h => wpAny_Return_none ⟨.non, σ, H, I, rfl, h⟩
def tIfS (c : TT) (t u : TS) : TS := fun D σ H => c σ H fun b H1 => if b = true then t D σ H1 else u D σ H1
theorem ps_if {c : Expr} {a b : List Stmt} {tc : TT} (hc : PT X c tc) (ha : PSs X a t) (hb : PSs X b u) : PS X (.If c a b pos) (tIfS tc t u) := by
  intro pins s σ H D I h
  refine wpAny_If (thn (hc pins s σ H _ I h) fun d s1 ⟨H1, I1, q1⟩ => ?_)
  cases d with
  | true => exact ha pins s1 σ H1 D I1 q1
  | false => exact hb pins s1 σ H1 D I1 q1
/-- code that the proof never comes to -/
def tNever : TS := fun _ _ _ => False
theorem ps_never : PS X st tNever := fun _ _ _ _ _ _ h => h.elim
theorem pss_never {sts : List Stmt} : PSs X sts tNever := fun _ _ _ _ _ _ h => h.elim
end

/-! ### targets -/
abbrev TG := V → St → Hp → (St → Hp → Prop) → Prop
abbrev TGs := List V → St → Hp → (St → Hp → Prop) → Prop
def PG (X : Cx) (target : Expr) (t : TG) : Prop :=
  ∀ (pins : List (Addr × Obj)) (s : Shared) (σ : St) (H : Hp) (v : V) (u : Value) (Q : St → Hp → Prop), Inv X pins σ H s → RelV v u → t v σ H Q →
    wpAny (model X.prog X.w) X.A (assign target X.env u) (fun _ s' => ∃ σ' H', Inv X pins σ' H' s' ∧ Q σ' H') X.xe s
/-- several targets, one after another -/
def PGs (X : Cx) (ts : List Expr) (t : TGs) : Prop :=
  ∀ (pins : List (Addr × Obj)) (s : Shared) (σ : St) (H : Hp) (vs : List V) (us : List Value) (Q : St → Hp → Prop), Inv X pins σ H s → Vals vs us → t vs σ H Q →
    wpAny (model X.prog X.w) X.A (assignInOrder ((assignEach ts X.env).map (·.2)) us) (fun _ s' => ∃ σ' H', Inv X pins σ' H' s' ∧ Q σ' H') X.xe s
/-- o[i] = v, by values -/
abbrev TSet := V → V → V → Hp → (Hp → Prop) → Prop
def PSet (X : Cx) (t : TSet) : Prop :=
  ∀ (pins : List (Addr × Obj)) (s : Shared) (σ : St) (H : Hp) (o i v : V) (ov iv u : Value) (Q : Hp → Prop), Inv X pins σ H s → RelV o ov → RelV i iv → RelV v u → t o i v H Q →
    wpAny (model X.prog X.w) X.A (setItem ov iv u) (fun _ s' => ∃ H', Inv X pins σ H' s' ∧ Q H') X.xe s
/-- a op= b, by values -/
abbrev TIp := V → V → Hp → VK → Prop
def PIp (X : Cx) (op : Operator) (t : TIp) : Prop :=
  ∀ (pins : List (Addr × Obj)) (s : Shared) (σ : St) (H : Hp) (x y : V) (v u : Value) (Q : VK), Inv X pins σ H s → RelV x v → RelV y u → t x y H Q →
    wpAny (model X.prog X.w) X.A (inplaceOp op v u) (EP X pins σ Q) X.xe s
section
variable {X : Cx} {pos : Pos}
def gName (i : Nat) : TG := fun v σ H Q => Q (σ.set i (some v)) H
theorem pg_name {i : Nat} {x : Str} (hN : X.N.Nodup) (hi : X.N[i]? = some x) (hx : Loc X.env.scope x) (hf : X.fn x = true ∨ X.env.scope.names.lookup x = some .local := by first | exact .inl rfl | exact .inr rfl | assumption) : PG X (.Name x pos) (gName i) := by
  intro pins s σ H v u Q I r h
  exact wpAny_assign_Name (store_ok I hN hi hx r (fun s' I' => ⟨_, H, I', h⟩) hf)
def gNil : TGs := fun vs σ H Q => vs = [] ∧ Q σ H
def gCons (t : TG) (u : TGs) : TGs := fun vs σ H Q => ∃ v r, vs = v :: r ∧ t v σ H fun σ' H' => u r σ' H' Q
theorem pgs_nil : PGs X [] gNil := by
  intro pins s σ H vs us Q I r h
  obtain ⟨e, h⟩ := h
  subst e
  cases r
  exact assignInOrder_nil ⟨σ, H, I, h⟩
theorem pgs_cons {e : Expr} {es : List Expr} {t : TG} {u : TGs} (h1 : PG X e t) (h2 : PGs X es u)
    (hs : (assignEach (e :: es) X.env).map (·.2) = assign e X.env :: (assignEach es X.env).map (·.2) := by rfl) : PGs X (e :: es) (gCons t u) := by
  intro pins s σ H vs us Q I r h
  obtain ⟨v, vr, e1, h⟩ := h
  subst e1
  cases r with
  | cons r rr =>
    rw [hs]
    refine assignInOrder_cons (thn (h1 pins s σ H _ _ _ I r h) fun _ s1 ⟨σ1, H1, I1, q1⟩ => ?_)
    exact h2 pins s1 σ1 H1 _ _ Q I1 rr q1
/-- (a, b, ..) = a tuple of that length -/
def gTup (K : PySem.W.Frag) (n : Nat) (t : TGs) : TG := fun v σ H Q => ∃ a xs, v = .ref a ∧ SqT K H a xs ∧ xs.length = n ∧ t xs σ H Q
theorem pg_tup {es : List Expr} {k : Nat} {t : TGs} {n : Nat} (hc : X.calm = true) (h : PGs X es t)
    (hn : (assignEach es X.env).length = n := by rfl) (hst : (assignEach es X.env).findIdx? (·.1) = none := by rfl) : PG X (.Tuple es k pos) (gTup X.K n t) := by
  intro pins s σ H v u Q I r hw
  obtain ⟨a, xs, e1, hq, hl, hw⟩ := hw
  subst e1
  cases r
  obtain ⟨its, rv, ht, hz⟩ := I.tuple hq
  refine assign_Tuple_tuple (I.ok.hd hc) ht (by simp [hn, ← hl, rv.length]) hst fun h' hx => ?_
  have I1 : Inv X pins σ H { s with heap := h' } := I.kept (t' := s.toks) fun b o e => hx b o (Nat.ne_of_lt (Heap.lt_size e)) e
  exact h pins _ σ H xs _ Q I1 (by simpa using rv) hw
/-- o[i] = .. -/
def gSub (to ti : TE) (t : TSet) : TG := fun v σ H Q => to σ H fun o H1 => ti σ H1 fun i H2 => t o i v H2 fun H3 => Q σ H3
theorem pg_sub {o i : Expr} {to ti : TE} {t : TSet} (ho : PE X o to) (hi : PE X i ti) (hs : PSet X t)
    (ha : ∀ v, assign (.Subscript o i pos) X.env v = (do
      let ov ← holding [v] (eval o X.env)
      let iv ← holding [v, ov] (eval i X.env)
      standAt pos
      holding [v, ov, iv] (setItem ov iv v)
      release [v, ov, iv] []) := by intro _; rfl) : PG X (.Subscript o i pos) (gSub to ti t) := by
  intro pins s σ H v u Q I r h
  rw [ha]
  refine wpAny_bind (wpAny_holding (thn (ho pins s σ H _ I h) fun ov s1 ⟨x, H1, I1, r1, q1⟩ => ?_))
  refine wpAny_bind (wpAny_holding (thn (hi pins s1 σ H1 _ I1 q1) fun iv s2 ⟨y, H2, I2, r2, q2⟩ => ?_))
  refine wpAny_bind (wpAny_standAt (wpAny_bind (wpAny_holding (thn (hs pins s2 σ H2 x y v ov iv u _ I2 r1 r2 r q2) fun _ s3 ⟨H3, I3, q3⟩ => ?_))))
  exact wpAny_release ⟨σ, H3, I3, q3⟩
/-- target = value -/
def tAsg (te : TE) (g : TG) : TS := fun D σ H => te σ H fun x H1 => g x σ H1 D.nx
theorem ps_asg {tg e : Expr} {te : TE} {g : TG} (he : PE X e te) (hg : PG X tg g) (hs : swapsWithSole [tg] e pos.line X.env = pure false := by rfl) (hw : swappedStores [tg] e X.env = pure none := by rfl)
    (h1 : (assignEach [tg] X.env).map (·.2) = [assign tg X.env] := by rfl) : PS X (.Assign [tg] e pos) (tAsg te g) := by
  intro pins s σ H D I h
  refine wpAny_Assign_stores (thn (he pins s σ H _ I h) fun v s1 ⟨x, H1, I1, r1, q1⟩ => ?_) hs hw
  rw [h1]
  exact thn (hg pins s1 σ H1 x v _ I1 r1 q1) fun _ s2 q => q
/-- name = value -/
theorem ps_set {i : Nat} {x : Str} {e : Expr} {te : TE} {pos' : Pos} (hN : X.N.Nodup) (hi : X.N[i]? = some x) (hx : Loc X.env.scope x) (he : PE X e te) (hs : swapsWith e (some (.Name x pos')) pos.line X.env = pure false := by rfl) (hf : X.fn x = true ∨ X.env.scope.names.lookup x = some .local := by first | exact .inl rfl | exact .inr rfl | assumption) :
    PS X (.Assign [.Name x pos'] e pos) (tAsg te (gName i)) := by
  intro pins s σ H D I h
  refine wpAny_Assign_Name (thn (he pins s σ H _ I h) fun v s1 ⟨y, H1, I1, r1, q1⟩ => ?_) hs
  exact store_ok I1 hN hi hx r1 (fun s2 I2 => ⟨_, H1, I2, q1⟩) hf
/-- a, b = x, y with plain local names: stored from the right; the pair itself is not tracked (the opening rows as in PyProof/Rows/TupAssign.lean:23) -/
def tPar (i j : Nat) (ta : TA) : TS := fun D σ H => ta σ H fun vs H1 => ∃ v w, vs = [v, w] ∧ D.nx ((σ.set i (some v)).set j (some w)) H1
theorem ps_par {i j : Nat} {x y : Str} {a b : Expr} {ta : TA} {px py pt : Pos} {kt k2 pt2} (hc : X.calm = true) (hN : X.N.Nodup) (hi : X.N[i]? = some x) (hj : X.N[j]? = some y) (hij : i ≠ j)
    (hx : X.env.scope.names.lookup x = some .local) (hy : X.env.scope.names.lookup y = some .local) (ha : PA X [a, b] ta)
    (hw : swappedStores [.Tuple [.Name x px, .Name y py] kt pt] (.Tuple [a, b] k2 pt2) X.env = pure (some [x, y]))
    (hs : swapsWithSole [.Tuple [.Name x px, .Name y py] kt pt] (.Tuple [a, b] k2 pt2) pos.line X.env = pure false := by rfl) :
    PS X (.Assign [.Tuple [.Name x px, .Name y py] kt pt] (.Tuple [a, b] k2 pt2) pos) (tPar i j ta) := by
  intro pins s σ H D I h
  rw [exec_Assign_arm]
  refine wpAny_bind (wpAny_standAt ?_)
  rw [hs]
  refine wpAny_bind (wpAny_pure ?_)
  rw [if_neg (by decide)]
  refine wpAny_bind (Tuple_ (thn (ha _ pins s σ H _ I h) fun us s1 ⟨vs, H1, I1, r1, q1⟩ => ?_))
  obtain ⟨v, w, e1, q1⟩ := q1
  subst e1
  obtain ⟨u1, u2, rfl, rv, rw'⟩ : ∃ u1 u2, us = [u1, u2] ∧ RelV v u1 ∧ RelV w u2 := by
    cases r1 with
    | cons p q =>
      cases q with
      | cons p' q' =>
        cases q'
        exact ⟨_, _, rfl, p, p'⟩
  refine wpAny_newObj_type ?_ (by show 2 ≤ sizeLine; decide)
  have I2 : Inv X pins σ H1 { s1 with heap := s1.heap.push { cls := .type "tuple", data := .seq [u1, u2].toArray } } := I1.kept (t' := s1.toks) fun b o e => Heap.get?_push_of_some _ e
  rw [hw]
  refine wpAny_bind (wpAny_pure ?_)
  show wpAny (model X.prog X.w) X.A (do rule "assign.swapped-stores"; let items ← unpackItems (.ref s1.heap.objs.size) 2 none; assignInOrder [fun v => bindName X.env y v, fun v => bindName X.env x v] items.reverse; pure Flow.next) _ _ _
  refine wpAny_bind (wpAny_rule (wpAny_bind (unpackItems_tuple (items := #[u1, u2]) (I.ok.hd hc) (IsTup.new s1.heap _) fun h' hx' => ?_)))
  have I3 := I2.kept (h' := h') (t' := s1.toks) fun b o e => hx' b o (Nat.ne_of_lt (Heap.lt_size e)) e
  show wpAny _ _ (assignInOrder [fun v => bindName X.env y v, fun v => bindName X.env x v] [u2, u1] >>= fun _ => pure Flow.next) _ _ _
  refine wpAny_bind (assignInOrder_cons (wpAny_bindName (store_ok I3 hN hj (.inl hy) rw' (fun s2 I4 => ?_) (.inr hy))))
  refine assignInOrder_cons (wpAny_bindName (store_ok I4 hN hi (.inl hx) rv (fun s3 I5 => assignInOrder_nil (wpAny_pure ?_)) (.inr hx)))
  rw [List.set_comm _ _ (Ne.symm hij)] at I5
  exact ⟨_, H1, I5, q1⟩
/-- name op= e -/
def tAug (i : Nat) (te : TE) (ti : TIp) : TS := fun D σ H => ∃ x, σ[i]? = some (some x) ∧ te σ H fun y H1 => ti x y H1 fun z H2 => D.nx (σ.set i (some z)) H2
theorem ps_aug {i : Nat} {x : Str} {e : Expr} {te : TE} {op : Operator} {ti : TIp} {pos' : Pos} (hN : X.N.Nodup) (hi : X.N[i]? = some x) (hx : Loc X.env.scope x) (he : PE X e te) (ho : PIp X op ti) (hf : X.fn x = true ∨ X.env.scope.names.lookup x = some .local := by first | exact .inl rfl | exact .inr rfl | assumption) :
    PS X (.AugAssign (.Name x pos') op e pos) (tAug i te ti) := by
  intro pins s σ H D I h
  obtain ⟨v, e1, h⟩ := h
  obtain ⟨m, hn, hl⟩ := I.loc
  have vis : Vis X.env.scope x := by rcases hx with k | k; exact .inl k; exact .inr (.inl k)
  obtain ⟨u, r, l⟩ := hl i x v hi e1 vis
  refine wpAny_AugAssign_Name ?_
  have go : wpAny (model X.prog X.w) X.A (eval e X.env) (fun w s₂ => wpAny (model X.prog X.w) X.A (inplaceOp op u w) (fun r s₃ => wpAny (model X.prog X.w) X.A (storeName X.env x r) (fun _ => SP X pins D .next) X.xe s₃) X.xe s₂) X.xe s := by
    refine thn (he pins s σ H _ I h) fun w s1 ⟨y, H1, I1, r1, q1⟩ => ?_
    refine thn (ho pins s1 σ H1 v y u w _ I1 r r1 q1) fun z s2 ⟨zv, H2, I2, r2, q2⟩ => ?_
    exact store_ok I2 hN hi hx r2 (fun s3 I3 => ⟨_, H2, I3, q2⟩) hf
  rcases l with ⟨hk, hm⟩ | ⟨hk, c, hc, hcell⟩
  · exact wpAny_loadName_local I.ok.kind hk hn hm go
  · rcases hk with hk | hk
    · exact wpAny_loadName_cell I.ok.kind hk hc hcell go
    · rcases hx with k | k
      · have : X.env.scope.names.lookup x = some .free := hk
        rw [k] at this; cases this
      · have : X.env.scope.names.lookup x = some .free := hk
        rw [k] at this; cases this
/-- o[i] op= e -/
def tAugS (to ti te : TE) (tget : V → V → Hp → VK → Prop) (tip : TIp) (tset : TSet) : TS := fun D σ H => to σ H fun o H1 => ti σ H1 fun i H2 => tget o i H2 fun x H3 => te σ H3 fun y H4 => tip x y H4 fun z H5 => tset o i z H5 fun H6 => D.nx σ H6
/-- o[i], by values -/
def PGet (X : Cx) (t : V → V → Hp → VK → Prop) : Prop :=
  ∀ (pins : List (Addr × Obj)) (s : Shared) (σ : St) (H : Hp) (o i : V) (ov iv : Value) (Q : VK), Inv X pins σ H s → RelV o ov → RelV i iv → t o i H Q →
    wpAny (model X.prog X.w) X.A (getItem ov iv) (EP X pins σ Q) X.xe s
theorem ps_augS {o i e : Expr} {to ti te : TE} {tget : V → V → Hp → VK → Prop} {tip : TIp} {tset : TSet} {op : Operator} {tpos : Pos} (ho : PE X o to) (hi : PE X i ti) (hg : PGet X tget) (he : PE X e te) (hp : PIp X op tip) (hs : PSet X tset)
    (ha : ∀ ov iv new, augStore i ov iv new = (do holding [new, ov, iv] (setItem ov iv new); release [new, ov, iv] []; pure .next) := by intros; rfl) : PS X (.AugAssign (.Subscript o i tpos) op e pos) (tAugS to ti te tget tip tset) := by
  intro pins s σ H D I h
  refine wpAny_AugAssign_SubscriptAny (thn (ho pins s σ H _ I h) fun ov s1 ⟨x1, H1, I1, r1, q1⟩ => ?_) ha
  refine thn (hi pins s1 σ H1 _ I1 q1) fun iv s2 ⟨x2, H2, I2, r2, q2⟩ => ?_
  refine thn (hg pins s2 σ H2 x1 x2 ov iv _ I2 r1 r2 q2) fun old s3 ⟨x3, H3, I3, r3, q3⟩ => ?_
  refine thn (he pins s3 σ H3 _ I3 q3) fun v s4 ⟨x4, H4, I4, r4, q4⟩ => ?_
  refine thn (hp pins s4 σ H4 x3 x4 old v _ I4 r3 r4 q4) fun new s5 ⟨x5, H5, I5, r5, q5⟩ => ?_
  exact thn (hs pins s5 σ H5 x1 x2 x5 ov iv new _ I5 r1 r2 r5 q5) fun _ s6 ⟨H6, I6, q6⟩ => ⟨σ, H6, I6, q6⟩
/-- ints -/
def ipI (f : Int → Int → Int) : TIp := fun x y H Q => ∃ i j, x = .int i ∧ y = .int j ∧ Q (.int (f i j)) H
theorem ip_add : PIp X .Add (ipI fun i j => i + j) := by
  intro pins s σ H x y v u Q I r1 r2 h
  obtain ⟨i, j, e1, e2, q⟩ := h
  subst e1; subst e2
  obtain ⟨t, rfl⟩ := r1
  obtain ⟨t', rfl⟩ := r2
  exact iadd_int ⟨.int _, H, I.tok _, ⟨_, rfl⟩, q⟩
theorem ip_sub : PIp X .Sub (ipI fun i j => i - j) := by
  intro pins s σ H x y v u Q I r1 r2 h
  obtain ⟨i, j, e1, e2, q⟩ := h
  subst e1; subst e2
  obtain ⟨t, rfl⟩ := r1
  obtain ⟨t', rfl⟩ := r2
  exact isub_int ⟨.int _, H, I.tok _, ⟨_, rfl⟩, q⟩
end

/-! ### while -/
section
variable {X : Cx} {pos : Pos}
/-- the invariant W with its measure -/
def tWhile (c : TT) (tb : TS) : TS := fun D σ H => ∃ W : Nat → St → Hp → Prop, (∃ m, W m σ H) ∧ ∀ m σ H, W m σ H →
  c σ H fun b H1 => if b = true then ∃ N : St → Hp → Prop, (∀ σ' H', N σ' H' → ∃ m', m' < m ∧ W m' σ' H') ∧ tb { D with nx := N, ct := N, bk := D.nx } σ H1 else D.nx σ H1
theorem ps_while {c : Expr} {body : List Stmt} {tc : TT} {tb : TS} (hp : PassesOwn (model X.prog X.w) X.A X.env X.xe) (hc : PT X c tc) (hb : PSs X body tb) : PS X (.While c body [] pos) (tWhile tc tb) := by
  intro pins s σ H D I h
  obtain ⟨W, ⟨m0, w0⟩, turn⟩ := h
  refine wpAny_While (codeAny_whileLoop (fun n s' => ∃ σ' H', Inv X pins σ' H' s' ∧ W n σ' H') ?_ m0 ⟨σ, H, I, w0⟩)
  rintro n s1 ⟨σ1, H1, I1, w1⟩
  refine wpAny_passesOwn hp (thn (hc pins s1 σ1 H1 _ I1 (turn n σ1 H1 w1)) fun b s2 ⟨H2, I2, q2⟩ => ?_)
  cases b with
  | true =>
    obtain ⟨N, hN, q2⟩ := q2
    rw [if_pos rfl]
    refine wpAny_passesOwn hp (thn (hb pins s2 σ1 H2 _ I2 q2) fun f s3 q3 => ?_)
    cases f with
    | next =>
      obtain ⟨σ3, H3, I3, n3⟩ := q3
      obtain ⟨m', hm, w3⟩ := hN σ3 H3 n3
      exact ⟨m', hm, σ3, H3, I3, w3⟩
    | cont =>
      obtain ⟨σ3, H3, I3, n3⟩ := q3
      obtain ⟨m', hm, w3⟩ := hN σ3 H3 n3
      exact ⟨m', hm, σ3, H3, I3, w3⟩
    | brk => exact q3
    | ret v => exact q3
  | false =>
    rw [if_neg Bool.false_ne_true]
    exact wpAny_execs_nil ⟨σ1, H2, I2, q2⟩
end

/-! ### what a loop or a comprehension walks -/
/-- at turn i: it yields x (the heap may grow), or it stops -/
structure It where
  go : Nat → Hp → Prop
  yld : Nat → Hp → V → Hp → Prop
  stop : Nat → Hp → Prop
/-- the iterator's own objects may turn: they are not the frame's, not pinned, younger than the entry (or a comprehension's own) -/
def FpOk (X : Cx) (pins : List (Addr × Obj)) (H : Hp) (b : Addr) : Prop :=
  H b = none ∧ b ≠ X.env.locals ∧ b ∉ X.fs ∧ (b ∈ X.ex ∨ X.s₀.heap.objs.size ≤ b) ∧ (∀ x c, X.env.cells.lookup x = some c → c ≠ b) ∧ ∀ p ∈ X.pn ++ pins, p.1 ≠ b
theorem Inv.fpOk {X : Cx} {pins : List (Addr × Obj)} {σ : St} {H H' : Hp} {s : Shared} {b : Addr} (I : Inv X pins σ H s) (hb : s.heap.objs.size ≤ b) (hn : H' b = none) : FpOk X pins H' b := by
  refine ⟨hn, Nat.ne_of_gt (Nat.lt_of_lt_of_le I.lt hb), I.nofs hb, .inr (Nat.le_trans I.sz hb), fun x c e z => ?_, fun p hp z => ?_⟩
  · obtain ⟨v, q⟩ := I.cell x c e
    exact absurd (Nat.lt_of_lt_of_le q.lt (by rw [z]; exact hb)) (Nat.lt_irrefl _)
  · exact absurd (Nat.lt_of_lt_of_le (Heap.lt_size (I.pin p hp).1) (by rw [z]; exact hb)) (Nat.lt_irrefl _)
structure Turn (P : Program) (w : World) (K : PySem.W.Frag) (tg : Expr) (J : It) (fp : List Addr) (it : Addr) (tn : Nat → Heap → Prop) : Prop where
  mem : it ∈ fp
  obj : ∀ i h, tn i h → ∀ b ∈ fp, ∃ o, h.get? b = some o ∧ ∀ v, o.data ≠ .cell v
  keep : ∀ i h h', tn i h → (∀ b ∈ fp, ∀ o, h.get? b = some o → h'.get? b = some o) → tn i h'
  item : ∀ (X : Cx), X.prog = P → X.w = w → X.K = K → X.calm = true → ∀ (i : Nat) (pins : List (Addr × Obj)) (s : Shared) (σ : St) (H : Hp) (E : Value → Shared → Prop), Inv X pins σ H s → (∀ b ∈ fp, FpOk X pins H b) → tn i s.heap → J.go i H →
    wpAny (model P w) X.A (pyNext (.ref it)) (fun r s1 => ∃ u, r = some u ∧
      wpAny (model P w) X.A (letOwnedTupleGo tg (.ref it) u) (fun _ s2 => ∃ x H', Inv X pins σ H' s2 ∧ RelV x u ∧ J.yld i H x H' ∧ tn (i + 1) s2.heap ∧ ∀ b ∈ fp, H' b = none) E s1) E s
  done : ∀ (X : Cx), X.prog = P → X.w = w → X.K = K → X.calm = true → ∀ (i : Nat) (pins : List (Addr × Obj)) (s : Shared) (σ : St) (H : Hp) (E : Value → Shared → Prop), Inv X pins σ H s → (∀ b ∈ fp, FpOk X pins H b) → tn i s.heap → J.stop i H →
    wpAny (model P w) X.A (pyNext (.ref it)) (fun r s1 => r = none ∧ Inv X pins σ H s1) E s
  self : ∀ (A : Around) (i : Nat) (s : Shared) (Q : Value → Shared → Prop) (E : Value → Shared → Prop), tn i s.heap → Q (.ref it) s → wpAny (model P w) A (pyIter (.ref it)) Q E s
abbrev TI := St → Hp → (It → Hp → Prop) → Prop
/-- an iterator has come -/
def PIE (X : Cx) (pins : List (Addr × Obj)) (σ : St) (tg : Expr) (R : It → Hp → Prop) (itv : Value) (s2 : Shared) : Prop :=
  ∃ (it : Addr) (fp : List Addr) (tn : Nat → Heap → Prop) (J : It) (H' : Hp), itv = .ref it ∧ Inv X pins σ H' s2 ∧ Turn X.prog X.w X.K tg J fp it tn ∧ tn 0 s2.heap ∧ (∀ b ∈ fp, FpOk X pins H' b) ∧ R J H'
def PI (X : Cx) (tg iter : Expr) (wi : TI) : Prop :=
  ∀ (pins : List (Addr × Obj)) (s : Shared) (σ : St) (H : Hp) (R : It → Hp → Prop), Inv X pins σ H s → wi σ H R →
    wpAny (model X.prog X.w) X.A (eval iter X.env) (fun v s1 => wpAny (model X.prog X.w) X.A (pyIter v) (PIE X pins σ tg R) X.xe s1) X.xe s

/-- the step ahead of the store is nothing for an iterator that keeps no tuple -/
theorem go_of {M : Model} {A : Around} {E : Value → Shared → Prop} {s : Shared} {tg : Expr} {it : Addr} {u : Value} {o : Obj} {n : String} {vs : Array Value} {Q : Unit → Shared → Prop} (ho : s.heap.get? it = some o) (hc : o.cls = .type n) (hd : o.data = .fields vs)
    (hn : ["enumerate", "zip", "dict_itemiterator", "dict_reverseitemiterator", "odict_iterator", "itertools.zip_longest", "itertools.pairwise"].contains n = false) (hQ : Q () s) : wpAny M A (letOwnedTupleGo tg (.ref it) u) Q E s := by
  unfold letOwnedTupleGo
  cases tg <;> first
    | exact wpAny_pure hQ
    | (cases u <;> first
        | exact wpAny_pure hQ
        | (refine wpAny_bind (wpAny_load ho ?_)
           rw [hc, hd]
           show wpAny M A (if (["enumerate", "zip", "dict_itemiterator", "dict_reverseitemiterator", "odict_iterator", "itertools.zip_longest", "itertools.pairwise"].contains n && vs[0]? == some (rawInt _)) = true then _ else _) Q E s
           rw [if_neg (by intro h; rw [hn, Bool.false_and] at h; cases h)]
           exact wpAny_pure hQ))

/-- the list at a, as it stands at each turn (a loop may append to it) -/
def Itl (K : PySem.W.Frag) (a : Addr) : It :=
  ⟨fun i H => ∃ xs x, SqL K H a xs ∧ xs[i]? = some x, fun i H x H' => H' = H ∧ ∀ xs, SqL K H a xs → xs[i]? = some x, fun i H => ∃ xs, SqL K H a xs ∧ xs.length ≤ i⟩
def Itt (K : PySem.W.Frag) (a : Addr) : It :=
  ⟨fun i H => ∃ xs x, SqT K H a xs ∧ xs[i]? = some x, fun i H x H' => H' = H ∧ ∀ xs, SqT K H a xs → xs[i]? = some x, fun i H => ∃ xs, SqT K H a xs ∧ xs.length ≤ i⟩
/-- lo, lo + 1, .. (n of them) -/
def Itr (lo : Int) (n : Nat) : It := ⟨fun i _ => i < n, fun i H x H' => H' = H ∧ x = .int (lo + i), fun i _ => n ≤ i⟩
theorem turn_list {P : Program} {w : World} {K : PySem.W.Frag} {tg : Expr} (a it : Addr) : Turn P w K tg (Itl K a) [it] it (fun i h => h.IsListIter it a i) where
  mem := by simp
  obj := fun i h st b hb => by
    have e : b = it := by simpa using hb
    subst e
    obtain ⟨o, e, c, d⟩ := st
    exact ⟨o, e, fun v z => by rw [d] at z; cases z⟩
  keep := fun i h h' st k => st.at fun o e => k it (by simp) o e
  item := by
    intro X hP hw hK hc i pins s σ H E I hf st hg
    subst hP hw hK
    obtain ⟨xs, x, hq, hx⟩ := hg
    obtain ⟨its, rv, p, hz⟩ := I.list hq
    obtain ⟨u, hu, ru⟩ := rv.get hx
    obtain ⟨f0, f1, f2, f3, f4, f5⟩ := hf it (by simp)
    refine wpAny_pyNext_list_item st p.isList (x := u) (by simpa using hu) fun h' st' sb => ?_
    have I1 : Inv X pins σ H { s with heap := h' } := I.turned (t' := s.toks) (fun b o hb e => (sb.2 b hb).trans e) f0 f1 f3 f4 f5
    obtain ⟨o, e, c, d⟩ := id st'
    exact ⟨u, rfl, go_of (s := { s with heap := h' }) e c d (by decide) ⟨x, H, I1, ru, ⟨rfl, fun ys hy => by rw [I.list_inj hy hq]; exact hx⟩, st', fun b hb => (hf b hb).1⟩⟩
  done := by
    intro X hP hw hK hc i pins s σ H E I hf st hg
    subst hP hw hK
    obtain ⟨xs, hq, hx⟩ := hg
    obtain ⟨its, rv, p, hz⟩ := I.list hq
    obtain ⟨f0, f1, f2, f3, f4, f5⟩ := hf it (by simp)
    have hl := rv.length
    exact wpAny_pyNext_list_end (I.ok.hd hc) st p.isList (by simp; omega) fun h' eb => ⟨rfl, I.turned (t' := s.toks) (fun b o hb e => eb b o hb e) f0 f1 f3 f4 f5⟩
  self := fun _ _ _ _ _ st h => wpAny_pyIter_listiter st h
theorem turn_tuple {P : Program} {w : World} {K : PySem.W.Frag} {tg : Expr} (a it : Addr) : Turn P w K tg (Itt K a) [it] it (fun i h => h.IsTupleIter it a i) where
  mem := by simp
  obj := fun i h st b hb => by
    have e : b = it := by simpa using hb
    subst e
    obtain ⟨o, e, c, d⟩ := st
    exact ⟨o, e, fun v z => by rw [d] at z; cases z⟩
  keep := fun i h h' st k => st.at fun o e => k it (by simp) o e
  item := by
    intro X hP hw hK hc i pins s σ H E I hf st hg
    subst hP hw hK
    obtain ⟨xs, x, hq, hx⟩ := hg
    obtain ⟨its, rv, p, hz⟩ := I.tuple hq
    obtain ⟨u, hu, ru⟩ := rv.get hx
    obtain ⟨f0, f1, f2, f3, f4, f5⟩ := hf it (by simp)
    refine wpAny_pyNext_tuple_item st (show s.heap.IsTuple a its.toArray from p) (x := u) (by simpa using hu) fun h' st' sb => ?_
    have I1 : Inv X pins σ H { s with heap := h' } := I.turned (t' := s.toks) (fun b o hb e => (sb.2 b hb).trans e) f0 f1 f3 f4 f5
    obtain ⟨o, e, c, d⟩ := id st'
    exact ⟨u, rfl, go_of (s := { s with heap := h' }) e c d (by decide) ⟨x, H, I1, ru, ⟨rfl, fun ys hy => by rw [I.tuple_inj hy hq]; exact hx⟩, st', fun b hb => (hf b hb).1⟩⟩
  done := by
    intro X hP hw hK hc i pins s σ H E I hf st hg
    subst hP hw hK
    obtain ⟨xs, hq, hx⟩ := hg
    obtain ⟨its, rv, p, hz⟩ := I.tuple hq
    obtain ⟨f0, f1, f2, f3, f4, f5⟩ := hf it (by simp)
    have hl := rv.length
    exact wpAny_pyNext_tuple_end (I.ok.hd hc) st (show s.heap.IsTuple a its.toArray from p) (by simp; omega) fun h' eb => ⟨rfl, I.turned (t' := s.toks) (fun b o hb e => eb b o hb e) f0 f1 f3 f4 f5⟩
  self := fun _ _ _ _ _ st h => wpAny_pyIter_tupleiter st h
theorem turn_range {P : Program} {w : World} {K : PySem.W.Frag} {tg : Expr} (it : Addr) (lo : Int) (n : Nat) : Turn P w K tg (Itr lo n) [it] it (fun i h => IsRangeIter h it (lo + (i : Nat) * 1) ((n : Int) - (i : Nat)) 1) where
  mem := by simp
  obj := fun i h st b hb => by
    have e : b = it := by simpa using hb
    subst e
    exact ⟨_, st, fun v z => by
      have z' : Data.fields _ = Data.cell v := z
      cases z'⟩
  keep := fun i h h' st k => k it (by simp) _ st
  item := by
    intro X hP hw hK hc i pins s σ H E I hf st hg
    subst hP hw hK
    obtain ⟨f0, f1, f2, f3, f4, f5⟩ := hf it (by simp)
    have W := Walks.range (prog := X.prog) (w := X.w) (I.ok.hd hc) it lo 1 n
    refine W.item i s _ _ hg st fun v h' tk hv st' kk => ?_
    obtain ⟨t, rfl⟩ := hv
    have I1 : Inv X pins σ H { s with heap := h', toks := tk } := I.turned (fun b o hb e => kk b o (by simpa using hb) e) f0 f1 f3 f4 f5
    refine ⟨_, rfl, go_of (s := { s with heap := h', toks := tk }) (n := "range_iterator") st' rfl rfl (by decide) ⟨.int (lo + i), H, I1, ⟨t, ?_⟩, ⟨rfl, rfl⟩, st', fun b hb => (hf b hb).1⟩⟩
    rw [Int.mul_one]
  done := by
    intro X hP hw hK hc i pins s σ H E I hf st hg
    subst hP hw hK
    obtain ⟨f0, f1, f2, f3, f4, f5⟩ := hf it (by simp)
    exact wpAny_pyNext_range_end (I.ok.hd hc) st (by have : n ≤ i := hg; omega) fun h' eb => ⟨rfl, I.turned (t' := s.toks) (fun b o hb e => eb b o hb e) f0 f1 f3 f4 f5⟩
  self := fun _ _ _ _ _ st h => wpAny_pyIter_rangeiter st h
end L2

namespace L2
open PySem PySem.Spec PyProof.Rows
section
variable {X : Cx} {tg : Expr}
def iList (K : PySem.W.Frag) (tl : TE) : TI := fun σ H R => tl σ H fun x H1 => ∃ a, x = .ref a ∧ (∃ xs, SqL K H1 a xs) ∧ R (Itl K a) H1
def iTup (K : PySem.W.Frag) (tl : TE) : TI := fun σ H R => tl σ H fun x H1 => ∃ a, x = .ref a ∧ (∃ xs, SqT K H1 a xs) ∧ R (Itt K a) H1
theorem pi_list {l : Expr} {tl : TE} (hl : PE X l tl) : PI X tg l (iList X.K tl) := by
  intro pins s σ H R I h
  refine thn (hl pins s σ H _ I h) fun v s1 ⟨x, H1, I1, r1, q1⟩ => ?_
  obtain ⟨a, e, ⟨xs, hq⟩, q⟩ := q1
  subst e
  cases r1
  obtain ⟨its, rv, p, hz⟩ := I1.list hq
  refine wpAny_pyIter_list p.isList ?_
  refine ⟨s1.heap.objs.size, [s1.heap.objs.size], _, _, H1, rfl, I1.kept (t' := s1.toks) fun b o e => Heap.get?_push_of_some _ e, turn_list a _, ⟨_, Heap.get?_push_size _ rfl, rfl, rfl⟩, fun b hb => ?_, q⟩
  have e : b = s1.heap.objs.size := by simpa using hb
  subst e
  exact I1.fpOk (Nat.le_refl _) (I1.hok.fresh (Nat.le_refl _))
theorem pi_tup {l : Expr} {tl : TE} (hl : PE X l tl) : PI X tg l (iTup X.K tl) := by
  intro pins s σ H R I h
  refine thn (hl pins s σ H _ I h) fun v s1 ⟨x, H1, I1, r1, q1⟩ => ?_
  obtain ⟨a, e, ⟨xs, hq⟩, q⟩ := q1
  subst e
  cases r1
  obtain ⟨its, rv, p, hz⟩ := I1.tuple hq
  refine wpAny_pyIter_tuple (show s1.heap.IsTuple a its.toArray from p) ?_
  refine ⟨s1.heap.objs.size, [s1.heap.objs.size], _, _, H1, rfl, I1.kept (t' := s1.toks) fun b o e => Heap.get?_push_of_some _ e, turn_tuple a _, ⟨_, Heap.get?_push_size _ rfl, rfl, rfl⟩, fun b hb => ?_, q⟩
  have e : b = s1.heap.objs.size := by simpa using hb
  subst e
  exact I1.fpOk (Nat.le_refl _) (I1.hok.fresh (Nat.le_refl _))
/-- a range object just made, walked -/
theorem range_it {pins : List (Addr × Obj)} {σ : St} {H : Hp} {s : Shared} {R : It → Hp → Prop} {E : Value → Shared → Prop} {lo hi : Int} {t u v : Tok} {tk : Nat} (I : Inv X pins σ H s) (h1 : -(2 ^ 62) ≤ lo) (h2 : lo < 2 ^ 62) (h3 : -(2 ^ 62) ≤ hi) (h4 : hi < 2 ^ 62)
    (q : R (Itr lo (hi - lo).toNat) H) : wpAny (model X.prog X.w) X.A (pyIter (.ref s.heap.objs.size)) (PIE X pins σ tg R) E { s with heap := s.heap.push { cls := .type "range", data := .fields #[.int lo t, .int hi u, .int 1 v] }, toks := tk } := by
  refine wpAny_pyIter_range (IsRange.new ..) (small_one h1 h2 h3 h4) ?_
  have I1 : Inv X pins σ H { s with heap := s.heap.push { cls := .type "range", data := .fields #[.int lo t, .int hi u, .int 1 v] }, toks := tk } := I.kept fun b o e => Heap.get?_push_of_some _ e
  refine ⟨(s.heap.push { cls := .type "range", data := .fields #[.int lo t, .int hi u, .int 1 v] }).objs.size, [(s.heap.push { cls := .type "range", data := .fields #[.int lo t, .int hi u, .int 1 v] }).objs.size], _, _, H, rfl,
    I1.kept (t' := tk) fun b o e => Heap.get?_push_of_some _ e, turn_range _ lo (hi - lo).toNat, ?_, fun b hb => ?_, q⟩
  · have e1 : lo + ((0 : Nat) : Int) * 1 = lo := by simp
    have e2 : (((hi - lo).toNat : Nat) : Int) - ((0 : Nat) : Int) = Builtin.Range.rangeSize lo hi 1 := by rw [rangeSize_one]; split <;> omega
    show IsRangeIter _ _ (lo + ((0 : Nat) : Int) * 1) ((((hi - lo).toNat : Nat) : Int) - ((0 : Nat) : Int)) 1
    rw [e1, e2]
    exact Heap.get?_push_size _ rfl
  · have e : b = (s.heap.push { cls := .type "range", data := .fields #[.int lo t, .int hi u, .int 1 v] }).objs.size := by simpa using hb
    subst e
    exact I1.fpOk (Nat.le_refl _) (I1.hok.fresh (Nat.le_refl _))
def iRng1 (ta : TA) : TI := fun σ H R => ta σ H fun vs H1 => ∃ j : Int, vs = [.int j] ∧ -(2 ^ 62) ≤ j ∧ j < 2 ^ 62 ∧ R (Itr 0 j.toNat) H1
def iRng2 (ta : TA) : TI := fun σ H R => ta σ H fun vs H1 => ∃ i j : Int, vs = [.int i, .int j] ∧ (-(2 ^ 62) ≤ i ∧ i < 2 ^ 62 ∧ -(2 ^ 62) ≤ j ∧ j < 2 ^ 62) ∧ R (Itr i (j - i).toNat) H1
theorem pi_range1 {a : Expr} {ta : TA} {p pos : Pos} (hg : Gl X "range") (hm : X.mg "range" = none) (ha : PA X [a] ta) (hs : starEach [a] X.env = [(false, eval a X.env)] := by rfl) : PI X tg (.Call (.Name "range" p) [a] [] pos) (iRng1 ta) := by
  intro pins s σ H R I h
  refine Call_ (ld_blt I hg hm boot_range (PyProof.Rows.callWith_type1 (thn (ha pos pins s σ H _ I h) fun us s1 ⟨vs, H1, I1, r1, q1⟩ => ?_) hs rfl))
  obtain ⟨j, e, q1, q2, q⟩ := q1
  subst e
  cases r1 with
  | cons r rr =>
    cases rr
    obtain ⟨t, rfl⟩ := r
    exact call_range_1 (range_it I1 (by omega) (by omega) q1 q2 (by simpa using q))
theorem pi_range2 {a b : Expr} {ta : TA} {p pos : Pos} (hg : Gl X "range") (hm : X.mg "range" = none) (ha : PA X [a, b] ta) (hs : starEach [a, b] X.env = [(false, eval a X.env), (false, eval b X.env)] := by rfl) (hs2 : starEach [b] X.env = [(false, eval b X.env)] := by rfl) :
    PI X tg (.Call (.Name "range" p) [a, b] [] pos) (iRng2 ta) := by
  intro pins s σ H R I h
  refine Call_ (ld_blt I hg hm boot_range (PyProof.Rows.callWith_type1 (thn (ha pos pins s σ H _ I h) fun us s1 ⟨vs, H1, I1, r1, q1⟩ => ?_) (by rw [hs, hs2]) (by rw [hs2]; rfl)))
  obtain ⟨i, j, e, ⟨q1, q2, q3, q4⟩, q⟩ := q1
  subst e
  cases r1 with
  | cons r rr =>
    cases rr with
    | cons r' rr =>
      cases rr
      obtain ⟨t, rfl⟩ := r
      obtain ⟨t', rfl⟩ := r'
      exact call_range_2 (range_it I1 q1 q2 q3 q4 q)

/-! ### for -/
/-- W: the invariant by the turn and a measure; N: what the body is to reach -/
def tFor (wi : TI) (g : TG) (tb : TS) : TS := fun D σ H => wi σ H fun J H1 => ∃ W : Nat → Nat → St → Hp → Prop, (∃ m, W 0 m σ H1) ∧ ∀ i m σ H, W i m σ H →
  (J.stop i H ∧ D.nx σ H) ∨ (J.go i H ∧ ∃ N : St → Hp → Prop, (∀ σ' H', N σ' H' → ∃ m', m' < m ∧ W (i + 1) m' σ' H') ∧ ∀ x H', J.yld i H x H' → g x σ H' fun σ2 H2 => tb { D with nx := N, ct := N, bk := D.nx } σ2 H2)
/-- the records at fp as they stand -/
def pinsAt (fp : List Addr) (h : Heap) : List (Addr × Obj) := fp.filterMap fun b => (h.get? b).map fun o => (b, o)
theorem mem_pinsAt {fp : List Addr} {h : Heap} {b : Addr} {o : Obj} (hb : b ∈ fp) (e : h.get? b = some o) : (b, o) ∈ pinsAt fp h := List.mem_filterMap.mpr ⟨b, hb, by rw [e]; rfl⟩
theorem of_pinsAt {fp : List Addr} {h : Heap} {p : Addr × Obj} (hp : p ∈ pinsAt fp h) : p.1 ∈ fp ∧ h.get? p.1 = some p.2 := by
  obtain ⟨b, hb, e⟩ := List.mem_filterMap.mp hp
  cases q : h.get? b with
  | none => rw [q] at e; cases e
  | some o =>
    rw [q] at e
    have e' : (b, o) = p := Option.some.inj e
    subst e'
    exact ⟨hb, q⟩
theorem Inv.pinned {pins : List (Addr × Obj)} {σ : St} {H : Hp} {s : Shared} {fp : List Addr} (I : Inv X pins σ H s) (hf : ∀ b ∈ fp, FpOk X pins H b) (ho : ∀ b ∈ fp, ∃ o, s.heap.get? b = some o ∧ ∀ v, o.data ≠ .cell v) : Inv X (pins ++ pinsAt fp s.heap) σ H s :=
  I.pins_of fun p hp => (List.mem_append.mp hp).elim (fun z => I.pin p (List.mem_append_right _ z)) fun z => by
    obtain ⟨hb, e⟩ := of_pinsAt z
    obtain ⟨f0, f1, f2, _⟩ := hf p.1 hb
    obtain ⟨o, e', d⟩ := ho p.1 hb
    rw [e] at e'; cases e'
    exact ⟨e, f0, f1, f2, d⟩
theorem Inv.unpinned {pins pl : List (Addr × Obj)} {σ : St} {H : Hp} {s : Shared} (I : Inv X (pins ++ pl) σ H s) : Inv X pins σ H s := I.pins_of fun p hp => I.pin p (List.mem_append_right _ (List.mem_append_left _ hp))
theorem ps_for {iter : Expr} {body : List Stmt} {wi : TI} {g : TG} {tb : TS} {pos : Pos} (hp : PassesOwn (model X.prog X.w) X.A X.env X.xe) (hc : X.calm = true) (hi : PI X tg iter wi) (hg : PG X tg g) (hb : PSs X body tb)
    (hs : ∀ x, foldedSetIterable iter X.env x = pure x := by intro _; rfl) : PS X (.For tg iter body [] pos) (tFor wi g tb) := by
  intro pins s σ H D I h
  refine wpAny_For (thn (hi pins s σ H _ I h) fun v s1 h1 => thn h1 fun itv s2 h2 => ?_) hs
  obtain ⟨it, fp, tn, J, H2, e, I2, T, st2, f2, W, ⟨m0, w0⟩, turn⟩ := h2
  subst e
  -- what stays true of the iterator's objects through the loop
  have stat : ∀ {H' : Hp}, (∀ b ∈ fp, H' b = none) → ∀ b ∈ fp, FpOk X pins H' b := fun hn b hb => ⟨hn b hb, (f2 b hb).2⟩
  refine codeAny_forLoop_any (fun n s' => ∃ i σ' H', Inv X pins σ' H' s' ∧ tn i s'.heap ∧ (∀ b ∈ fp, H' b = none) ∧ W i n σ' H') ?_ m0 ⟨0, σ, H2, I2, st2, fun b hb => (f2 b hb).1, w0⟩
  rintro n s3 ⟨i, σ3, H3, I3, st3, fr3, w3⟩
  rcases turn i n σ3 H3 w3 with ⟨stop, qn⟩ | ⟨go, N, hN, step⟩
  · refine wpAny_passesOwn hp (thn (T.done X rfl rfl rfl hc i pins s3 σ3 H3 X.xe I3 (stat fr3) st3 stop) fun r s4 ⟨hr, I4⟩ => ?_)
    subst hr
    exact wpAny_execs_nil ⟨σ3, H3, I4, qn⟩
  · refine wpAny_passesOwn hp (thn (T.item X rfl rfl rfl hc i pins s3 σ3 H3 X.xe I3 (stat fr3) st3 go) fun r s4 ⟨u, hr, h4⟩ => ?_)
    subst hr
    refine wpAny_passesOwn hp (thn h4 fun _ s5 ⟨x, H5, I5, r5, y5, st5, fr5⟩ => ?_)
    have I5' := I5.pinned (stat fr5) (T.obj _ _ st5)
    refine wpAny_passesOwn hp (thn (hg _ s5 σ3 H5 x u _ I5' r5 (step x H5 y5)) fun _ s6 ⟨σ6, H6, I6, q6⟩ => ?_)
    refine wpAny_passesOwn hp (thn (hb _ s6 σ6 H6 _ I6 q6) fun f s7 q7 => ?_)
    have again : ∀ {σ7 : St} {H7 : Hp}, Inv X (pins ++ pinsAt fp s5.heap) σ7 H7 s7 → N σ7 H7 → ∃ m, m < n ∧ ∃ i σ' H', Inv X pins σ' H' s7 ∧ tn i s7.heap ∧ (∀ b ∈ fp, H' b = none) ∧ W i m σ' H' := fun {σ7 H7} I7 n7 => by
      obtain ⟨m', hm, w7⟩ := hN σ7 H7 n7
      refine ⟨m', hm, i + 1, σ7, H7, I7.unpinned, T.keep _ _ _ st5 fun b hb o e => (I7.pin (b, o) (List.mem_append_right _ (List.mem_append_right _ (mem_pinsAt hb e)))).1, fun b hb => ?_, w7⟩
      obtain ⟨o, e, d⟩ := T.obj _ _ st5 b hb
      exact (I7.pin (b, o) (List.mem_append_right _ (List.mem_append_right _ (mem_pinsAt hb e)))).2.1
    cases f with
    | next => obtain ⟨σ7, H7, I7, n7⟩ := q7; exact again I7 n7
    | cont => obtain ⟨σ7, H7, I7, n7⟩ := q7; exact again I7 n7
    | brk => obtain ⟨σ7, H7, I7, q7⟩ := q7; exact ⟨σ7, H7, I7.unpinned, q7⟩
    | ret v => obtain ⟨x7, σ7, H7, I7, r7, q7⟩ := q7; exact ⟨x7, σ7, H7, I7.unpinned, r7, q7⟩
end

/-! ### the forms one uses -/
/-- over a list that the body leaves as it is -/
theorem for_list {K : PySem.W.Frag} {a : Addr} {xs : List V} {g : TG} {tb : TS} {D : Ends} {σ : St} {H : Hp} (Pv : Nat → St → Hp → Prop) (h0 : Pv 0 σ H) (hl : ∀ i σ H, i ≤ xs.length → Pv i σ H → SqL K H a xs)
    (hs : ∀ i x σ H, xs[i]? = some x → Pv i σ H → g x σ H fun σ2 H2 => tb { D with nx := Pv (i + 1), ct := Pv (i + 1), bk := D.nx } σ2 H2) (hd : ∀ σ H, Pv xs.length σ H → D.nx σ H) :
    ∃ W : Nat → Nat → St → Hp → Prop, (∃ m, W 0 m σ H) ∧ ∀ i m σ H, W i m σ H →
      ((Itl K a).stop i H ∧ D.nx σ H) ∨ ((Itl K a).go i H ∧ ∃ N : St → Hp → Prop, (∀ σ' H', N σ' H' → ∃ m', m' < m ∧ W (i + 1) m' σ' H') ∧ ∀ x H', (Itl K a).yld i H x H' → g x σ H' fun σ2 H2 => tb { D with nx := N, ct := N, bk := D.nx } σ2 H2) := by
  refine ⟨fun i m σ H => m = xs.length - i ∧ i ≤ xs.length ∧ Pv i σ H, ⟨xs.length, by simp, Nat.zero_le _, h0⟩, ?_⟩
  rintro i m σ H ⟨rfl, hi, p⟩
  have q := hl i σ H hi p
  by_cases hlt : i < xs.length
  · refine .inr ⟨⟨xs, xs[i], q, by simp [hlt]⟩, Pv (i + 1), fun σ' H' p' => ⟨xs.length - (i + 1), by omega, rfl, hlt, p'⟩, fun x H' y => ?_⟩
    obtain ⟨e, y⟩ := y
    subst e
    exact hs i x σ _ (y xs q) p
  · have e : i = xs.length := by omega
    subst e
    exact .inl ⟨⟨xs, q, Nat.le_refl _⟩, hd σ H p⟩
theorem for_tup {K : PySem.W.Frag} {a : Addr} {xs : List V} {g : TG} {tb : TS} {D : Ends} {σ : St} {H : Hp} (Pv : Nat → St → Hp → Prop) (h0 : Pv 0 σ H) (hl : ∀ i σ H, i ≤ xs.length → Pv i σ H → SqT K H a xs)
    (hs : ∀ i x σ H, xs[i]? = some x → Pv i σ H → g x σ H fun σ2 H2 => tb { D with nx := Pv (i + 1), ct := Pv (i + 1), bk := D.nx } σ2 H2) (hd : ∀ σ H, Pv xs.length σ H → D.nx σ H) :
    ∃ W : Nat → Nat → St → Hp → Prop, (∃ m, W 0 m σ H) ∧ ∀ i m σ H, W i m σ H →
      ((Itt K a).stop i H ∧ D.nx σ H) ∨ ((Itt K a).go i H ∧ ∃ N : St → Hp → Prop, (∀ σ' H', N σ' H' → ∃ m', m' < m ∧ W (i + 1) m' σ' H') ∧ ∀ x H', (Itt K a).yld i H x H' → g x σ H' fun σ2 H2 => tb { D with nx := N, ct := N, bk := D.nx } σ2 H2) := by
  refine ⟨fun i m σ H => m = xs.length - i ∧ i ≤ xs.length ∧ Pv i σ H, ⟨xs.length, by simp, Nat.zero_le _, h0⟩, ?_⟩
  rintro i m σ H ⟨rfl, hi, p⟩
  have q := hl i σ H hi p
  by_cases hlt : i < xs.length
  · refine .inr ⟨⟨xs, xs[i], q, by simp [hlt]⟩, Pv (i + 1), fun σ' H' p' => ⟨xs.length - (i + 1), by omega, rfl, hlt, p'⟩, fun x H' y => ?_⟩
    obtain ⟨e, y⟩ := y
    subst e
    exact hs i x σ _ (y xs q) p
  · have e : i = xs.length := by omega
    subst e
    exact .inl ⟨⟨xs, q, Nat.le_refl _⟩, hd σ H p⟩
theorem for_range {lo : Int} {n : Nat} {g : TG} {tb : TS} {D : Ends} {σ : St} {H : Hp} (Pv : Nat → St → Hp → Prop) (h0 : Pv 0 σ H)
    (hs : ∀ i σ H, i < n → Pv i σ H → g (.int (lo + i)) σ H fun σ2 H2 => tb { D with nx := Pv (i + 1), ct := Pv (i + 1), bk := D.nx } σ2 H2) (hd : ∀ σ H, Pv n σ H → D.nx σ H) :
    ∃ W : Nat → Nat → St → Hp → Prop, (∃ m, W 0 m σ H) ∧ ∀ i m σ H, W i m σ H →
      ((Itr lo n).stop i H ∧ D.nx σ H) ∨ ((Itr lo n).go i H ∧ ∃ N : St → Hp → Prop, (∀ σ' H', N σ' H' → ∃ m', m' < m ∧ W (i + 1) m' σ' H') ∧ ∀ x H', (Itr lo n).yld i H x H' → g x σ H' fun σ2 H2 => tb { D with nx := N, ct := N, bk := D.nx } σ2 H2) := by
  refine ⟨fun i m σ H => m = n - i ∧ i ≤ n ∧ Pv i σ H, ⟨n, by simp, Nat.zero_le _, h0⟩, ?_⟩
  rintro i m σ H ⟨rfl, hi, p⟩
  by_cases hlt : i < n
  · refine .inr ⟨hlt, Pv (i + 1), fun σ' H' p' => ⟨n - (i + 1), by omega, rfl, hlt, p'⟩, fun x H' y => ?_⟩
    obtain ⟨e, y⟩ := y
    subst e y
    exact hs i σ _ hlt p
  · have e : i = n := by omega
    subst e
    exact .inl ⟨Nat.le_refl _, hd σ H p⟩
/-- while, by a word and a measure of the state -/
theorem while_by {c : TT} {tb : TS} {D : Ends} {σ : St} {H : Hp} (Pv : St → Hp → Prop) (μ : St → Hp → Nat) (h0 : Pv σ H)
    (hs : ∀ σ H, Pv σ H → c σ H fun b H1 => if b = true then tb { D with nx := fun σ' H' => Pv σ' H' ∧ μ σ' H' < μ σ H, ct := fun σ' H' => Pv σ' H' ∧ μ σ' H' < μ σ H, bk := D.nx } σ H1 else D.nx σ H1)
    (mono : ∀ σ H Q Q', (∀ b H1, Q b H1 → Q' b H1) → c σ H Q → c σ H Q') : tWhile c tb D σ H := by
  refine ⟨fun m σ H => m = μ σ H ∧ Pv σ H, ⟨_, rfl, h0⟩, ?_⟩
  rintro m σ H ⟨rfl, p⟩
  refine mono σ H _ _ (fun b H1 q => ?_) (hs σ H p)
  cases b with
  | true => exact ⟨_, fun σ' H' ⟨p', l⟩ => ⟨_, l, rfl, p'⟩, q⟩
  | false => exact q
end L2

namespace L2
open PySem PySem.Spec PyProof.Rows

abbrev R2 := V → V → Hp → VK → Prop
/-- a two-place operation on values: f is binaryOp op, inplaceOp op or compareOp op -/
def OpR (X : Cx) (f : Value → Value → Sem Value) (r : R2) : Prop :=
  ∀ (pins : List (Addr × Obj)) (s : Shared) (σ : St) (H : Hp) (x y : V) (v u : Value) (Q : VK), Inv X pins σ H s → RelV x v → RelV y u → r x y H Q →
    wpAny (model X.prog X.w) X.A (f v u) (EP X pins σ Q) X.xe s
/-- a one-place operation -/
def UnR (X : Cx) (f : Value → Sem Value) (r : V → Hp → VK → Prop) : Prop :=
  ∀ (pins : List (Addr × Obj)) (s : Shared) (σ : St) (H : Hp) (x : V) (v : Value) (Q : VK), Inv X pins σ H s → RelV x v → r x H Q →
    wpAny (model X.prog X.w) X.A (f v) (EP X pins σ Q) X.xe s
/-- a call of a value that is known (a builtin, a type) with values -/
def CallR (X : Cx) (f : Value) (r : List V → Hp → VK → Prop) : Prop :=
  ∀ (pins : List (Addr × Obj)) (s : Shared) (σ : St) (H : Hp) (xs : List V) (us : List Value) (Q : VK), Inv X pins σ H s → Vals xs us → r xs H Q →
    wpAny (model X.prog X.w) X.A (call f us) (EP X pins σ Q) X.xe s
/-- a value's truth -/
def TruR (X : Cx) (r : V → Hp → (Bool → Hp → Prop) → Prop) : Prop :=
  ∀ (pins : List (Addr × Obj)) (s : Shared) (σ : St) (H : Hp) (x : V) (v : Value) (Q : Bool → Hp → Prop), Inv X pins σ H s → RelV x v → r x H Q →
    wpAny (model X.prog X.w) X.A (truthy v) (TP X pins σ Q) X.xe s

def tOp (r : R2) (ta tb : TE) : TE := fun σ H Q => ta σ H fun x H1 => tb σ H1 fun y H2 => r x y H2 Q
def tUn (r : V → Hp → VK → Prop) (ta : TE) : TE := fun σ H Q => ta σ H fun x H1 => r x H1 Q
/-- ints in, under C, and a value out -/
def rI (C : Int → Int → Prop) (g : Int → Int → V) : R2 := fun x y H Q => ∃ i j, x = .int i ∧ y = .int j ∧ C i j ∧ Q (g i j) H
def rI0 (g : Int → Int → V) : R2 := fun x y H Q => ∃ i j, x = .int i ∧ y = .int j ∧ Q (g i j) H
def rU (g : Int → V) : V → Hp → VK → Prop := fun x H Q => ∃ i, x = .int i ∧ Q (g i) H

section
variable {X : Cx} {a b c : Expr} {ta tb tc : TE} {pos : Pos}

theorem binT (ha : PE X a ta) (hb : PE X b tb) {pins : List (Addr × Obj)} {s : Shared} {σ : St} {H : Hp} {R : V → V → Hp → Prop} (I : Inv X pins σ H s)
    (h : ta σ H fun x H1 => tb σ H1 fun y H2 => R x y H2) {Q : Value → Shared → Prop} {f : Value → Value → Sem Value}
    (hf : ∀ v u s2 x y H2, Inv X pins σ H2 s2 → RelV x v → RelV y u → R x y H2 → wpAny (model X.prog X.w) X.A (f v u) Q X.xe s2) :
    wpAny (model X.prog X.w) X.A (eval a X.env) (fun v s₁ => wpAny (model X.prog X.w) X.A (eval b X.env) (fun u s₂ => wpAny (model X.prog X.w) X.A (f v u) Q X.xe s₂) X.xe s₁) X.xe s := by
  refine thn (ha pins s σ H _ I h) fun v s1 ⟨x, H1, I1, r1, q1⟩ => ?_
  refine thn (hb pins s1 σ H1 _ I1 q1) fun u s2 ⟨y, H2, I2, r2, q2⟩ => ?_
  exact hf v u s2 x y H2 I2 r1 r2 q2

theorem pe_op {op : Operator} {r : R2} (ho : OpR X (binaryOp op) r) (ha : PE X a ta) (hb : PE X b tb) : PE X (.BinOp a op b pos) (tOp r ta tb) := by
  intro pins s σ H Q I h
  exact wpAny_BinOp (binT ha hb I h fun v u s2 x y H2 I2 rx ry q => ho pins s2 σ H2 x y v u Q I2 rx ry q)
theorem pe_un {op : UnaryOp} {r : V → Hp → VK → Prop} (ho : UnR X (unaryOp op) r) (ha : PE X a ta) : PE X (.UnaryOp op a pos) (tUn r ta) := by
  intro pins s σ H Q I h
  exact UnaryOp_ (thn (ha pins s σ H _ I h) fun v s1 ⟨x, H1, I1, r1, q1⟩ => ho pins s1 σ H1 x v Q I1 r1 q1)
/-- a op= e at a name: the name's slot i -/
theorem augR {op : Operator} {r : R2} (ho : OpR X (inplaceOp op) r) {pins : List (Addr × Obj)} {s : Shared} {σ : St} {H : Hp} {x y : V} {v u : Value} {Q : VK} (I : Inv X pins σ H s)
    (rx : RelV x v) (ry : RelV y u) (q : r x y H Q) : wpAny (model X.prog X.w) X.A (inplaceOp op v u) (EP X pins σ Q) X.xe s := ho pins s σ H x y v u Q I rx ry q

/-! ### ints -/
theorem opI {f : Value → Value → Sem Value} {C : Int → Int → Prop} {g : Int → Int → Int}
    (rule : ∀ (i j : Int) (t u : Tok) (s : Shared) (Q : Value → Shared → Prop) (E : Value → Shared → Prop), C i j → Q (.int (g i j) s.toks) { s with toks := s.toks + 1 } → wpAny (model X.prog X.w) X.A (f (.int i t) (.int j u)) Q E s) :
    OpR X f (rI C fun i j => .int (g i j)) := by
  intro pins s σ H x y v u Q I rx ry h
  obtain ⟨i, j, rfl, rfl, hc, q⟩ := h
  obtain ⟨t, rfl⟩ := rx
  obtain ⟨t', rfl⟩ := ry
  exact rule i j t t' s _ _ hc ⟨.int (g i j), H, I.tok _, ⟨_, rfl⟩, q⟩
theorem opI0 {f : Value → Value → Sem Value} {g : Int → Int → Int}
    (rule : ∀ (i j : Int) (t u : Tok) (s : Shared) (Q : Value → Shared → Prop) (E : Value → Shared → Prop), Q (.int (g i j) s.toks) { s with toks := s.toks + 1 } → wpAny (model X.prog X.w) X.A (f (.int i t) (.int j u)) Q E s) :
    OpR X f (rI0 fun i j => .int (g i j)) := by
  intro pins s σ H x y v u Q I rx ry h
  obtain ⟨i, j, rfl, rfl, q⟩ := h
  obtain ⟨t, rfl⟩ := rx
  obtain ⟨t', rfl⟩ := ry
  exact rule i j t t' s _ _ ⟨.int (g i j), H, I.tok _, ⟨_, rfl⟩, q⟩
theorem opB0 {f : Value → Value → Sem Value} {g : Int → Int → Bool}
    (rule : ∀ (i j : Int) (t u : Tok) (s : Shared) (Q : Value → Shared → Prop) (E : Value → Shared → Prop), Q (.bool (g i j)) s → wpAny (model X.prog X.w) X.A (f (.int i t) (.int j u)) Q E s) :
    OpR X f (rI0 fun i j => .bl (g i j)) := by
  intro pins s σ H x y v u Q I rx ry h
  obtain ⟨i, j, rfl, rfl, q⟩ := h
  obtain ⟨t, rfl⟩ := rx
  obtain ⟨t', rfl⟩ := ry
  exact rule i j t t' s _ _ ⟨.bl (g i j), H, I, rfl, q⟩

def CDiv (i j : Int) : Prop := 0 < j ∧ j < 1073741824
def CDivN (i j : Int) : Prop := j ≠ 0 ∧ j.natAbs < 1073741824
def CPow (i j : Int) : Prop := 0 ≤ j ∧ j ≤ 1000000 ∧ i.natAbs < 2 ^ 64
def CMul (i j : Int) : Prop := (-(2 ^ 64) < i ∧ i < 2 ^ 64) ∨ (-(2 ^ 64) < j ∧ j < 2 ^ 64)
theorem CMul.ok {i j : Int} (h : CMul i j) : IntMulOk i j := by
  rcases h with ⟨h1, h2⟩ | ⟨h1, h2⟩
  · exact .of_left (intBits_le_64 h1 h2)
  · exact .of_right (intBits_le_64 h1 h2)
theorem two_pow_nn (k : Nat) : (0 : Int) ≤ 2 ^ k := by
  rw [two_pow_cast]
  exact Int.natCast_nonneg _

theorem op_add : OpR X (binaryOp .Add) (rI0 fun i j => .int (i + j)) := opI0 fun _ _ _ _ _ _ _ q => add_int q
theorem op_sub : OpR X (binaryOp .Sub) (rI0 fun i j => .int (i - j)) := opI0 fun _ _ _ _ _ _ _ q => sub_int q
theorem op_mul : OpR X (binaryOp .Mult) (rI CMul fun i j => .int (i * j)) := opI fun _ _ _ _ _ _ _ hc q => mul_int q hc.ok
/-- // by a positive divisor -/
theorem op_fdiv : OpR X (binaryOp .FloorDiv) (rI CDiv fun i j => .int (i / j)) := opI fun i j _ _ _ _ _ hc q => by
  have h1 : (0 : Int) < j := hc.1
  have h2 : j < 1073741824 := hc.2
  exact floordiv_int (by omega) (by rw [Int.fdiv_eq_ediv_of_nonneg i (by omega)]; exact q) (.inl (PyProof.noPylong_small (by omega)))
theorem op_fdivN : OpR X (binaryOp .FloorDiv) (rI CDivN fun i j => .int (i.fdiv j)) := opI fun _ _ _ _ _ _ _ hc q => floordiv_int hc.1 q (.inl (PyProof.noPylong_small hc.2))
/-- % by a positive divisor of any size -/
theorem op_mod : OpR X (binaryOp .Mod) (rI (fun _ j => 0 < j) fun i j => .int (i % j)) := opI fun i j _ _ _ _ _ hc q => by
  have h1 : (0 : Int) < j := hc
  exact mod_int' (by omega) (by rw [Int.fmod_eq_emod_of_nonneg i (by omega)]; exact q)
theorem op_modN : OpR X (binaryOp .Mod) (rI (fun _ j => j ≠ 0) fun i j => .int (i.fmod j)) := opI fun _ _ _ _ _ _ _ hc q => mod_int' hc q
theorem op_pow : OpR X (binaryOp .Pow) (rI CPow fun i j => .int (i ^ j.toNat)) := opI fun _ _ _ _ _ _ _ hc q => pow_int_small hc.1 hc.2.1 hc.2.2 q
theorem op_shl : OpR X (binaryOp .LShift) (rI CPow fun i j => .int (i * 2 ^ j.toNat)) := opI fun _ _ _ _ _ _ _ hc q => lshift_int_small hc.1 hc.2.1 hc.2.2 q
theorem op_shr : OpR X (binaryOp .RShift) (rI (fun _ j => 0 ≤ j) fun i j => .int (i / 2 ^ j.toNat)) := opI fun i j _ _ _ _ _ hc q =>
  rshift_int hc (by rw [Int.fdiv_eq_ediv_of_nonneg i (two_pow_nn _)]; exact q)
theorem op_and : OpR X (binaryOp .BitAnd) (rI0 fun i j => .int (Builtin.bitAnd i j)) := opI0 fun _ _ _ _ _ _ _ q => and_int q
theorem op_or : OpR X (binaryOp .BitOr) (rI0 fun i j => .int (Builtin.bitOr i j)) := opI0 fun _ _ _ _ _ _ _ q => or_int q
theorem op_xor : OpR X (binaryOp .BitXor) (rI0 fun i j => .int (Builtin.bitXor i j)) := opI0 fun _ _ _ _ _ _ _ q => xor_int q

theorem iop_add : OpR X (inplaceOp .Add) (rI0 fun i j => .int (i + j)) := opI0 fun _ _ _ _ _ _ _ q => iadd_int q
theorem iop_sub : OpR X (inplaceOp .Sub) (rI0 fun i j => .int (i - j)) := opI0 fun _ _ _ _ _ _ _ q => isub_int q
theorem iop_mul : OpR X (inplaceOp .Mult) (rI CMul fun i j => .int (i * j)) := opI fun _ _ _ _ _ _ _ hc q => imul_int q hc.ok
theorem iop_fdiv : OpR X (inplaceOp .FloorDiv) (rI CDiv fun i j => .int (i / j)) := opI fun i j _ _ _ _ _ hc q => by
  have h1 : (0 : Int) < j := hc.1
  have h2 : j < 1073741824 := hc.2
  exact ifloordiv_int (by omega) (by rw [Int.fdiv_eq_ediv_of_nonneg i (by omega)]; exact q) (.inl (PyProof.noPylong_small (by omega)))
theorem iop_mod : OpR X (inplaceOp .Mod) (rI (fun _ j => 0 < j) fun i j => .int (i % j)) := opI fun i j _ _ _ _ _ hc q => by
  have h1 : (0 : Int) < j := hc
  exact imod_int (by omega) (by rw [Int.fmod_eq_emod_of_nonneg i (by omega)]; exact q)
theorem iop_shl : OpR X (inplaceOp .LShift) (rI CPow fun i j => .int (i * 2 ^ j.toNat)) := opI fun _ _ _ _ _ _ _ hc q => ilshift_int_small hc.1 hc.2.1 hc.2.2 q
theorem iop_shr : OpR X (inplaceOp .RShift) (rI (fun _ j => 0 ≤ j) fun i j => .int (i / 2 ^ j.toNat)) := opI fun i j _ _ _ _ _ hc q =>
  irshift_int hc (by rw [Int.fdiv_eq_ediv_of_nonneg i (two_pow_nn _)]; exact q)
theorem iop_and : OpR X (inplaceOp .BitAnd) (rI0 fun i j => .int (Builtin.bitAnd i j)) := opI0 fun _ _ _ _ _ _ _ q => iand_int q
theorem iop_or : OpR X (inplaceOp .BitOr) (rI0 fun i j => .int (Builtin.bitOr i j)) := opI0 fun _ _ _ _ _ _ _ q => ior_int q
theorem iop_xor : OpR X (inplaceOp .BitXor) (rI0 fun i j => .int (Builtin.bitXor i j)) := opI0 fun _ _ _ _ _ _ _ q => ixor_int q

theorem unI {f : Value → Sem Value} {g : Int → Int}
    (rule : ∀ (i : Int) (t : Tok) (s : Shared) (Q : Value → Shared → Prop) (E : Value → Shared → Prop), Q (.int (g i) s.toks) { s with toks := s.toks + 1 } → wpAny (model X.prog X.w) X.A (f (.int i t)) Q E s) :
    UnR X f (rU fun i => .int (g i)) := by
  intro pins s σ H x v Q I rx h
  obtain ⟨i, rfl, q⟩ := h
  obtain ⟨t, rfl⟩ := rx
  exact rule i t s _ _ ⟨.int (g i), H, I.tok _, ⟨_, rfl⟩, q⟩
theorem un_neg : UnR X (unaryOp .USub) (rU fun i => .int (-i)) := unI fun _ _ _ _ _ q => neg_int q
theorem un_inv : UnR X (unaryOp .Invert) (rU fun i => .int (Builtin.bitNot i)) := unI fun _ _ _ _ _ q => invert_int q

/-! ### bools among ints: n += (a < b) -/
theorem op_add_ib : OpR X (binaryOp .Add) (fun x y H Q => ∃ i k, x = .int i ∧ y = .bl k ∧ Q (.int (i + b2i k)) H) := by
  intro pins s σ H x y v u Q I rx ry h
  obtain ⟨i, k, rfl, rfl, q⟩ := h
  obtain ⟨t, rfl⟩ := rx
  cases ry
  exact add_int_bool ⟨.int (i + b2i k), H, I.tok _, ⟨_, rfl⟩, q⟩
end

/-! ### comparisons -/
/-- the scalars that == tells apart as data does -/
def scal : V → V → Bool
  | .non, .non => true | .non, .int _ => true | .int _, .non => true | .non, .bl _ => true | .bl _, .non => true | .non, .str _ => true | .str _, .non => true
  | .int _, .int _ => true | .bl _, .bl _ => true | .str _, .str _ => true | .byt _, .byt _ => true
  | .int _, .str _ => true | .str _, .int _ => true | .bl _, .str _ => true | .str _, .bl _ => true
  | _, _ => false
def rEq : R2 := fun x y H Q => scal x y = true ∧ Q (.bl (decide (x = y))) H
def rNe : R2 := fun x y H Q => scal x y = true ∧ Q (.bl (!decide (x = y))) H

theorem dec_int {i j : Int} : decide (V.int i = V.int j) = (i == j) := by
  rw [Bool.eq_iff_iff]
  simp
theorem dec_bl {i j : Bool} : decide (V.bl i = V.bl j) = (i == j) := by
  rw [Bool.eq_iff_iff]
  simp
theorem dec_str {i j : Str} : decide (V.str i = V.str j) = (i == j) := by
  rw [Bool.eq_iff_iff]
  simp
theorem dec_byt {i j : Array UInt8} : decide (V.byt i = V.byt j) = (i.toList == j.toList) := by
  rw [Bool.eq_iff_iff]
  cases i
  cases j
  simp

section
variable {X : Cx} {a b c : Expr} {ta tb tc : TE} {pos : Pos}
theorem fin_bl {pins : List (Addr × Obj)} {σ : St} {H : Hp} {s : Shared} {Q : VK} {k k' : Bool} (I : Inv X pins σ H s) (q : Q (.bl k) H) (e : k = k') : EP X pins σ Q (.bool k') s := by
  subst e
  exact ⟨.bl k, H, I, rfl, q⟩
theorem op_eq : OpR X (compareOp .Eq) rEq := by
  intro pins s σ H x y v u Q I rx ry h
  obtain ⟨hs, q⟩ := h
  cases x with
  | non =>
    cases rx
    cases y with
    | non => cases ry; exact PySem.EqNone.eq_none_none (fin_bl I q (by simp))
    | bl j => cases ry; exact PySem.EqNone.eq_none_bool (fin_bl I q (by simp))
    | int j => obtain ⟨t', rfl⟩ := ry; exact PySem.EqNone.eq_none_int (fin_bl I q (by simp))
    | str j => obtain ⟨t', rfl⟩ := ry; exact PySem.EqNone.eq_none_str (fin_bl I q (by simp))
    | _ => exact absurd (show false = true from hs) Bool.false_ne_true
  | bl i =>
    cases rx
    cases y with
    | non => cases ry; exact PySem.EqNone.eq_bool_none (fin_bl I q (by simp))
    | bl j => cases ry; exact eq_bool (fin_bl I q dec_bl)
    | str j => obtain ⟨t', rfl⟩ := ry; exact PySem.EqMixed.eq_bool_str (fin_bl I q (by simp))
    | _ => exact absurd (show false = true from hs) Bool.false_ne_true
  | int i =>
    obtain ⟨t, rfl⟩ := rx
    cases y with
    | non => cases ry; exact PySem.EqNone.eq_int_none (fin_bl I q (by simp))
    | int j => obtain ⟨t', rfl⟩ := ry; exact eq_int (fin_bl I q dec_int)
    | str j => obtain ⟨t', rfl⟩ := ry; exact PySem.EqMixed.eq_int_str (fin_bl I q (by simp))
    | _ => exact absurd (show false = true from hs) Bool.false_ne_true
  | str i =>
    obtain ⟨t, rfl⟩ := rx
    cases y with
    | non => cases ry; exact PySem.EqNone.eq_str_none (fin_bl I q (by simp))
    | bl j => cases ry; exact PySem.EqMixed.eq_str_bool (fin_bl I q (by simp))
    | int j => obtain ⟨t', rfl⟩ := ry; exact PySem.EqMixed.eq_str_int (fin_bl I q (by simp))
    | str j => obtain ⟨t', rfl⟩ := ry; exact eq_str (fin_bl I q dec_str)
    | _ => exact absurd (show false = true from hs) Bool.false_ne_true
  | byt i =>
    obtain ⟨t, rfl⟩ := rx
    cases y with
    | byt j => obtain ⟨t', rfl⟩ := ry; exact PySem.W.eq_bytes (fin_bl I q dec_byt)
    | _ => exact absurd (show false = true from hs) Bool.false_ne_true
  | _ => cases y <;> exact absurd (show false = true from hs) Bool.false_ne_true
theorem op_ne : OpR X (compareOp .NotEq) rNe := by
  intro pins s σ H x y v u Q I rx ry h
  obtain ⟨hs, q⟩ := h
  cases x with
  | non =>
    cases rx
    cases y with
    | non => cases ry; exact PySem.EqNone.ne_none_none (fin_bl I q (by simp))
    | bl j => cases ry; exact PySem.EqNone.ne_none_bool (fin_bl I q (by simp))
    | int j => obtain ⟨t', rfl⟩ := ry; exact PySem.EqNone.ne_none_int (fin_bl I q (by simp))
    | str j => obtain ⟨t', rfl⟩ := ry; exact PySem.EqNone.ne_none_str (fin_bl I q (by simp))
    | _ => exact absurd (show false = true from hs) Bool.false_ne_true
  | bl i =>
    cases rx
    cases y with
    | non => cases ry; exact PySem.EqNone.ne_bool_none (fin_bl I q (by simp))
    | bl j => cases ry; exact ne_bool (fin_bl I q (congrArg not dec_bl))
    | str j => obtain ⟨t', rfl⟩ := ry; exact PySem.EqMixed.ne_bool_str (fin_bl I q (by simp))
    | _ => exact absurd (show false = true from hs) Bool.false_ne_true
  | int i =>
    obtain ⟨t, rfl⟩ := rx
    cases y with
    | non => cases ry; exact PySem.EqNone.ne_int_none (fin_bl I q (by simp))
    | int j => obtain ⟨t', rfl⟩ := ry; exact ne_int (fin_bl I q (congrArg not dec_int))
    | str j => obtain ⟨t', rfl⟩ := ry; exact PySem.EqMixed.ne_int_str (fin_bl I q (by simp))
    | _ => exact absurd (show false = true from hs) Bool.false_ne_true
  | str i =>
    obtain ⟨t, rfl⟩ := rx
    cases y with
    | non => cases ry; exact PySem.EqNone.ne_str_none (fin_bl I q (by simp))
    | bl j => cases ry; exact PySem.EqMixed.ne_str_bool (fin_bl I q (by simp))
    | int j => obtain ⟨t', rfl⟩ := ry; exact PySem.EqMixed.ne_str_int (fin_bl I q (by simp))
    | str j => obtain ⟨t', rfl⟩ := ry; exact ne_str (fin_bl I q (congrArg not dec_str))
    | _ => exact absurd (show false = true from hs) Bool.false_ne_true
  | byt i =>
    obtain ⟨t, rfl⟩ := rx
    cases y with
    | byt j => obtain ⟨t', rfl⟩ := ry; exact PySem.W.ne_bytes (fin_bl I q (congrArg not dec_byt))
    | _ => exact absurd (show false = true from hs) Bool.false_ne_true
  | _ => cases y <;> exact absurd (show false = true from hs) Bool.false_ne_true

theorem op_lt : OpR X (compareOp .Lt) (rI0 fun i j => .bl (decide (i < j))) := opB0 fun _ _ _ _ _ _ _ q => lt_int q
theorem op_le : OpR X (compareOp .LtE) (rI0 fun i j => .bl (decide (i ≤ j))) := opB0 fun _ _ _ _ _ _ _ q => le_int q
theorem op_gt : OpR X (compareOp .Gt) (rI0 fun i j => .bl (decide (j < i))) := opB0 fun _ _ _ _ _ _ _ q => gt_int q
theorem op_ge : OpR X (compareOp .GtE) (rI0 fun i j => .bl (decide (j ≤ i))) := opB0 fun _ _ _ _ _ _ _ q => ge_int q
theorem op_lt_str : OpR X (compareOp .Lt) (fun x y H Q => ∃ i j, x = .str i ∧ y = .str j ∧ Q (.bl (decide (i.cps.toList < j.cps.toList))) H) := by
  intro pins s σ H x y v u Q I rx ry h
  obtain ⟨i, j, rfl, rfl, q⟩ := h
  obtain ⟨t, rfl⟩ := rx
  obtain ⟨t', rfl⟩ := ry
  exact lt_str (fin_bl I q rfl)
/-- the one string within the other -/
theorem op_in_str : OpR X (compareOp .In) (fun x y H Q => ∃ i j, x = .str i ∧ y = .str j ∧ Q (.bl (!(Builtin.Str.occurrences j i 0 j.length 1).isEmpty)) H) := by
  intro pins s σ H x y v u Q I rx ry h
  obtain ⟨i, j, rfl, rfl, q⟩ := h
  obtain ⟨t, rfl⟩ := rx
  obtain ⟨t', rfl⟩ := ry
  exact in_str (fin_bl I q rfl)

/-- is None, is not None: the right side a value none -/
theorem op_isN : OpR X (compareOp .Is) (fun x y H Q => y = .non ∧ Q (.bl (decide (x = .non))) H) := by
  intro pins s σ H x y v u Q I rx ry h
  obtain ⟨rfl, q⟩ := h
  cases ry
  refine is_none_gen (fin_bl I q ?_)
  cases x <;> first
    | (cases rx; rfl)
    | (obtain ⟨t, rfl⟩ := rx; rfl)
theorem op_notN : OpR X (compareOp .IsNot) (fun x y H Q => y = .non ∧ Q (.bl (!decide (x = .non))) H) := by
  intro pins s σ H x y v u Q I rx ry h
  obtain ⟨rfl, q⟩ := h
  cases ry
  refine isnot_none_gen (fin_bl I q ?_)
  cases x <;> first
    | (cases rx; rfl)
    | (obtain ⟨t, rfl⟩ := rx; rfl)

theorem op_notin_str : OpR X (compareOp .NotIn) (fun x y H Q => ∃ i j, x = .str i ∧ y = .str j ∧ Q (.bl (!(!(Builtin.Str.occurrences j i 0 j.length 1).isEmpty))) H) := by
  intro pins s σ H x y v u Q I rx ry h
  obtain ⟨i, j, rfl, rfl, q⟩ := h
  obtain ⟨t, rfl⟩ := rx
  obtain ⟨t', rfl⟩ := ry
  exact notIn_str (fin_bl I q rfl)
/-- is, is not of two objects that are tracked lists or instances -/
def isObj : HO → Bool
  | .lst _ => true
  | .ins _ _ _ => true
  | _ => false
theorem obj_there {pins : List (Addr × Obj)} {s : Shared} {σ : St} {H : Hp} {a : Addr} {o : HO} (I : Inv X pins σ H s) (h : H a = some o) (p : isObj o = true) : ∃ ob, s.heap.get? a = some ob ∧ ob.cls ≠ .type "tuple" := by
  cases o with
  | lst xs =>
    obtain ⟨_, its, n, _, e⟩ : xs.length ≤ sizeLine ∧ ∃ (its : List Value) (n : Nat), Vals xs its ∧ s.heap.get? a = some { cls := .type "list", data := .seq its.toArray n } := I.hok a _ h
    exact ⟨_, e, (by show Value.type "list" ≠ .type "tuple"; decide +kernel)⟩
  | ins C dx fs =>
    have x := I.hok a _ h
    obtain ⟨_, _, _, e, _⟩ := x
    exact ⟨_, e, (by show Value.ref C ≠ .type "tuple"; exact fun z => by cases z)⟩
  | _ => exact absurd (show false = true from p) Bool.false_ne_true
theorem op_is_ref : OpR X (compareOp .Is) (fun x y H Q => ∃ a b oa ob, x = .ref a ∧ y = .ref b ∧ H a = some oa ∧ isObj oa = true ∧ H b = some ob ∧ isObj ob = true ∧ Q (.bl (decide (a = b))) H) := by
  intro pins s σ H x y v u Q I rx ry h
  obtain ⟨a, b, oa, ob, rfl, rfl, ha, pa, hb, pb, q⟩ := h
  cases rx
  cases ry
  obtain ⟨o1, e1, n1⟩ := obj_there I ha pa
  obtain ⟨o2, e2, _⟩ := obj_there I hb pb
  by_cases z : a = b
  · subst z
    exact wpAny_is_ref_self (fin_bl I q (by simp))
  · exact wpAny_is_ref_other z e1 e2 n1 (fin_bl I q (by simp [z]))
theorem op_isnot_ref : OpR X (compareOp .IsNot) (fun x y H Q => ∃ a b oa ob, x = .ref a ∧ y = .ref b ∧ H a = some oa ∧ isObj oa = true ∧ H b = some ob ∧ isObj ob = true ∧ Q (.bl (!decide (a = b))) H) := by
  intro pins s σ H x y v u Q I rx ry h
  obtain ⟨a, b, oa, ob, rfl, rfl, ha, pa, hb, pb, q⟩ := h
  cases rx
  cases ry
  obtain ⟨o1, e1, n1⟩ := obj_there I ha pa
  obtain ⟨o2, e2, _⟩ := obj_there I hb pb
  by_cases z : a = b
  · subst z
    exact wpAny_isNot_ref_self (fin_bl I q (by simp))
  · exact wpAny_isNot_ref_other z e1 e2 n1 (fin_bl I q (by simp [z]))

/-- two rules for one operation: by cases -/
theorem OpR.or {f : Value → Value → Sem Value} {r r' : R2} (h : OpR X f r) (h' : OpR X f r') : OpR X f (fun x y H Q => r x y H Q ∨ r' x y H Q) := by
  intro pins s σ H x y v u Q I rx ry q
  rcases q with q | q
  · exact h pins s σ H x y v u Q I rx ry q
  · exact h' pins s σ H x y v u Q I rx ry q

theorem nomark (b : Expr) {op : CmpOp} (h : op ≠ .In := by decide) (h2 : op ≠ .NotIn := by decide) : behindInMarks op b = false := by
  have e1 : (op == CmpOp.In) = false := by cases op <;> first | rfl | exact absurd rfl h
  have e2 : (op == CmpOp.NotIn) = false := by cases op <;> first | rfl | exact absurd rfl h2
  cases b <;> simp [behindInMarks, e1, e2]
/-- a comparison as a value; hm: nomark b, or (for in, not in) by with_unfolding_all rfl -/
theorem pe_cmpR {op : CmpOp} {r : R2} (ho : OpR X (compareOp op) r) (ha : PE X a ta) (hb : PE X b tb) (hm : behindInMarks op b = false) : PE X (.Compare a [op] [b] pos) (tOp r ta tb) := by
  intro pins s σ H Q I h
  exact wpAny_Compare1 (binT ha hb I h fun v u s2 x y H2 I2 rx ry q => ho pins s2 σ H2 x y v u Q I2 rx ry q) hm
/-- a reading of a value as a test -/
def tTest (t : TE) : TT := fun σ H Q => t σ H fun x H' => ∃ k, x = .bl k ∧ Q k H'
theorem pt_cmpR {op : CmpOp} {r : R2} (ho : OpR X (compareOp op) r) (ha : PE X a ta) (hb : PE X b tb) (hm : behindInMarks op b = false) : PT X (.Compare a [op] [b] pos) (tTest (tOp r ta tb)) := by
  intro pins s σ H Q I h
  refine wpAny_isTrue_Compare1 (thn (ha pins s σ H _ I h) fun v s1 ⟨x, H1, I1, r1, q1⟩ => thn (hb pins s1 σ H1 _ I1 q1) fun u s2 ⟨y, H2, I2, r2, q2⟩ =>
    thn (ho pins s2 σ H2 x y v u _ I2 r1 r2 q2) fun c s3 ⟨z, H3, I3, r3, k, e, q3⟩ => ?_) hm
  subst e
  cases r3
  exact wpAny_truthy_bool ⟨H3, I3, q3⟩
/-- a op1 b op2 c -/
def tChain (r r' : R2) (ta tb tc : TE) : TE := fun σ H Q => ta σ H fun x H1 => tb σ H1 fun y H2 => r x y H2 fun z H3 => ∃ k, z = .bl k ∧
  (if k = true then tc σ H3 fun w' H4 => r' y w' H4 Q else Q (.bl false) H3)
theorem pe_chain {op op' : CmpOp} {r r' : R2} (ho : OpR X (compareOp op) r) (ho' : OpR X (compareOp op') r') (ha : PE X a ta) (hb : PE X b tb) (hc : PE X c tc)
    (hm : lastMarks [op, op'] [b, c] = false := by with_unfolding_all rfl) : PE X (.Compare a [op, op'] [b, c] pos) (tChain r r' ta tb tc) := by
  intro pins s σ H Q I h
  refine Compare_chain (thn (ha pins s σ H _ I h) fun v s1 ⟨x, H1, I1, r1, q1⟩ => chain_link (thn (hb pins s1 σ H1 _ I1 q1) fun u s2 ⟨y, H2, I2, r2, q2⟩ =>
    thn (ho pins s2 σ H2 x y v u _ I2 r1 r2 q2) fun d s3 ⟨z, H3, I3, r3, k, e, q3⟩ => ?_)) hm
  subst e
  cases r3
  refine wpAny_truthy_bool ?_
  cases k with
  | false => exact ite_ff ⟨.bl false, H3, I3, rfl, q3⟩
  | true => exact ite_tt (chain_last (thn (hc pins s3 σ H3 _ I3 q3) fun w' s4 ⟨z', H4, I4, r4, q4⟩ => ho' pins s4 σ H4 y z' u w' Q I4 r2 r4 q4))
theorem pt_chain {op op' : CmpOp} {r r' : R2} (ho : OpR X (compareOp op) r) (ho' : OpR X (compareOp op') r') (ha : PE X a ta) (hb : PE X b tb) (hc : PE X c tc)
    (hm : lastMarks [op, op'] [b, c] = false := by with_unfolding_all rfl) : PT X (.Compare a [op, op'] [b, c] pos) (tTest (tChain r r' ta tb tc)) := by
  intro pins s σ H Q I h
  refine isTrue_chain (thn (ha pins s σ H _ I h) fun v s1 ⟨x, H1, I1, r1, q1⟩ => test_link (thn (hb pins s1 σ H1 _ I1 q1) fun u s2 ⟨y, H2, I2, r2, q2⟩ =>
    thn (ho pins s2 σ H2 x y v u _ I2 r1 r2 q2) fun d s3 ⟨z, H3, I3, r3, k, e, q3⟩ => ?_)) hm
  subst e
  cases r3
  refine wpAny_truthy_bool ?_
  cases k with
  | false =>
    obtain ⟨k', e', q'⟩ := q3
    cases e'
    exact ite_ff ⟨H3, I3, q'⟩
  | true =>
    refine ite_tt (test_last (thn (hc pins s3 σ H3 _ I3 q3) fun w' s4 ⟨z', H4, I4, r4, q4⟩ => thn (ho' pins s4 σ H4 y z' u w' _ I4 r2 r4 q4) fun d' s5 ⟨z2, H5, I5, r5, k2, e2, q5⟩ => ?_))
    subst e2
    cases r5
    exact wpAny_truthy_bool ⟨H5, I5, q5⟩

/-! ### truth -/
/-- a value's truth by the abstract heap -/
def TruV (K : PySem.W.Frag) (x : V) (H : Hp) (k : Bool) : Prop :=
  match x with
  | .non => k = false
  | .bl b => k = b
  | .int i => k = (i != 0)
  | .str y => y.length ≤ sizeLine ∧ k = ((y.length : Int) != 0)
  | .byt y => y.size ≤ sizeLine ∧ k = ((y.size : Int) != 0)
  | .ref p => (∃ xs, SqL K H p xs ∧ k = !xs.isEmpty) ∨ (∃ xs, SqT K H p xs ∧ k = !xs.isEmpty) ∨ ∃ kvs, H p = some (.dK kvs) ∧ k = !kvs.isEmpty
  | _ => False
theorem isEmpty_kv {κ : Type} {kvs : List (κ × V)} {vs : List (κ × Value)} (r : KV kvs vs) : (!vs.isEmpty) = !kvs.isEmpty := by
  cases r <;> rfl
theorem isEmpty_of {xs : List V} {its : List Value} (r : Vals xs its) : (!its.toArray.isEmpty) = !xs.isEmpty := by
  cases r <;> simp
theorem line63 : (sizeLine : Nat) < 2 ^ 63 := by rw [sizeLine_eq]; decide
theorem tru_ok : TruR X (fun x H Q => ∃ k, TruV X.K x H k ∧ Q k H) := by
  intro pins s σ H x v Q I rx h
  obtain ⟨k, e, q⟩ := h
  have hl := line63
  have hs : sizeLine = 16777216 := sizeLine_eq
  cases x with
  | non =>
    cases rx
    have e' : k = false := e
    subst e'
    exact truthy_none ⟨H, I, q⟩
  | bl b =>
    cases rx
    have e' : k = b := e
    subst e'
    exact wpAny_truthy_bool ⟨H, I, q⟩
  | int i =>
    obtain ⟨t, rfl⟩ := rx
    have e' : k = (i != 0) := e
    subst e'
    exact PySem.P.truthy_int ⟨H, I, q⟩
  | str y =>
    obtain ⟨t, rfl⟩ := rx
    obtain ⟨hy, e'⟩ : y.length ≤ sizeLine ∧ k = ((y.length : Int) != 0) := e
    subst e'
    exact PySem.P.truthy_str (by omega) ⟨H, I.tok _, q⟩
  | byt y =>
    obtain ⟨t, rfl⟩ := rx
    obtain ⟨hy, e'⟩ : y.size ≤ sizeLine ∧ k = ((y.size : Int) != 0) := e
    subst e'
    exact PySem.W.truthy_bytes (by omega) ⟨H, I.tok _, q⟩
  | ref p =>
    cases rx
    have e' : (∃ xs, SqL X.K H p xs ∧ k = !xs.isEmpty) ∨ (∃ xs, SqT X.K H p xs ∧ k = !xs.isEmpty) ∨ ∃ kvs, H p = some (.dK kvs) ∧ k = !kvs.isEmpty := e
    rcases e' with ⟨xs, hx, e'⟩ | ⟨xs, hx, e'⟩ | ⟨kvs, hx, e'⟩
    · subst e'
      obtain ⟨its, r, pl, hz⟩ := I.list hx
      have hlen := r.length
      exact wpAny_truthy_list pl.isList (by simp only [List.size_toArray]; omega) ⟨H, I.tok _, by rw [isEmpty_of r]; exact q⟩
    · subst e'
      obtain ⟨its, r, pl, hz⟩ := I.tuple hx
      have hlen := r.length
      exact truthy_tuple pl (by simp only [List.size_toArray]; omega) ⟨H, I.tok _, by rw [isEmpty_of r]; exact q⟩
    · subst e'
      obtain ⟨hz, hS, vs, r, m⟩ : kvs.length ≤ sizeLine ∧ (p == sysModules) = false ∧ ∃ vs, KV kvs vs ∧ s.heap.DictOf (mixKind X.prog X.w) p vs := I.hok p _ hx
      have hlen : kvs.length = vs.length := Paired.length r
      exact wpAny_truthy_dict hS m (by omega) ⟨H, I.tok _, by rw [isEmpty_kv r]; exact q⟩
  | _ => exact (show False from e).elim
/-- any expression whose test is its value's truth (a name, a call, a subscript, a field ..: he by fun _ => rfl) -/
theorem pt_truth (ha : PE X a ta) (he : ∀ whole, isTrue a X.env whole = (do let v ← whole; standAt a.pos; holding [v] (truthy v))) :
    PT X a (fun σ H Q => ta σ H fun x H' => ∃ k, TruV X.K x H' k ∧ Q k H') := by
  intro pins s σ H Q I h
  exact isTrue_plain (thn (ha pins s σ H _ I h) fun v s1 ⟨x, H1, I1, r1, q1⟩ => tru_ok pins s1 σ H1 x v Q I1 r1 q1) (he _)

/-! ### strs and bytes -/
theorem pe_byt {x : List UInt8} {k : Nat} : PE X (.Constant (.bytes x) k pos) (fun _ H Q => Q (.byt x.toArray) H) := fun _ _ _ H _ I h => PySem.W.Constant_bytes ⟨.byt x.toArray, H, I.tok _, ⟨_, rfl⟩, h⟩
theorem op_add_str : OpR X (binaryOp .Add) (fun x y H Q => ∃ i j, x = .str i ∧ y = .str j ∧ i.length + j.length ≤ sizeLine ∧ Q (.str (i ++ j)) H) := by
  intro pins s σ H x y v u Q I rx ry h
  obtain ⟨i, j, rfl, rfl, hz, q⟩ := h
  obtain ⟨t, rfl⟩ := rx
  obtain ⟨t', rfl⟩ := ry
  exact add_str (fun t' tk => ⟨.str (i ++ j), H, I.tok _, ⟨_, rfl⟩, q⟩) hz
theorem iop_add_str : OpR X (inplaceOp .Add) (fun x y H Q => ∃ i j, x = .str i ∧ y = .str j ∧ i.length + j.length ≤ sizeLine ∧ Q (.str (i ++ j)) H) := by
  intro pins s σ H x y v u Q I rx ry h
  obtain ⟨i, j, rfl, rfl, hz, q⟩ := h
  obtain ⟨t, rfl⟩ := rx
  obtain ⟨t', rfl⟩ := ry
  exact iadd_str (fun t' tk => ⟨.str (i ++ j), H, I.tok _, ⟨_, rfl⟩, q⟩) hz
theorem op_add_byt : OpR X (binaryOp .Add) (fun x y H Q => ∃ i j, x = .byt i ∧ y = .byt j ∧ i.size + j.size ≤ 16777216 ∧ Q (.byt (i ++ j)) H) := by
  intro pins s σ H x y v u Q I rx ry h
  obtain ⟨i, j, rfl, rfl, hz, q⟩ := h
  obtain ⟨t, rfl⟩ := rx
  obtain ⟨t', rfl⟩ := ry
  exact PySem.W.KBy.add_bytes hz (fun t' tk => ⟨.byt (i ++ j), H, I.tok _, ⟨_, rfl⟩, q⟩)

def PlainIxT (b : Expr) : Prop := ∀ o i, subscripted b false o i = operate [o, i] (getItem o i)
/-- s[i], 0 ≤ i < len -/
theorem pe_item_str (ha : PE X a ta) (hb : PE X b tb) (hs : PlainIxT b) :
    PE X (.Subscript a b pos) (tOp (fun x y H Q => ∃ z i c, x = .str z ∧ y = .int i ∧ 0 ≤ i ∧ i < 2 ^ 63 ∧ i < z.length ∧ z.cps[i.toNat]? = some c ∧ Q (.str ⟨#[c]⟩) H) ta tb) := by
  intro pins s σ H Q I h
  refine Subscript_ (binT ha hb I h fun v u s2 x y H2 I2 rx ry q => ?_)
  obtain ⟨z, i, c, rfl, rfl, h0, h63, h1, hc, q⟩ := q
  obtain ⟨t, rfl⟩ := rx
  obtain ⟨t', rfl⟩ := ry
  have e : seqIndex? i z.length = some i.toNat := PySem.StrLaws.seqIndex_nonneg h0 h1
  exact tail_any (typeIs_str s2 z t) slot_str_getitem.lookup (getItem_str (c := c) (by
    have e1 : decide (i < -(2 ^ 63 : Int)) = false := decide_eq_false (by omega)
    have e2 : decide (i ≥ 2 ^ 63) = false := decide_eq_false (by omega)
    rw [e1, e2] <;> rfl) (by rw [e]; exact hc) ⟨.str ⟨#[c]⟩, H2, I2.tok _, ⟨_, rfl⟩, q⟩) (hs _ _)
/-- b[i], 0 ≤ i < len -/
theorem pe_item_byt (ha : PE X a ta) (hb : PE X b tb) (hs : PlainIxT b) :
    PE X (.Subscript a b pos) (tOp (fun x y H Q => ∃ (z : List UInt8) (i : Int), x = .byt z.toArray ∧ y = .int i ∧ z.length ≤ sizeLine ∧ 0 ≤ i ∧ i < z.length ∧ Q (.int ((z.getD i.toNat 0).toNat : Nat)) H) ta tb) := by
  intro pins s σ H Q I h
  refine Subscript_ (binT ha hb I h fun v u s2 x y H2 I2 rx ry q => ?_)
  obtain ⟨z, i, rfl, rfl, hz, h0, h1, q⟩ := q
  obtain ⟨t, rfl⟩ := rx
  obtain ⟨t', rfl⟩ := ry
  have hl : sizeLine = 16777216 := sizeLine_eq
  exact tail_any (PySem.W.typeIs_bytes s2 z.toArray t) PySem.W.FB.slot_bytes_getitem.lookup (PySem.W.getItem_bytes (by omega) h0 h1 ⟨.int ((z.getD i.toNat 0).toNat : Nat), H2, I2.tok _, ⟨_, rfl⟩, q⟩) (hs _ _)

/-! ### scalar builtins, by CallR -/
theorem vals1 {x : V} {us : List Value} (r : Vals [x] us) : ∃ u, us = [u] ∧ RelV x u := by
  cases r with
  | cons r1 r2 => cases r2; exact ⟨_, rfl, r1⟩
theorem vals2 {x y : V} {us : List Value} (r : Vals [x, y] us) : ∃ u w', us = [u, w'] ∧ RelV x u ∧ RelV y w' := by
  cases r with
  | cons r1 r2 =>
    cases r2 with
    | cons r3 r4 => cases r4; exact ⟨_, _, rfl, r1, r3⟩
theorem call_abs : CallR X (.builtin "abs") (fun xs H Q => ∃ i, xs = [.int i] ∧ Q (.int (if i < 0 then -i else i)) H) := by
  intro pins s σ H xs us Q I r h
  obtain ⟨i, rfl, q⟩ := h
  obtain ⟨u, rfl, t, rfl⟩ := vals1 r
  exact call_abs_int fun u tk => ⟨.int (if i < 0 then -i else i), H, I.tok _, ⟨_, rfl⟩, q⟩
theorem call_max2 (hc : X.calm = true) : CallR X (.builtin "max") (fun xs H Q => ∃ i j, xs = [.int i, .int j] ∧ Q (.int (if j > i then j else i)) H) := by
  intro pins s σ H xs us Q I r h
  obtain ⟨i, j, rfl, q⟩ := h
  obtain ⟨u, w', rfl, ⟨t, rfl⟩, ⟨t', rfl⟩⟩ := vals2 r
  refine max_two_ints (I.ok.hd hc) fun h' tk k => ⟨_, H, I.kept k, ?_, q⟩
  by_cases hj : j > i
  · rw [if_pos hj, if_pos hj]; exact ⟨_, rfl⟩
  · rw [if_neg hj, if_neg hj]; exact ⟨_, rfl⟩
theorem call_min2 (hc : X.calm = true) : CallR X (.builtin "min") (fun xs H Q => ∃ i j, xs = [.int i, .int j] ∧ Q (.int (if j < i then j else i)) H) := by
  intro pins s σ H xs us Q I r h
  obtain ⟨i, j, rfl, q⟩ := h
  obtain ⟨u, w', rfl, ⟨t, rfl⟩, ⟨t', rfl⟩⟩ := vals2 r
  refine min_two_ints (I.ok.hd hc) fun h' tk k => ⟨_, H, I.kept k, ?_, q⟩
  by_cases hj : j < i
  · rw [if_pos hj, if_pos hj]; exact ⟨_, rfl⟩
  · rw [if_neg hj, if_neg hj]; exact ⟨_, rfl⟩
theorem call_int1 : CallR X (.type "int") (fun xs H Q => (∃ i, xs = [.int i] ∧ Q (.int i) H) ∨ ∃ k, xs = [.bl k] ∧ Q (.int (if k then 1 else 0)) H) := by
  intro pins s σ H xs us Q I r h
  rcases h with ⟨i, rfl, q⟩ | ⟨k, rfl, q⟩
  · obtain ⟨u, rfl, t, rfl⟩ := vals1 r
    exact call_int_int ⟨.int i, H, I, ⟨_, rfl⟩, q⟩
  · obtain ⟨u, rfl, r1⟩ := vals1 r
    cases r1
    exact call_int_bool ⟨.int (if k then 1 else 0), H, I.tok _, ⟨_, rfl⟩, q⟩
theorem call_bool1 : CallR X (.type "bool") (fun xs H Q => (∃ i, xs = [.int i] ∧ Q (.bl (i != 0)) H) ∨ ∃ k, xs = [.bl k] ∧ Q (.bl k) H) := by
  intro pins s σ H xs us Q I r h
  rcases h with ⟨i, rfl, q⟩ | ⟨k, rfl, q⟩
  · obtain ⟨u, rfl, t, rfl⟩ := vals1 r
    exact call_bool_int ⟨.bl (i != 0), H, I, rfl, q⟩
  · obtain ⟨u, rfl, r1⟩ := vals1 r
    cases r1
    exact call_bool_bool ⟨.bl k, H, I, rfl, q⟩
theorem call_str_int : CallR X (.type "str") (fun xs H Q => ∃ i, xs = [.int i] ∧ i.natAbs.log2 < 1920 ∧ Q (.str (toString i)) H) := by
  intro pins s σ H xs us Q I r h
  obtain ⟨i, rfl, hz, q⟩ := h
  obtain ⟨u, rfl, t, rfl⟩ := vals1 r
  exact PySem.P.str_of_int hz ⟨.str _, H, I.tok _, ⟨_, rfl⟩, q⟩
theorem call_ord : CallR X (.builtin "ord") (fun xs H Q => ∃ x, xs = [.str x] ∧ x.length = 1 ∧ Q (.int (x.cps.getD 0 0 : Nat)) H) := by
  intro pins s σ H xs us Q I r h
  obtain ⟨x, rfl, hz, q⟩ := h
  obtain ⟨u, rfl, t, rfl⟩ := vals1 r
  exact ord_of_one hz ⟨.int _, H, I.tok _, ⟨_, rfl⟩, q⟩
theorem call_chr : CallR X (.builtin "chr") (fun xs H Q => ∃ i, xs = [.int i] ∧ 0 ≤ i ∧ i ≤ 1114111 ∧ Q (.str ⟨#[i.toNat]⟩) H) := by
  intro pins s σ H xs us Q I r h
  obtain ⟨i, rfl, h0, h1, q⟩ := h
  obtain ⟨u, rfl, t, rfl⟩ := vals1 r
  exact chr_of_range h0 h1 ⟨.str _, H, I.tok _, ⟨_, rfl⟩, q⟩
/-- len of a str, a bytes, a list, a tuple -/
def LenV (K : PySem.W.Frag) (x : V) (H : Hp) (n : Nat) : Prop :=
  match x with
  | .str y => y.length ≤ sizeLine ∧ n = y.length
  | .byt y => y.size ≤ sizeLine ∧ n = y.size
  | .ref p => (∃ xs, SqL K H p xs ∧ n = xs.length) ∨ ∃ xs, SqT K H p xs ∧ n = xs.length
  | _ => False
theorem call_len : CallR X (.builtin "len") (fun xs H Q => ∃ x n, xs = [x] ∧ LenV X.K x H n ∧ Q (.int n) H) := by
  intro pins s σ H xs us Q I r h
  obtain ⟨x, n, rfl, e, q⟩ := h
  obtain ⟨u, rfl, rx⟩ := vals1 r
  have hl := line63
  have hs : sizeLine = 16777216 := sizeLine_eq
  cases x with
  | str y =>
    obtain ⟨t, rfl⟩ := rx
    obtain ⟨hy, e'⟩ : y.length ≤ sizeLine ∧ n = y.length := e
    subst e'
    exact len_str (by omega) ⟨.int _, H, I.tok _, ⟨_, rfl⟩, q⟩
  | byt y =>
    obtain ⟨t, rfl⟩ := rx
    obtain ⟨hy, e'⟩ : y.size ≤ sizeLine ∧ n = y.size := e
    subst e'
    exact PySem.W.len_bytes (by omega) ⟨.int _, H, I.tok _, ⟨_, rfl⟩, q⟩
  | ref p =>
    cases rx
    have e' : (∃ xs, SqL X.K H p xs ∧ n = xs.length) ∨ ∃ xs, SqT X.K H p xs ∧ n = xs.length := e
    rcases e' with ⟨xs, hx, e'⟩ | ⟨xs, hx, e'⟩
    · subst e'
      obtain ⟨its, r', pl, hz⟩ := I.list hx
      have hlen := r'.length
      exact Calls.call_len_list pl.isList (by simp only [List.size_toArray]; omega) ⟨.int xs.length, H, I.tok _, ⟨_, by simp only [List.size_toArray]; rw [hlen]⟩, q⟩
    · subst e'
      obtain ⟨its, r', pl, hz⟩ := I.tuple hx
      have hlen := r'.length
      exact len_tuple pl (by simp only [List.size_toArray]; omega) ⟨.int xs.length, H, I.tok _, ⟨_, by simp only [List.size_toArray]; rw [hlen]⟩, q⟩
  | _ => exact (show False from e).elim
/-- divmod: a new tuple -/
theorem call_divmod : CallR X (.builtin "divmod") (fun xs H Q => ∃ i j, xs = [.int i, .int j] ∧ CDiv i j ∧ ∀ p, H p = none → Q (.ref p) (upd H p (.tup [.int (i / j), .int (i % j)]))) := by
  intro pins s σ H xs us Q I r h
  obtain ⟨i, j, rfl, ⟨h1, h2⟩, q⟩ := h
  obtain ⟨u, w', rfl, ⟨t, rfl⟩, ⟨t', rfl⟩⟩ := vals2 r
  refine divmod_int (by omega) ?_ (.inl (PyProof.noPylong_small (by omega)))
  rw [Int.fdiv_eq_ediv_of_nonneg i (by omega), Int.fmod_eq_emod_of_nonneg i (by omega)]
  have hn : H s.heap.objs.size = none := I.hok.fresh (Nat.le_refl _)
  refine ⟨.ref s.heap.objs.size, _, ?_, rfl, q _ hn⟩
  refine I.laid (fun b o e => Heap.get?_push_of_some _ e) (Nat.le_refl _) ⟨by simp only [List.length_cons, List.length_nil]; rw [sizeLine_eq]; decide, [.int (i / j) s.toks, .int (i % j) (s.toks + 1)], .cons ⟨_, rfl⟩ (.cons ⟨_, rfl⟩ .nil), ?_⟩
  exact ⟨_, Heap.get?_push_size s.heap rfl, rfl, 0, rfl⟩
end
end L2

namespace L2
open PySem PySem.Spec PyProof.Rows

/-! ### an instance, its attributes a map -/
structure ObjM (h : Heap) (x dx C : Addr) (mA : Str → Option Value) : Prop where
  obj : h.get? x = some (PySem.W.instObj C dx)
  ns : h.Ns1 dx mA
  ne : dx ≠ x

theorem lookIn_ns {h : Heap} {dx : Addr} {mA : Str → Option Value} (n : h.Ns1 dx mA) : ∃ od, h.get? dx = some od ∧ ∀ name, PySem.W.lookIn name od = some (mA name) := by
  obtain ⟨o, es, ep, ho, hd, hk, _, hm⟩ := n
  refine ⟨o, ho, fun name => ?_⟩
  have e := hm name
  unfold nsFind findBy at e
  rw [← Array.find?_toList] at e
  unfold PySem.W.lookIn
  rw [hd]
  dsimp only
  split
  · rename_i y q
    rw [q] at e
    exact congrArg some e
  · rename_i q
    rw [q] at e
    have a : es.toList.any (·.refKey) = false := by
      rw [List.any_eq_false]
      intro y hy
      obtain ⟨z, t, hkey⟩ := hk y (Array.mem_toList_iff.mp hy)
      simp [DictEntry.refKey, hkey]
    have a' : ¬ es.toList.any (·.refKey) = true := by rw [a]; exact Bool.false_ne_true
    rw [if_neg a']
    exact congrArg some e

theorem ObjM.look {h : Heap} {x dx C : Addr} {mA : Str → Option Value} (I : ObjM h x dx C mA) : ∃ od, PySem.W.InstAt h x (PySem.W.instObj C dx) C (some od) ∧ ∀ name, PySem.W.lookIn name od = some (mA name) :=
  let ⟨od, ho, hl⟩ := lookIn_ns I.ns
  ⟨od, ⟨I.obj, rfl, rfl, ho⟩, hl⟩

section
variable {prog : Program} {w : World} {A : Around} {E : Value → Shared → Prop} {s : Shared} {K : PySem.W.Frag} {x dx C f : Addr} {mA : Str → Option Value} {name : Str} {v : Value}

theorem get_map {expr : Bool} {Q : Value → Shared → Prop} (X : K.In s.heap) (I : ObjM s.heap x dx C mA) (hg : PySem.W.plainGet K C name = true) (hh : PySem.W.hasDictIn K C = true)
    (ha : PySem.W.findIn K (.ref C) name = some none) (hv : mA name = some v) (hv' : PySem.W.handedIn v = true) (h : Q v { s with toks := s.toks + 1 }) :
    wpAny (model prog w) A (getAttr (.ref x) name expr) Q E s := by
  obtain ⟨od, J, hl⟩ := I.look
  exact PySem.W.get_value X J (PySem.W.plainGet_of hg).1 (PySem.W.findObj_own hh ha rfl (by rw [hl, hv])) hv' h

theorem get_const {expr : Bool} {a : Value} {Q : Value → Shared → Prop} (X : K.In s.heap) (I : ObjM s.heap x dx C mA) (hg : PySem.W.plainGet K C name = true) (hh : PySem.W.hasDictIn K C = true)
    (ha : PySem.W.findIn K (.ref C) name = some (some a)) (hn : PySem.W.specialIn K a "__get__" = some none) (hc : PySem.W.copiedNames.contains name = false) (hv : mA name = none) (hv' : PySem.W.handedIn a = true)
    (h : Q a { s with toks := s.toks + 1 }) : wpAny (model prog w) A (getAttr (.ref x) name expr) Q E s := by
  obtain ⟨od, J, hl⟩ := I.look
  exact PySem.W.get_value X J (PySem.W.plainGet_of hg).1 (PySem.W.findObj_cls hh ha hn hv' hc (by rw [hl, hv])) hv' h

theorem get_meth {pl : Sem Bool} {Q : Value × List Value → Shared → Prop} (X : K.In s.heap) (I : ObjM s.heap x dx C mA) (hg : PySem.W.plainGet K C name = true)
    (hf : PySem.W.findIn K (.ref C) name = some (some (.ref f))) (ht : PySem.W.isFn K (.ref f) = true) (hv : mA name = none) (h : Q (.ref f, [.ref x]) s) :
    wpAny (model prog w) A (getMethod (.ref x) name pl) Q E s := by
  obtain ⟨od, J, hl⟩ := I.look
  exact PySem.W.method_fn X J (PySem.W.plainGet_of hg).1 (PySem.W.plainGet_of hg).2 hf (beq_iff_eq.mp ht) (by show (PySem.W.lookIn name od).map (·.isSome) = some false; rw [hl, hv]; rfl) h

theorem set_map {ns : List Str} {Q : Unit → Shared → Prop} (X : K.In s.heap) (I : ObjM s.heap x dx C mA)
    (hs : PySem.W.findIn K (.ref C) "__setattr__" = some (some (.builtin "object.__setattr__"))) (hp : PySem.W.plainOver K C = true) (ht : PySem.W.takerIn K C name = some none) (hh : PySem.W.hasDictIn K C = true)
    (hw : PySem.Within mA ns) (hsz : ns.length ≤ sizeLine)
    (h : ∀ h', ObjM h' x dx C (fun y => if y = name then some v else mA y) → Heap.SameBut dx s.heap h' → Q () { s with heap := h', toks := s.toks + 2 }) :
    wpAny (model prog w) A (setAttr (.ref x) name v) Q E s := by
  obtain ⟨od, J, hl⟩ := I.look
  refine PySem.W.set_plain X J hs (PySem.W.osa_open (s := { s with toks := s.toks + 1 }) (r := none) X J hp ht fun b => ?_)
  obtain ⟨cd, hc, hd'⟩ := PySem.W.any_some hh
  have hx : s.heap.get? x = some ⟨.ref C, some dx, .plain, #[]⟩ := I.obj
  refine wpAny_bind (wpAny_pure (wpAny_bind (wpAny_bind (wpAny_loadPart hx (wpAny_bind (PySem.W.Looks.here (s := { s with toks := s.toks + 1 }) (PySem.W.looks_clsIn X hc) ?_))))))
  rw [hd']
  refine wpAny_pure (a := some dx) (wpAny_bind (wpAny_pure (wpAny_bind ?_)))
  refine wpAny_nsSet1 (s := { s with toks := s.toks + 1 }) I.ns fun h' hn2 hs2 => ?_
  obtain ⟨oD, esD, epD, hoD, hdD, hcD⟩ := hn2.count (PySem.Within.cons name v hw)
  refine wpAny_bind (wpAny_lookBehind hoD (by rw [hdD]; exact pastItsLine_dict (Nat.le_trans hcD (by rw [List.length_cons]; omega))) ?_)
  exact wpAny_pure (h _ ⟨(hs2.2 _ (Ne.symm I.ne)).trans I.obj, hn2, I.ne⟩ hs2)

/-- C(..): the dict at the heap's end, the instance behind it; then its __init__ -/
theorem make_map {R : Result → Shared → Prop} {vs : List Value} {kw : List (Str × Value)} (X : K.In s.heap) (hm : PySem.W.makesIn K C = true)
    (hi : PySem.W.findIn K (.ref C) "__init__" = some (some (.ref f))) (hf : PySem.W.typeIn K (.ref f) = some (.type "function"))
    (h : codeAny (model prog w) (A.under (.builtin "type.__call__" ⟨.ref C :: vs, kw⟩)) (.call (.ref f) ⟨.ref (s.heap.objs.size + 1) :: vs, kw⟩) (PySem.W.InitBack (s.heap.objs.size + 1) R)
      { s with heap := (s.heap.push PySem.W.emptyDict).push (PySem.W.instObj C s.heap.objs.size) }) :
    codeAny (model prog w) A (.call (.ref C) ⟨vs, kw⟩) R s := by
  obtain ⟨hh, g, d, t, os⟩ := s
  exact PySem.W.make_core (PySem.W.makes_of X hm) (PySem.W.looks_findIn X hi) (fun self => PySem.W.bind_fn X self hf) (.inl rfl) h
/-- C() where there is no __init__ but object's -/
theorem make_map0 {R : Result → Shared → Prop} (X : K.In s.heap) (hm : PySem.W.makesIn K C = true)
    (hi : PySem.W.findIn K (.ref C) "__init__" = some (some (.builtin "object.__init__")))
    (hb : ∀ self, PySem.W.Looks (model prog w) s.heap (bindSpecial (.builtin "object.__init__") self) (.builtin "object.__init__", [self]))
    (h : codeAny (model prog w) (A.under (.builtin "type.__call__" ⟨[.ref C], []⟩)) (.call (.builtin "object.__init__") ⟨[.ref (s.heap.objs.size + 1)], []⟩) (PySem.W.InitBack (s.heap.objs.size + 1) R)
      { s with heap := (s.heap.push PySem.W.emptyDict).push (PySem.W.instObj C s.heap.objs.size) }) :
    codeAny (model prog w) A (.call (.ref C) ⟨[], []⟩) R s := by
  obtain ⟨hh, g, d, t, os⟩ := s
  exact PySem.W.make_core (PySem.W.makes_of X hm) (PySem.W.looks_findIn X hi) hb (.inr ⟨rfl, rfl⟩) h
end

/-! ### the attributes as a list of pairs -/
def putF (f : Str) (v : V) : List (Str × V) → List (Str × V)
  | [] => [(f, v)]
  | (g, x) :: r => if g = f then (g, v) :: r else (g, x) :: putF f v r
theorem lookup_putF (f g : Str) (v : V) : ∀ fs : List (Str × V), (putF f v fs).lookup g = if g = f then some v else fs.lookup g
  | [] => by
    show List.lookup g [(f, v)] = _
    by_cases h : g = f
    · have hb : (g == f) = true := beq_iff_eq.mpr h
      simp only [List.lookup, hb, if_pos h]
    · have hb : (g == f) = false := beq_eq_false_iff_ne.mpr h
      simp only [List.lookup, hb, if_neg h]
  | (k, x) :: r => by
    have ih := lookup_putF f g v r
    rw [show putF f v ((k, x) :: r) = (if k = f then (k, v) :: r else (k, x) :: putF f v r) from rfl]
    by_cases hk : k = f
    · rw [if_pos hk]
      by_cases h : g = k
      · have hb : (g == k) = true := beq_iff_eq.mpr h
        simp only [List.lookup, hb, if_pos (h.trans hk)]
      · have hb : (g == k) = false := beq_eq_false_iff_ne.mpr h
        simp only [List.lookup, hb, if_neg (fun e : g = f => h (e.trans hk.symm))]
    · rw [if_neg hk]
      by_cases h : g = k
      · have hb : (g == k) = true := beq_iff_eq.mpr h
        simp only [List.lookup, hb, if_neg (fun e : g = f => hk (h.symm.trans e))]
      · have hb : (g == k) = false := beq_eq_false_iff_ne.mpr h
        simp only [List.lookup, hb]
        exact ih
theorem keys_putF (f : Str) (v : V) : ∀ fs : List (Str × V), f ∈ (putF f v fs).map (·.1) ∧ ∀ g, g ∈ fs.map (·.1) → g ∈ (putF f v fs).map (·.1)
  | [] => ⟨by simp [putF], fun g h => by simp at h⟩
  | (k, x) :: r => by
    obtain ⟨i1, i2⟩ := keys_putF f v r
    rw [show putF f v ((k, x) :: r) = (if k = f then (k, v) :: r else (k, x) :: putF f v r) from rfl]
    by_cases hk : k = f
    · rw [if_pos hk]
      subst hk
      exact ⟨by simp, fun g h => by simpa using h⟩
    · rw [if_neg hk]
      refine ⟨?_, fun g h => ?_⟩
      · rw [List.map_cons]
        exact List.mem_cons_of_mem _ i1
      · rw [List.map_cons] at h ⊢
        rcases List.mem_cons.mp h with e | e
        · exact List.mem_cons.mpr (.inl e)
        · exact List.mem_cons_of_mem _ (i2 g e)
theorem length_putF (f : Str) (v : V) : ∀ fs : List (Str × V), (putF f v fs).length ≤ fs.length + 1
  | [] => by simp [putF]
  | (k, x) :: r => by
    have ih := length_putF f v r
    rw [show putF f v ((k, x) :: r) = (if k = f then (k, v) :: r else (k, x) :: putF f v r) from rfl]
    by_cases hk : k = f
    · rw [if_pos hk, List.length_cons, List.length_cons]; omega
    · rw [if_neg hk, List.length_cons, List.length_cons]; omega

theorem RelO.some_of {v : V} {o : Option Value} (r : RelO (some v) o) : ∃ u, o = some u ∧ RelV v u := by
  cases o with
  | none => exact (show False from r).elim
  | some u => exact ⟨u, rfl, r⟩
theorem RelO.none_of {o : Option Value} (r : RelO none o) : o = none := by
  cases o with
  | none => rfl
  | some u => exact (show False from r).elim
theorem handed_of {v : V} {u : Value} (r : RelV v u) : PySem.W.handedIn u = true := by
  cases v with
  | non => cases (show u = Value.none from r); rfl
  | bl b => cases (show u = Value.bool b from r); rfl
  | int i => obtain ⟨t, e⟩ := (show ∃ t, u = Value.int i t from r); cases e; rfl
  | str x => obtain ⟨t, e⟩ := (show ∃ t, u = Value.str x t from r); cases e; rfl
  | byt b => obtain ⟨t, e⟩ := (show ∃ t, u = Value.bytes b t from r); cases e; rfl
  | flt b => obtain ⟨t, e⟩ := (show ∃ t, u = Value.float b t from r); cases e; rfl
  | ref a => cases (show u = Value.ref a from r); rfl
  | ty n => cases (show u = Value.type n from r); rfl

section
variable {P : Program} {w : World} {H H' : Hp} {h h' : Heap} {a C dx : Addr} {fs fs' : List (Str × V)}
theorem ins_get (hok : HOk P w H h) (e : H a = some (.ins C dx fs)) : ∃ mA, ObjM h a dx C mA ∧ (∀ f, RelO (fs.lookup f) (mA f)) ∧ PySem.Within mA (fs.map (·.1)) ∧ fs.length ≤ 1000 ∧ H dx = some (.own a) := by
  obtain ⟨d, z, ne, ob, mA, n, r, q⟩ := (show ObjOk P w H h a (.ins C dx fs) from hok a _ e)
  exact ⟨mA, ⟨ob, n, ne⟩, r, q, z, d⟩
end

/-! ### what of the text a class must have -/
structure Cls (K : PySem.W.Frag) (C : Addr) : Prop where
  pg : PySem.W.plainGet K C Str.empty = true
  hd : PySem.W.hasDictIn K C = true
  po : PySem.W.plainOver K C = true
  sa : PySem.W.findIn K (.ref C) "__setattr__" = some (some (.builtin "object.__setattr__"))
theorem Cls.get {K : PySem.W.Frag} {C : Addr} (c : Cls K C) (f : Str) : PySem.W.plainGet K C f = true := c.pg
/-- no class of it has the name -/
def NoAttr (K : PySem.W.Frag) (C : Addr) (f : Str) : Prop := PySem.W.findIn K (.ref C) f = some none
theorem NoAttr.taker {K : PySem.W.Frag} {C : Addr} {f : Str} (n : NoAttr K C f) : PySem.W.takerIn K C f = some none := by
  unfold PySem.W.takerIn
  rw [show PySem.W.findIn K (.ref C) f = some none from n]
  rfl
/-- a constant of the class -/
structure Con (K : PySem.W.Frag) (C : Addr) (f : Str) (v : V) (u : Value) : Prop where
  at_ : PySem.W.findIn K (.ref C) f = some (some u)
  rel : RelV v u
  get : PySem.W.specialIn K u "__get__" = some none
  cp : PySem.W.copiedNames.contains f = false
/-- a method: a plain def of the class or of one above it -/
structure Meth (K : PySem.W.Frag) (C : Addr) (m : Str) (f : Addr) : Prop where
  at_ : PySem.W.findIn K (.ref C) m = some (some (.ref f))
  fn : PySem.W.isFn K (.ref f) = true
  kp : PySem.W.keepIn K (.ref f) = true

section
variable {X : Cx} {pins : List (Addr × Obj)} {σ : St} {H : Hp} {s : Shared} {a C dx : Addr} {fs : List (Str × V)} {f : Str} {v : V} {A : Around} {E : Value → Shared → Prop}

theorem getattr_ok {b : Bool} {Q : Value → Shared → Prop} (I : Inv X pins σ H s) (e : H a = some (.ins C dx fs)) (c : Cls X.K C) (n : NoAttr X.K C f) (l : fs.lookup f = some v)
    (h : ∀ u s', Inv X pins σ H s' → RelV v u → Q u s') : wpAny (model X.prog X.w) A (getAttr (.ref a) f b) Q E s := by
  obtain ⟨mA, O, r, _, _, _⟩ := ins_get I.hok e
  obtain ⟨u, hu, ru⟩ := RelO.some_of (v := v) (o := mA f) (by rw [← l]; exact r f)
  exact get_map I.kIn O (c.get f) c.hd n hu (handed_of ru) (h u _ (I.tok _) ru)

theorem getcon_ok {b : Bool} {u : Value} {Q : Value → Shared → Prop} (I : Inv X pins σ H s) (e : H a = some (.ins C dx fs)) (c : Cls X.K C) (k : Con X.K C f v u) (l : fs.lookup f = none)
    (h : ∀ s', Inv X pins σ H s' → Q u s') : wpAny (model X.prog X.w) A (getAttr (.ref a) f b) Q E s := by
  obtain ⟨mA, O, r, _, _, _⟩ := ins_get I.hok e
  have hn : mA f = none := RelO.none_of (by rw [← l]; exact r f)
  exact get_const I.kIn O (c.get f) c.hd k.at_ k.get k.cp hn (handed_of k.rel) (h _ (I.tok _))

theorem getmeth_ok {m : Str} {g : Addr} {pl : Sem Bool} {Q : Value × List Value → Shared → Prop} (I : Inv X pins σ H s) (e : H a = some (.ins C dx fs)) (c : Cls X.K C) (k : Meth X.K C m g) (l : fs.lookup m = none)
    (h : Q (.ref g, [.ref a]) s) : wpAny (model X.prog X.w) A (getMethod (.ref a) m pl) Q E s := by
  obtain ⟨mA, O, r, _, _, _⟩ := ins_get I.hok e
  have hn : mA m = none := RelO.none_of (by rw [← l]; exact r m)
  exact get_meth I.kIn O (c.get m) k.at_ k.fn hn h

theorem setattr_ok {y : V} {u : Value} {Q : Unit → Shared → Prop} (I : Inv X pins σ H s) (e : H a = some (.ins C dx fs)) (c : Cls X.K C) (n : NoAttr X.K C f) (hl : fs.length < 1000) (ry : RelV y u)
    (h : ∀ s', Inv X pins σ (upd H a (.ins C dx (putF f y fs))) s' → Q () s') : wpAny (model X.prog X.w) A (setAttr (.ref a) f u) Q E s := by
  obtain ⟨mA, O, r, wi, _, ho⟩ := ins_get I.hok e
  have hz : (fs.map (·.1)).length ≤ sizeLine := by rw [List.length_map, sizeLine_eq]; omega
  refine set_map I.kIn O c.sa c.po n.taker c.hd wi hz fun h' O' sb => h _ ?_
  have hd : ∃ o, h'.get? dx = some o := let ⟨o, _, _, e', _⟩ := O'.ns; ⟨o, e'⟩
  refine I.write (x := a) (e := dx) (by rw [e]; exact True.intro) (.inr ho) (fun b q hb z => (sb.2 b hb).trans z) hd ?_
  refine ⟨by rw [upd_ne O.ne]; exact ho, ?_, O.ne, O'.obj, _, O'.ns, fun g => ?_, fun g hg => ?_⟩
  · have := length_putF f y fs; omega
  · show RelO ((putF f y fs).lookup g) (if g = f then some u else mA g)
    rw [lookup_putF]
    by_cases q : g = f
    · rw [if_pos q, if_pos q]; exact ry
    · rw [if_neg q, if_neg q]; exact r g
  · by_cases q : g = f
    · rw [q]; exact (keys_putF f y fs).1
    · refine (keys_putF f y fs).2 g (wi g fun z => hg ?_)
      show (if g = f then some u else mA g) = none
      rw [if_neg q]; exact z

/-- a new instance, tracked, without attributes -/
theorem Inv.made (I : Inv X pins σ H s) : Inv X pins σ (upd (upd H s.heap.objs.size (.own (s.heap.objs.size + 1))) (s.heap.objs.size + 1) (.ins C s.heap.objs.size []))
    { s with heap := (s.heap.push PySem.W.emptyDict).push (PySem.W.instObj C s.heap.objs.size) } := by
  have e1 : (s.heap.push PySem.W.emptyDict).get? s.heap.objs.size = some PySem.W.emptyDict := Heap.get?_push_size s.heap rfl
  have e2 : ((s.heap.push PySem.W.emptyDict).push (PySem.W.instObj C s.heap.objs.size)).get? (s.heap.objs.size + 1) = some (PySem.W.instObj C s.heap.objs.size) := by
    have := Heap.get?_push_size (s.heap.push PySem.W.emptyDict) (o := PySem.W.instObj C s.heap.objs.size) rfl
    rwa [Heap.size_push] at this
  have e3 : (s.heap.push PySem.W.emptyDict).Ns s.heap.objs.size (fun _ => none) := ⟨PySem.W.emptyDict, #[], _, e1, rfl, (fun e he => absurd he (by simp)), fun _ => rfl⟩
  have I1 := I.laid (a := s.heap.objs.size) (o := .own (s.heap.objs.size + 1)) (h' := s.heap.push PySem.W.emptyDict) (t' := s.toks) (fun b u q => Heap.get?_push_of_some _ q) (Nat.le_refl _) ⟨_, e1⟩
  refine I1.laid (a := s.heap.objs.size + 1) (o := .ins C s.heap.objs.size []) (t' := s.toks) (fun b u q => Heap.get?_push_of_some _ q) (Nat.le_of_eq (Heap.size_push _ _)) ?_
  have ne : s.heap.objs.size ≠ s.heap.objs.size + 1 := Nat.ne_of_lt (Nat.lt_succ_self _)
  refine ⟨by rw [upd_ne ne, upd_same], Nat.zero_le _, ne, e2, fun _ => none, (Heap.Ns1.of_empty e3).at fun o q => Heap.get?_push_of_some _ q, fun _ => True.intro, fun y hy => absurd rfl hy⟩

/-- e.f where nothing but the object is asked: through attributeBase (super) and the last hold -/
theorem attr_of {prog : Program} {w : World} {env : Env} {e : Expr} {f : Str} {pos : Pos} {s : Shared} {Q : Value → Shared → Prop} (hb : attributeBase e f env (eval e env) = eval e env)
    (h : wpAny (model prog w) A (eval e env) (fun o s₁ => wpAny (model prog w) A (getAttr o f true) Q E s₁) E s) : wpAny (model prog w) A (eval (.Attribute e f pos) env) Q E s :=
  Attribute_any_ h (by rw [arm_eval_Attribute, hb])
end

/-! ### readings and rules -/
/-- e.f, an attribute of the instance -/
def tFld (K : PySem.W.Frag) (ta : TE) (f : Str) : TE := fun σ H Q => ta σ H fun x H1 => ∃ a C dx fs v, x = .ref a ∧ H1 a = some (.ins C dx fs) ∧ Cls K C ∧ NoAttr K C f ∧ fs.lookup f = some v ∧ Q v H1
/-- e.f, a constant of the class -/
def tCon (K : PySem.W.Frag) (ta : TE) (f : Str) : TE := fun σ H Q => ta σ H fun x H1 => ∃ a C dx fs v u, x = .ref a ∧ H1 a = some (.ins C dx fs) ∧ Cls K C ∧ Con K C f v u ∧ fs.lookup f = none ∧ Q v H1
/-- e.f = value -/
def sFld (K : PySem.W.Frag) (ta tv : TE) (f : Str) : TS := fun D σ H => tv σ H fun y H1 => ta σ H1 fun x H2 => ∃ a C dx fs, x = .ref a ∧ H2 a = some (.ins C dx fs) ∧ Cls K C ∧ NoAttr K C f ∧ fs.length < 1000 ∧
  D.nx σ (upd H2 a (.ins C dx (putF f y fs)))
/-- an augmented operator on two values -/
def InOp (X : Cx) (op : Operator) (rd : V → V → Hp → VK → Prop) : Prop :=
  ∀ (pins : List (Addr × Obj)) (s : Shared) (σ : St) (H : Hp) (x y : V) (u v : Value) (Q : VK), Inv X pins σ H s → RelV x u → RelV y v → rd x y H Q → wpAny (model X.prog X.w) X.A (inplaceOp op u v) (EP X pins σ Q) X.xe s
/-- e.f op= value -/
def sFldAug (K : PySem.W.Frag) (ta tv : TE) (rd : V → V → Hp → VK → Prop) (f : Str) : TS := fun D σ H => ta σ H fun x H1 => ∃ a C dx fs v, x = .ref a ∧ H1 a = some (.ins C dx fs) ∧ Cls K C ∧ NoAttr K C f ∧ fs.lookup f = some v ∧
  tv σ H1 fun y H2 => rd v y H2 fun z H3 => ∃ dx' fs', H3 a = some (.ins C dx' fs') ∧ fs'.length < 1000 ∧ D.nx σ (upd H3 a (.ins C dx' (putF f z fs')))

section
variable {X : Cx} {o e value : Expr} {f : Str} {pos pos' tpos : Pos} {ta tv : TE}
theorem pe_fld (he : PE X e ta) (hb : attributeBase e f X.env (eval e X.env) = eval e X.env) : PE X (.Attribute e f pos) (tFld X.K ta f) := by
  intro pins s σ H Q I h
  refine attr_of hb (thn (he pins s σ H _ I h) fun u s1 ⟨x, H1, I1, rx, a, C, dx, fs, v, ex, ea, c, n, l, q⟩ => ?_)
  subst ex
  obtain rfl : u = Value.ref a := rx
  exact getattr_ok I1 ea c n l fun u' s2 I2 ru => ⟨v, H1, I2, ru, q⟩
theorem pe_con (he : PE X e ta) (hb : attributeBase e f X.env (eval e X.env) = eval e X.env) : PE X (.Attribute e f pos) (tCon X.K ta f) := by
  intro pins s σ H Q I h
  refine attr_of hb (thn (he pins s σ H _ I h) fun u s1 ⟨x, H1, I1, rx, a, C, dx, fs, v, u0, ex, ea, c, k, l, q⟩ => ?_)
  subst ex
  obtain rfl : u = Value.ref a := rx
  exact getcon_ok I1 ea c k l fun s2 I2 => ⟨v, H1, I2, k.rel, q⟩
theorem ps_fld (ha : PE X o ta) (hv : PE X value tv) (hs : swapsWith value (some (.Attribute o f pos')) pos.line X.env = pure false) : PS X (.Assign [.Attribute o f pos'] value pos) (sFld X.K ta tv f) := by
  intro pins s σ H D I h
  refine plainObj_wpAny_Assign_Attribute (thn (hv pins s σ H _ I h) fun u s1 ⟨y, H1, I1, ry, q⟩ => thn (ha pins s1 σ H1 _ I1 q) fun ov s2 ⟨x, H2, I2, rx, a, C, dx, fs, ex, ea, c, n, l, q2⟩ => ?_) hs
  subst ex
  obtain rfl : ov = Value.ref a := rx
  exact setattr_ok I2 ea c n l ry fun s3 I3 => ⟨σ, _, I3, q2⟩
theorem ps_fldaug {op : Operator} {rd : V → V → Hp → VK → Prop} (ha : PE X o ta) (hv : PE X value tv) (hop : InOp X op rd) : PS X (.AugAssign (.Attribute o f tpos) op value pos) (sFldAug X.K ta tv rd f) := by
  intro pins s σ H D I h
  refine wpAny_AugAssign_AttributeAny (thn (ha pins s σ H _ I h) fun ov s1 ⟨x, H1, I1, rx, a, C, dx, fs, v, ex, ea, c, n, l, q⟩ => ?_)
  subst ex
  obtain rfl : ov = Value.ref a := rx
  refine getattr_ok I1 ea c n l fun u s2 I2 ru => thn (hv pins s2 σ H1 _ I2 q) fun w3 s3 ⟨y, H2, I3, ry, q3⟩ => thn (hop pins s3 σ H2 v y u w3 _ I3 ru ry q3) fun w4 s4 ⟨z, H3, I4, rz, dx', fs', ea', l', q4⟩ => ?_
  exact setattr_ok I4 ea' c n l' rz fun s5 I5 => ⟨σ, _, I5, q4⟩
def rAdd : V → V → Hp → VK → Prop := fun x y H Q => ∃ i j, x = .int i ∧ y = .int j ∧ Q (.int (i + j)) H
def rSub : V → V → Hp → VK → Prop := fun x y H Q => ∃ i j, x = .int i ∧ y = .int j ∧ Q (.int (i - j)) H
theorem in_add : InOp X .Add rAdd := by
  rintro pins s σ H x y u v Q I rx ry ⟨i, j, rfl, rfl, q⟩
  obtain ⟨t, rfl⟩ := (show ∃ t, u = Value.int i t from rx)
  obtain ⟨t', rfl⟩ := (show ∃ t', v = Value.int j t' from ry)
  exact PyProof.Rows.iadd_int ⟨.int (i + j), H, I.tok _, ⟨_, rfl⟩, q⟩
theorem in_sub : InOp X .Sub rSub := by
  rintro pins s σ H x y u v Q I rx ry ⟨i, j, rfl, rfl, q⟩
  obtain ⟨t, rfl⟩ := (show ∃ t, u = Value.int i t from rx)
  obtain ⟨t', rfl⟩ := (show ∃ t', v = Value.int j t' from ry)
  exact PyProof.Rows.isub_int ⟨.int (i - j), H, I.tok _, ⟨_, rfl⟩, q⟩

/-- what is between an instance and its method: the tree of a method call -/
theorem methcall_of {pl : Sem Bool} {m : Str} {apos : Pos} {args : List Expr} {pins : List (Addr × Obj)} {s : Shared} {σ : St} {H : Hp} {Q : Value → Shared → Prop} {te : TE} (he : PE X e te) (I : Inv X pins σ H s)
    (h : te σ H fun x H1 => ∃ a C dx fs g, x = .ref a ∧ H1 a = some (.ins C dx fs) ∧ Cls X.K C ∧ Meth X.K C m g ∧ fs.lookup m = none ∧
      ∀ s1, Inv X pins σ H1 s1 → wpAny (model X.prog X.w) X.A (callWith pos (.ref g) [.ref a] (backTo pos (starEach args X.env)) (backToKw pos (keywordEach [] X.env))) Q X.xe s1)
    (ht : eval (.Call (.Attribute e m apos) args [] pos) X.env = (do
      let ov ← eval e X.env
      standAt apos.atName
      let (f, first) ← holding [ov] (getMethod ov m pl)
      callWith pos f first (backTo pos (starEach args X.env)) (backToKw pos (keywordEach [] X.env)))) :
    wpAny (model X.prog X.w) X.A (eval (.Call (.Attribute e m apos) args [] pos) X.env) Q X.xe s := by
  refine PySem.W.methodCall_KW (pl := pl) (thn (he pins s σ H _ I h) fun u s1 ⟨x, H1, I1, rx, a, C, dx, fs, g, ex, ea, c, k, l, q⟩ => ?_) ht
  subst ex
  obtain rfl : u = Value.ref a := rx
  exact getmeth_ok I1 ea c k l (q s1 I1)
end

/-! ### isinstance -/
section
variable {X : Cx} {pins : List (Addr × Obj)} {σ : St} {H : Hp} {s : Shared} {A : Around} {E : Value → Shared → Prop} {Q : Value → Shared → Prop} {c : Value} {b : Bool}
/-- the type of a value, as the fragment's deciders take it; for an instance its class -/
inductive TyOf (K : PySem.W.Frag) (H : Hp) : V → Value → Prop where
  | non : TyOf K H .non (.type "NoneType")
  | bl (x : Bool) : TyOf K H (.bl x) (.type "bool")
  | int (i : Int) : TyOf K H (.int i) (.type "int")
  | str (x : Str) : TyOf K H (.str x) (.type "str")
  | flt (x : UInt64) : TyOf K H (.flt x) (.type "float")
  | lst {a : Addr} {xs : List V} (e : H a = some (.lst xs)) : TyOf K H (.ref a) (.type "list")
  | frz {a : Addr} {o : Obj} {xs : List V} (e : H a = some (.frz o (.lst xs))) : TyOf K H (.ref a) (.type "list")
  | tup {a : Addr} {xs : List V} (e : H a = some (.tup xs)) : TyOf K H (.ref a) (.type "tuple")
  | dK {a : Addr} {kvs : List (Key × V)} (e : H a = some (.dK kvs)) : TyOf K H (.ref a) (.type "dict")
  | dT {a : Addr} {kvs : List (List Key × V)} (e : H a = some (.dT kvs)) : TyOf K H (.ref a) (.type "dict")
  | ins {a C dx : Addr} {fs : List (Str × V)} (e : H a = some (.ins C dx fs)) (cl : Cls K C) (ha : PySem.W.findIn K (.ref C) "__class__" = some (some (.builtin "object.__class__")))
      (hn : PySem.W.specialIn K (.builtin "object.__class__") "__get__" = some (some (.builtin "getset_descriptor.__get__"))) (htk : PySem.W.takesIn K (.builtin "object.__class__") = some true)
      (hm : PySem.W.mroIn K C (.type "object") = some true) : TyOf K H (.ref a) (.ref C)
/-- isinstance(x, c) for one class c, a built-in or an own one: kitOne's answer -/
theorem isinst_ok {x : V} {u t : Value} (I : Inv X pins σ H s) (rx : RelV x u) (ty : TyOf X.K H x t) (e : PySem.W.kitOne X.K t c = some b) (h : ∀ tk, Q (.bool b) { s with toks := tk }) :
    wpAny (model X.prog X.w) A (call (.builtin "isinstance") [u, c]) Q E s := by
  cases ty with
  | non => cases (show u = Value.none from rx); exact PySem.W.kia_one PySem.W.kitx_none I.kIn True.intro e (fun z => nomatch z) h
  | bl y => cases (show u = Value.bool y from rx); exact PySem.W.kia_one PySem.W.kitx_bool I.kIn True.intro e (fun z => nomatch z) h
  | int i => obtain ⟨t, q⟩ := (show ∃ t, u = Value.int i t from rx); cases q; exact PySem.W.kia_one PySem.W.kitx_int I.kIn True.intro e (fun z => nomatch z) h
  | str y => obtain ⟨t, q⟩ := (show ∃ t, u = Value.str y t from rx); cases q; exact PySem.W.kia_one PySem.W.kitx_str I.kIn True.intro e (fun z => nomatch z) h
  | flt y => obtain ⟨t, q⟩ := (show ∃ t, u = Value.float y t from rx); cases q; exact PySem.W.kia_one PySem.W.kitx_float I.kIn True.intro e (fun z => nomatch z) h
  | @lst a xs ea =>
    cases (show u = Value.ref a from rx)
    obtain ⟨_, _, n, _, h1⟩ := (show ObjOk X.prog X.w H s.heap a (.lst xs) from I.hok a _ ea)
    exact PySem.W.kia_one PySem.W.kitx_list I.kIn ⟨_, h1, rfl⟩ e (fun z => nomatch z) h
  | @frz a ob xs ea =>
    cases (show u = Value.ref a from rx)
    obtain ⟨_, _, _, n, _, h1⟩ := (show ObjOk X.prog X.w H s.heap a (.frz ob (.lst xs)) from I.hok a _ ea)
    exact PySem.W.kia_one PySem.W.kitx_list I.kIn ⟨_, h1, rfl⟩ e (fun z => nomatch z) h
  | @tup a xs ea =>
    cases (show u = Value.ref a from rx)
    obtain ⟨_, _, _, p⟩ := (show ObjOk X.prog X.w H s.heap a (.tup xs) from I.hok a _ ea)
    obtain ⟨o, h1, h2, _⟩ := p
    exact PySem.W.kia_one PySem.W.kitx_tuple I.kIn ⟨o, h1, h2⟩ e (fun z => nomatch z) h
  | @dK a kvs ea =>
    cases (show u = Value.ref a from rx)
    obtain ⟨_, _, vs, _, p⟩ := (show ObjOk X.prog X.w H s.heap a (.dK kvs) from I.hok a _ ea)
    obtain ⟨o, es, ep, h1, h2, _⟩ := p
    exact PySem.W.kia_one PySem.W.kitx_dict I.kIn ⟨o, h1, h2.1⟩ e (fun z => nomatch z) h
  | @dT a kvs ea =>
    cases (show u = Value.ref a from rx)
    obtain ⟨_, _, xs, _, o, es, ep, h1, h2, _⟩ := (show ObjOk X.prog X.w H s.heap a (.dT kvs) from I.hok a _ ea)
    exact PySem.W.kia_one PySem.W.kitx_dict I.kIn ⟨o, h1, h2.1⟩ e (fun z => nomatch z) h
  | @ins a C dx fs ea cl ha hn htk hm =>
    cases (show u = Value.ref a from rx)
    obtain ⟨mA, O, _⟩ := ins_get I.hok ea
    obtain ⟨od, J, _⟩ := O.look
    exact PySem.W.kia_one (PySem.W.kitx_own (cl.get _) cl.hd ha hn htk hm) I.kIn J e (fun z => nomatch z) h
end
end L2

namespace L2
open PySem PySem.Spec PyProof.Rows

/-! ### room -/
structure Room (k : Nat) (A : Around) : Prop where
  hd : A.handled = none
  dp : A.depth + 3 * k + 5 < recursionLimit
  un : A.units + 16 * k + 200 < cLine
theorem Room.mono {j k : Nat} {A : Around} (r : Room k A) (h : j ≤ k) : Room j A := ⟨r.hd, by have := r.dp; omega, by have := r.un; omega⟩
theorem Room.deeper {k : Nat} {A : Around} (r : Room (k + 1) A) (env : Env) : Room k (A.deeper env) :=
  ⟨r.hd, by have := r.dp; show A.depth + 1 + 3 * k + 5 < _; omega, by have := r.un; show A.units + 3 + 16 * k + 200 < _; omega⟩
theorem Room.in1 {k : Nat} {A : Around} (r : Room (k + 1) A) : Room k A.in1 :=
  ⟨r.hd, by have := r.dp; show A.depth + 3 * k + 5 < _; omega, by have := r.un; show A.units + 1 + 16 * k + 200 < _; omega⟩
theorem make_depth {A : Around} {C : Addr} {us : List Value} {kw : List (Str × Value)} : (A.under (.builtin "type.__call__" ⟨.ref C :: us, kw⟩)).depth = A.depth + 1 := by
  first | rfl | simp [Around.under, Code.weight, Code.isCreation, Code.isGuard, Code.isCaller, Code.frames, Code.isFrame, guardIds]
theorem make_units {A : Around} {C : Addr} {us : List Value} {kw : List (Str × Value)} : (A.under (.builtin "type.__call__" ⟨.ref C :: us, kw⟩)).units = A.units + 1 := by
  first | rfl | simp [Around.under, Code.cUnits, Code.frames, Code.isFrame]
theorem Room.make {k : Nat} {A : Around} (r : Room (k + 1) A) (C : Addr) (us : List Value) (kw : List (Str × Value)) : Room k (A.under (.builtin "type.__call__" ⟨.ref C :: us, kw⟩)) :=
  ⟨r.hd, by have := r.dp; rw [make_depth]; omega, by have := r.un; rw [make_units]; omega⟩
theorem Room.depth {k : Nat} {A : Around} (r : Room k A) : A.depth < recursionLimit := by have := r.dp; omega
theorem Room.units {k : Nat} {A : Around} (r : Room k A) : A.units + 64 < cLine := by have := r.un; omega
theorem Room.units0 {k : Nat} {A : Around} (r : Room k A) : A.units < cLine := by have := r.un; omega

/-! ### argument lists and displays -/
def tNil : TA := fun _ H Q => Q [] H
def tCons (ta : TE) (tr : TA) : TA := fun σ H Q => ta σ H fun x H1 => tr σ H1 fun xs H2 => Q (x :: xs) H2
section
variable {X : Cx} {e : Expr} {es : List Expr} {te : TE} {t : TA} {pos : Pos}
theorem pa_nil : PA X [] tNil := fun _ _ _ _ H Q I h => Calls.spliced_nil ⟨[], H, I, .nil, h⟩
theorem pa_cons (ha : PE X e te) (hr : PA X es t) (hs : starEach (e :: es) X.env = (false, eval e X.env) :: starEach es X.env := by rfl) : PA X (e :: es) (tCons te t) := by
  intro pos pins s σ H Q I h
  rw [hs]
  show wpAny _ _ (spliced ((false, eval e X.env) :: backTo pos (starEach es X.env))) _ _ s
  refine Calls.spliced_cons (thn (ha pins s σ H _ I h) fun u s1 ⟨x, H1, I1, r1, q1⟩ => ?_)
  exact thn (hr pos pins s1 σ H1 _ I1 q1) fun us s2 ⟨xs, H2, I2, r2, q2⟩ => ⟨x :: xs, H2, I2, .cons r1 r2, q2⟩

/-- a tuple, a list of written items -/
def tTup (t : TA) : TE := fun σ H Q => t σ H fun xs H1 => xs.length ≤ sizeLine ∧ ∀ p, H1 p = none → Q (.ref p) (upd H1 p (.tup xs))
def tLst (t : TA) : TE := fun σ H Q => t σ H fun xs H1 => xs.length ≤ sizeLine ∧ ∀ p, H1 p = none → Q (.ref p) (upd H1 p (.lst xs))
theorem pe_tup {x1} (h : PA X es t) : PE X (.Tuple es x1 pos) (tTup t) := by
  intro pins s σ H Q I hq
  refine wpAny_Tuple_spliced (thn (h pos pins s σ H _ I hq) fun us s1 ⟨xs, H1, I1, r, z, q⟩ => ⟨by rw [← r.length]; exact z, ?_⟩)
  have hf : H1 s1.heap.objs.size = none := I1.hok.fresh (Nat.le_refl _)
  refine ⟨.ref s1.heap.objs.size, upd H1 s1.heap.objs.size (.tup xs), I1.laid (t' := s1.toks) (fun b u e => Heap.get?_push_of_some _ e) (Nat.le_refl _) ?_, rfl, q _ hf⟩
  exact ⟨z, us, r, ⟨_, Heap.get?_push_size _ rfl, rfl, _, rfl⟩⟩
theorem pe_lst (h : PA X es t) : PE X (.List es pos) (tLst t) := by
  intro pins s σ H Q I hq
  refine wpAny_List_spliced (thn (h pos pins s σ H _ I hq) fun us s1 ⟨xs, H1, I1, r, z, q⟩ => ⟨by rw [← r.length]; exact z, ?_⟩)
  have hf : H1 s1.heap.objs.size = none := I1.hok.fresh (Nat.le_refl _)
  refine ⟨.ref s1.heap.objs.size, upd H1 s1.heap.objs.size (.lst xs), I1.laid (t' := s1.toks) (fun b u e => Heap.get?_push_of_some _ e) (Nat.le_refl _) ?_, rfl, q _ hf⟩
  exact ⟨z, us, 0, r, Heap.get?_push_size _ rfl⟩
end

/-! ### what a def promises -/
/-- a def's promise: the bound arguments in the parameters' order, the heap, the wanted end, the wanted exception -/
abbrev Sp := List V → Hp → VK → XK → Prop
/-- how an exception lies behind a call (file 08 gives it): the callers' frames, abstract heap and state ahead of the call, the wish, the exception, the state -/
abbrev CXT := List Env → Hp → Shared → XK → Value → Shared → Prop

/-- the state at a call -/
structure Env0 (P : Program) (w : World) (K : PySem.W.Frag) (mg : Str → Option Value) (base : Heap) (A : Around) (outer : List Env) (s : Shared) (H : Hp) : Prop where
  frames : A.frames = some outer
  mod : Mod K mg base
  bs : ∀ b o, base.get? b = some o → s.heap.get? b = some o ∧ H b = none
  bsz : base.objs.size ≤ s.heap.objs.size
  funs : s.heap.FunFrames base outer
  frf : ∀ b ∈ frs outer, H b = none
  hok : HOk P w H s.heap
  bare : AllBare s.gens
/-- a call's end -/
def CE (outer : List Env) (P : Program) (w : World) (H : Hp) (s : Shared) (Q : VK) (u : Value) (s' : Shared) : Prop :=
  ∃ v H', s'.os = s.os ∧ AllBare s'.gens ∧ Un (frs outer) [] H H' s.heap s'.heap ∧ HOk P w H' s'.heap ∧ RelV v u ∧ Q v H'
def CR (CX : CXT) (outer : List Env) (P : Program) (w : World) (H : Hp) (s : Shared) (Q : VK) (E : XK) (r : Result) (s' : Shared) : Prop :=
  match r with
  | .ok (.ret u) => CE outer P w H s Q u s'
  | .ok _ => False
  | .error e => CX outer H s E e s'
structure FnOk (P : Program) (w : World) (K : PySem.W.Frag) (mg : Str → Option Value) (base : Heap) (CX : CXT) (k : Nat) (f : Addr) (fd : FuncData) (ps : List Str) (sp : Sp) : Prop where
  len : ∀ vs H Q E, sp vs H Q E → vs.length = ps.length
  run : ∀ (A : Around) (outer : List Env) (s : Shared) (H : Hp) (args : Args) (us : List Value) (vs : List V) (Q : VK) (E : XK), Room k A → Env0 P w K mg base A outer s H → BindsTo s fd args (ps.zip us) → Vals vs us → sp vs H Q E →
    codeAny (model P w) A (.call (.ref f) args) (CR CX outer P w H s Q E) s
theorem FnOk.mono {P : Program} {w : World} {K : PySem.W.Frag} {mg : Str → Option Value} {base : Heap} {CX : CXT} {j k : Nat} {f : Addr} {fd : FuncData} {ps : List Str} {sp : Sp} (F : FnOk P w K mg base CX j f fd ps sp) (h : j ≤ k) :
    FnOk P w K mg base CX k f fd ps sp := ⟨F.len, fun A outer s H args us vs Q E hr => F.run A outer s H args us vs Q E (hr.mono h)⟩
/-- a weaker promise -/
theorem FnOk.imp {P : Program} {w : World} {K : PySem.W.Frag} {mg : Str → Option Value} {base : Heap} {CX : CXT} {k : Nat} {f : Addr} {fd : FuncData} {ps : List Str} {sp sp' : Sp} (F : FnOk P w K mg base CX k f fd ps sp)
    (h : ∀ vs H Q E, sp' vs H Q E → sp vs H Q E) : FnOk P w K mg base CX k f fd ps sp' :=
  ⟨fun vs H Q E q => F.len vs H Q E (h _ _ _ _ q), fun A outer s H args us vs Q E hr he hb hv hs => F.run A outer s H args us vs Q E hr he hb hv (h _ _ _ _ hs)⟩

theorem Env0.make {P : Program} {w : World} {K : PySem.W.Frag} {mg : Str → Option Value} {base : Heap} {A : Around} {outer : List Env} {s : Shared} {H : Hp} (e : Env0 P w K mg base A outer s H) (C : Addr) (us : List Value) (kw : List (Str × Value)) :
    Env0 P w K mg base (A.under (.builtin "type.__call__" ⟨.ref C :: us, kw⟩)) outer s H := ⟨by first | exact e.frames | (simpa [Around.under, Code.envs, Code.isFrame, pushEnvs] using e.frames), e.mod, e.bs, e.bsz, e.funs, e.frf, e.hok, e.bare⟩
theorem Env0.in1 {P : Program} {w : World} {K : PySem.W.Frag} {mg : Str → Option Value} {base : Heap} {A : Around} {outer : List Env} {s : Shared} {H : Hp} (e : Env0 P w K mg base A outer s H) :
    Env0 P w K mg base A.in1 outer s H := ⟨e.frames, e.mod, e.bs, e.bsz, e.funs, e.frf, e.hok, e.bare⟩

section
variable {X : Cx} {pins : List (Addr × Obj)} {σ : St} {H : Hp} {s s' : Shared}
/-- from a body: what a callee wants -/
theorem Inv.env0 (I : Inv X pins σ H s) : Env0 X.prog X.w X.K X.mg X.base X.A X.stack s H :=
  ⟨I.ok.frames, I.ok.mod, I.bs, Nat.le_trans I.ok.bsz I.sz, I.stack, I.stkFree, I.hok, I.bare⟩
/-- behind a call -/
theorem Inv.after {Q : VK} {u : Value} (I : Inv X pins σ H s) (h : CE X.stack X.prog X.w H s Q u s') : EP X pins σ Q u s' := by
  obtain ⟨v, H', os, bare, un, hok, r, q⟩ := h
  obtain ⟨hh, g, d, t, os'⟩ := s'
  obtain rfl : os' = s.os := os
  exact ⟨v, H', I.call (h' := hh) (g' := g) (d' := d) (t' := t) (ch := []) un hok bare (fun b z => absurd z (by simp)), r, q⟩
end

/-! ### calls -/
/-- f(..): the written arguments, then the defaults dvs; E: what is wanted of an exception -/
def tCall (sp : Sp) (dvs : List V) (E : XK) (t : TA) : TE := fun σ H Q => t σ H fun vs H1 => sp (vs ++ dvs) H1 Q E
/-- o.m(..) of an instance of the class at C -/
def tMeth (C : Addr) (m : Str) (sp : Sp) (dvs : List V) (E : XK) (ta : TE) (t : TA) : TE := fun σ H Q => ta σ H fun x H1 => ∃ a dx fs, x = .ref a ∧ H1 a = some (.ins C dx fs) ∧ fs.lookup m = none ∧
  t σ H1 fun vs H2 => sp (x :: (vs ++ dvs)) H2 Q E
/-- C(..): a new instance and its dict, then __init__ -/
def tMake (C : Addr) (sp : Sp) (dvs : List V) (E : XK) (t : TA) : TE := fun σ H Q => t σ H fun vs H1 => ∀ x dx, H1 x = none → H1 dx = none → dx ≠ x →
  sp (.ref x :: (vs ++ dvs)) (upd (upd H1 dx (.own x)) x (.ins C dx [])) (fun v H2 => v = .non ∧ Q (.ref x) H2) E

/-- how the parameters are bound: us the positional arguments, kw the keywords' values by name, ds the defaults that fill up -/
def Binds (K : PySem.W.Frag) (fd : FuncData) (ps : List Str) (ds : List Value) : Prop :=
  ∀ (s : Shared) (us : List Value), K.In s.heap → (us ++ ds).length = ps.length → BindsTo s fd ⟨us, []⟩ (ps.zip (us ++ ds))
/-- every parameter is given -/
theorem Binds.all {K : PySem.W.Frag} {fd : FuncData} {ps : List Str} (h : ∀ us : List Value, us.length = ps.length → bindArgs fd ⟨us, []⟩ = pure (ps.zip us)) : Binds K fd ps [] := fun s us _ hl => by
  rw [List.append_nil] at hl ⊢
  exact .of_eq (h us hl)

/-- an exception of a callee reaches what this body wants of exceptions -/
def Passes (CX : CXT) (X : Cx) (E : XK) : Prop := ∀ (pins : List (Addr × Obj)) (σ : St) (H : Hp) (s : Shared) (e : Value) (s' : Shared), Inv X pins σ H s → CX X.stack H s E e s' → X.xe e s'

section
variable {X : Cx} {CX : CXT} {k : Nat} {f C : Addr} {fd : FuncData} {ps : List Str} {sp : Sp} {dvs : List V} {ds : List Value} {E : XK} {x m : Str} {p pos apos : Pos} {e o : Expr} {es : List Expr} {ta : TE} {t : TA}

/-- the callee runs -/
theorem run_fn {pins : List (Addr × Obj)} {σ : St} {H : Hp} {s : Shared} {Q : VK} {us : List Value} {vs : List V} (F : FnOk X.prog X.w X.K X.mg X.base CX k f fd ps sp) (hr : Room k X.A) (hb : Binds X.K fd ps ds) (hd : Vals dvs ds) (hx : Passes CX X E)
    (I : Inv X pins σ H s) (r : Vals vs us) (h : sp (vs ++ dvs) H Q E) : wpAny (model X.prog X.w) X.A (call (.ref f) us) (EP X pins σ Q) X.xe s := by
  have r2 : Vals (vs ++ dvs) (us ++ ds) := r.append hd
  have hl : (us ++ ds).length = ps.length := by rw [← r2.length]; exact F.len _ _ _ _ h
  refine wpAny_call (codeAny_mono (F.run X.A X.stack s H ⟨us, []⟩ (us ++ ds) (vs ++ dvs) Q E hr I.env0 (hb s us I.kIn hl) r2 h) fun r s' hq => ?_)
  cases r with
  | error e => exact hx pins σ H s e s' I hq
  | ok fl =>
    cases fl with
    | ret u => exact I.after hq
    | next => exact False.elim hq
    | brk => exact False.elim hq
    | cont => exact False.elim hq

theorem pe_call (F : FnOk X.prog X.w X.K X.mg X.base CX k f fd ps sp) (hr : Room k X.A) (hg : Gl X x) (hm : X.mg x = some (.ref f)) (hk : PySem.W.keepIn X.K (.ref f) = true) (hb : Binds X.K fd ps ds) (hd : Vals dvs ds) (hx : Passes CX X E)
    (ha : PA X (e :: es) t) (hdb : (x == ("__debug__" : Str)) = false := by decide) (he : starEach (e :: es) X.env = (false, eval e X.env) :: starEach es X.env := by rfl) (hpl : (backTo pos (starEach es X.env)).any (·.1) = false := by rfl) :
    PE X (.Call (.Name x p) (e :: es) [] pos) (tCall sp dvs E t) := by
  intro pins s σ H Q I h
  refine wpAny_Call_Name_kw (ld_glob I hg hm ?_ hdb)
  refine PySem.W.callWith_K (h₀ := X.base) I.ok.mod.kin hk (thn (ha pos pins s σ H _ I h) fun us s1 ⟨vs, H1, I1, r, q⟩ => ⟨I1.kIn, ?_⟩) he hpl
  exact run_fn F hr hb hd hx I1 r q
theorem pe_call0 (F : FnOk X.prog X.w X.K X.mg X.base CX k f fd ps sp) (hr : Room k X.A) (hg : Gl X x) (hm : X.mg x = some (.ref f)) (hk : PySem.W.keepIn X.K (.ref f) = true) (hb : Binds X.K fd ps ds) (hd : Vals dvs ds) (hx : Passes CX X E)
    (hdb : (x == ("__debug__" : Str)) = false := by decide) : PE X (.Call (.Name x p) [] [] pos) (tCall sp dvs E tNil) := by
  intro pins s σ H Q I h
  refine wpAny_Call_Name_kw (ld_glob I hg hm ?_ hdb)
  exact PySem.W.callWith_K0 I.kIn hk (run_fn (us := []) F hr hb hd hx I .nil h)

/-- o.m(e, ..) -/
theorem pe_meth {pl : Sem Bool} (he : PE X o ta) (c : Cls X.K C) (hm : Meth X.K C m f) (F : FnOk X.prog X.w X.K X.mg X.base CX k f fd ps sp) (hr : Room k X.A) (hb : Binds X.K fd ps ds) (hd : Vals dvs ds) (hx : Passes CX X E) (ha : PA X (e :: es) t)
    (hst : starEach (e :: es) X.env = (false, eval e X.env) :: starEach es X.env := by rfl) (hpl : (backTo pos (starEach es X.env)).any (·.1) = false := by rfl)
    (ht : eval (.Call (.Attribute o m apos) (e :: es) [] pos) X.env = (do
      let ov ← eval o X.env
      standAt apos.atName
      let (f, first) ← holding [ov] (getMethod ov m pl)
      callWith pos f first (backTo pos (starEach (e :: es) X.env)) (backToKw pos (keywordEach [] X.env))) := by rfl) :
    PE X (.Call (.Attribute o m apos) (e :: es) [] pos) (tMeth C m sp dvs E ta t) := by
  intro pins s σ H Q I h
  refine PySem.W.methodCall_KW (pl := pl) (thn (he pins s σ H _ I h) fun u s1 ⟨x, H1, I1, rx, a, dx, fs, ex, ea, l, q⟩ => ?_) ht
  subst ex
  obtain rfl : u = Value.ref a := rx
  refine getmeth_ok I1 ea c hm l ?_
  refine PySem.W.callWith_K (first := [.ref a]) (h₀ := X.base) I.ok.mod.kin hm.kp (thn (ha pos pins s1 σ H1 _ I1 q) fun us s2 ⟨vs, H2, I2, r, q2⟩ => ⟨I2.kIn, ?_⟩) hst hpl
  exact run_fn (us := .ref a :: us) (vs := .ref a :: vs) F hr hb hd hx I2 (.cons rfl r) q2
/-- o.m() -/
theorem pe_meth0 {pl : Sem Bool} (he : PE X o ta) (c : Cls X.K C) (hm : Meth X.K C m f) (F : FnOk X.prog X.w X.K X.mg X.base CX k f fd ps sp) (hr : Room k X.A) (hb : Binds X.K fd ps ds) (hd : Vals dvs ds) (hx : Passes CX X E)
    (ht : eval (.Call (.Attribute o m apos) [] [] pos) X.env = (do
      let ov ← eval o X.env
      standAt apos.atName
      let (f, first) ← holding [ov] (getMethod ov m pl)
      callWith pos f first (backTo pos (starEach [] X.env)) (backToKw pos (keywordEach [] X.env))) := by rfl) :
    PE X (.Call (.Attribute o m apos) [] [] pos) (tMeth C m sp dvs E ta tNil) := by
  intro pins s σ H Q I h
  refine PySem.W.methodCall_KW (pl := pl) (thn (he pins s σ H _ I h) fun u s1 ⟨x, H1, I1, rx, a, dx, fs, ex, ea, l, q⟩ => ?_) ht
  subst ex
  obtain rfl : u = Value.ref a := rx
  refine getmeth_ok I1 ea c hm l ?_
  exact PySem.W.callWith_K0 (first := [.ref a]) I1.kIn hm.kp (run_fn (us := [.ref a]) (vs := [.ref a]) F hr hb hd hx I1 (.cons rfl .nil) q)

/-- what a class must have to be made -/
structure Mk (K : PySem.W.Frag) (C f : Addr) : Prop where
  makes : PySem.W.makesIn K C = true
  init : PySem.W.findIn K (.ref C) "__init__" = some (some (.ref f))
  fn : PySem.W.isFn K (.ref f) = true
  kp : PySem.W.keepIn K (.ref C) = true

theorem run_make {pins : List (Addr × Obj)} {σ : St} {H : Hp} {s : Shared} {Q : VK} {us : List Value} {vs : List V} (M : Mk X.K C f) (F : FnOk X.prog X.w X.K X.mg X.base CX k f fd ps sp) (hr : Room (k + 1) X.A) (hb : Binds X.K fd ps ds) (hd : Vals dvs ds)
    (hx : Passes CX X E) (I : Inv X pins σ H s) (r : Vals vs us)
    (h : ∀ x dx, H x = none → H dx = none → dx ≠ x → sp (.ref x :: (vs ++ dvs)) (upd (upd H dx (.own x)) x (.ins C dx [])) (fun v H2 => v = .non ∧ Q (.ref x) H2) E) :
    wpAny (model X.prog X.w) X.A (call (.ref C) us) (EP X pins σ Q) X.xe s := by
  have hq := h (s.heap.objs.size + 1) s.heap.objs.size (I.hok.fresh (Nat.le_succ _)) (I.hok.fresh (Nat.le_refl _)) (Nat.ne_of_lt (Nat.lt_succ_self _))
  have I2 := Inv.made (C := C) I
  have r2 : Vals (V.ref (s.heap.objs.size + 1) :: (vs ++ dvs)) (Value.ref (s.heap.objs.size + 1) :: (us ++ ds)) := .cons rfl (r.append hd)
  have hl : (Value.ref (s.heap.objs.size + 1) :: us ++ ds).length = ps.length := by
    have e := r2.length
    rw [F.len _ _ _ _ hq] at e
    exact e.symm
  refine wpAny_call (make_map (f := f) I.kIn M.makes M.init (beq_iff_eq.mp M.fn) (codeAny_mono (F.run _ X.stack _ _ ⟨Value.ref (s.heap.objs.size + 1) :: us, []⟩ (Value.ref (s.heap.objs.size + 1) :: (us ++ ds)) _ _ E (hr.make C us [])
    (I2.env0.make C us []) (hb _ (Value.ref (s.heap.objs.size + 1) :: us) I2.kIn hl) r2 hq) fun r s' hq' => ?_))
  cases r with
  | error e => exact hx pins σ _ _ e s' I2 hq'
  | ok fl =>
    cases fl with
    | ret u =>
      obtain ⟨v, H', I3, rv, ev, q3⟩ := I2.after hq'
      subst ev
      exact ⟨rv, ⟨V.ref (s.heap.objs.size + 1), H', I3, rfl, q3⟩⟩
    | next => exact False.elim hq'
    | brk => exact False.elim hq'
    | cont => exact False.elim hq'
theorem pe_make (M : Mk X.K C f) (F : FnOk X.prog X.w X.K X.mg X.base CX k f fd ps sp) (hr : Room (k + 1) X.A) (hg : Gl X x) (hm : X.mg x = some (.ref C)) (hb : Binds X.K fd ps ds) (hd : Vals dvs ds) (hx : Passes CX X E)
    (ha : PA X (e :: es) t) (hdb : (x == ("__debug__" : Str)) = false := by decide) (he : starEach (e :: es) X.env = (false, eval e X.env) :: starEach es X.env := by rfl) (hpl : (backTo pos (starEach es X.env)).any (·.1) = false := by rfl) :
    PE X (.Call (.Name x p) (e :: es) [] pos) (tMake C sp dvs E t) := by
  intro pins s σ H Q I h
  refine wpAny_Call_Name_kw (ld_glob I hg hm ?_ hdb)
  refine PySem.W.callWith_K (h₀ := X.base) I.ok.mod.kin M.kp (thn (ha pos pins s σ H _ I h) fun us s1 ⟨vs, H1, I1, r, q⟩ => ⟨I1.kIn, ?_⟩) he hpl
  exact run_make M F hr hb hd hx I1 r q
theorem pe_make0 (M : Mk X.K C f) (F : FnOk X.prog X.w X.K X.mg X.base CX k f fd ps sp) (hr : Room (k + 1) X.A) (hg : Gl X x) (hm : X.mg x = some (.ref C)) (hb : Binds X.K fd ps ds) (hd : Vals dvs ds) (hx : Passes CX X E)
    (hdb : (x == ("__debug__" : Str)) = false := by decide) : PE X (.Call (.Name x p) [] [] pos) (tMake C sp dvs E tNil) := by
  intro pins s σ H Q I h
  refine wpAny_Call_Name_kw (ld_glob I hg hm ?_ hdb)
  exact PySem.W.callWith_K0 I.kIn M.kp (run_make (us := []) M F hr hb hd hx I .nil h)
end

/-! ### keywords -/
/-- the values of the keywords, from the left -/
def PK (X : Cx) (kws : List Keyword) (t : TA) : Prop :=
  ∀ (pos : Pos) (pins : List (Addr × Obj)) (s : Shared) (σ : St) (H : Hp) (Q : List V → Hp → Prop), Inv X pins σ H s → t σ H Q → wpAny (model X.prog X.w) X.A (evalAll ((backToKw pos (keywordEach kws X.env)).map (·.2))) (AP X pins σ Q) X.xe s
section
variable {X : Cx} {CX : CXT} {k : Nat} {f C : Addr} {fd : FuncData} {ps ks : List Str} {sp : Sp} {E : XK} {x m : Str} {p pos apos kpos : Pos} {e o : Expr} {es : List Expr} {kws : List Keyword} {te ta : TE} {t tk : TA} {nm : Option Str}
theorem pk_nil : PK X [] tNil := fun _ _ _ _ H Q I h => wpAny_evalAll_nil ⟨[], H, I, .nil, h⟩
theorem pk_cons (ha : PE X e te) (hr : PK X kws t) : PK X (⟨nm, e, kpos⟩ :: kws) (tCons te t) := by
  intro pos pins s σ H Q I h
  show wpAny _ _ (evalAll ((do let v ← eval e X.env; standAt pos; pure v) :: (backToKw pos (keywordEach kws X.env)).map (·.2))) _ _ s
  refine wpAny_evalAll_cons (wpAny_bind (thn (ha pins s σ H _ I h) fun u s1 ⟨x, H1, I1, r1, q1⟩ => wpAny_bind (wpAny_standAt (wpAny_pure ?_))))
  exact thn (hr pos pins s1 σ H1 _ I1 q1) fun us s2 ⟨xs, H2, I2, r2, q2⟩ => ⟨x :: xs, H2, I2, .cons r1 r2, q2⟩

/-- how a call with keywords binds: g puts the positional values us and the keywords' values ws (names ks) in the parameters' order, defaults among them -/
structure KBinds (K : PySem.W.Frag) (fd : FuncData) (ps ks : List Str) (g : List Value → List Value → List Value) (gV : List V → List V → List V) : Prop where
  to : ∀ (s : Shared) (us ws : List Value), K.In s.heap → (g us ws).length = ps.length → BindsTo s fd ⟨us, ks.zip ws⟩ (ps.zip (g us ws))
  rel : ∀ {vs : List V} {us : List Value} {zs : List V} {ws : List Value}, Vals vs us → Vals zs ws → Vals (gV vs zs) (g us ws)
def tCallK (sp : Sp) (gV : List V → List V → List V) (E : XK) (t tk : TA) : TE := fun σ H Q => t σ H fun vs H1 => tk σ H1 fun zs H2 => sp (gV vs zs) H2 Q E
variable {g : List Value → List Value → List Value} {gV : List V → List V → List V}
theorem run_fnk {pins : List (Addr × Obj)} {σ : St} {H : Hp} {s : Shared} {Q : VK} {us ws : List Value} {vs zs : List V} (F : FnOk X.prog X.w X.K X.mg X.base CX k f fd ps sp) (hr : Room k X.A) (hb : KBinds X.K fd ps ks g gV) (hx : Passes CX X E)
    (I : Inv X pins σ H s) (r : Vals vs us) (rz : Vals zs ws) (h : sp (gV vs zs) H Q E) : wpAny (model X.prog X.w) X.A (call (.ref f) us (ks.zip ws)) (EP X pins σ Q) X.xe s := by
  have r2 := hb.rel r rz
  have hl : (g us ws).length = ps.length := by rw [← r2.length]; exact F.len _ _ _ _ h
  refine wpAny_call (codeAny_mono (F.run X.A X.stack s H ⟨us, ks.zip ws⟩ (g us ws) (gV vs zs) Q E hr I.env0 (hb.to s us ws I.kIn hl) r2 h) fun r s' hq => ?_)
  cases r with
  | error e => exact hx pins σ H s e s' I hq
  | ok fl =>
    cases fl with
    | ret u => exact I.after hq
    | next => exact False.elim hq
    | brk => exact False.elim hq
    | cont => exact False.elim hq
/-- f(e, .., k = v, ..) -/
theorem pe_callK (F : FnOk X.prog X.w X.K X.mg X.base CX k f fd ps sp) (hr : Room k X.A) (hg : Gl X x) (hm : X.mg x = some (.ref f)) (hk : PySem.W.keepIn X.K (.ref f) = true) (hb : KBinds X.K fd ps ks g gV) (hx : Passes CX X E)
    (ha : PA X (e :: es) t) (hkw : PK X kws tk) (hall : (backToKw pos (keywordEach kws X.env)).all (·.1.isSome) = true := by rfl) (hks : (backToKw pos (keywordEach kws X.env)).filterMap (·.1) = ks := by rfl)
    (hdb : (x == ("__debug__" : Str)) = false := by decide) (he : starEach (e :: es) X.env = (false, eval e X.env) :: starEach es X.env := by rfl)
    (hpl : ((backTo pos (starEach (e :: es) X.env)).any (·.1) || (backToKw pos (keywordEach kws X.env)).any (·.1.isNone)) = false := by rfl) :
    PE X (.Call (.Name x p) (e :: es) kws pos) (tCallK sp gV E t tk) := by
  intro pins s σ H Q I h
  refine wpAny_Call_Name_kw (ld_glob I hg hm ?_ hdb)
  refine PySem.W.callWith_KW (h₀ := X.base) I.ok.mod.kin hk hall (thn (ha pos pins s σ H _ I h) fun us s1 ⟨vs, H1, I1, r, q⟩ => ?_) hpl he
  refine thn (hkw pos pins s1 σ H1 _ I1 q) fun ws s2 ⟨zs, H2, I2, rz, q2⟩ => ⟨I2.kIn, ?_⟩
  rw [hks]
  exact run_fnk F hr hb hx I2 r rz q2
end

/-! ### a def's body keeps its promise -/
/-- names: the parameters first -/
structure FnScope (N P : List Str) (sc : Scope) : Prop where
  kind : sc.kind = .function
  co : sc.isCoroutine = false
  gen : sc.isGenerator = false
  nd : N.Nodup
  pre : N.take P.length = P
  par : ∀ x ∈ P, sc.names.lookup x = some .local ∨ sc.names.lookup x = some .cell
  nofree : ∀ y ∈ sc.names, y.2 ≠ .free

theorem bindL_out {kindOf : Str → Option NameKind} {x : Str} : ∀ {binds : List (Str × Value)} {m : Str → Option Value}, (∀ v, (x, v) ∉ binds) → bindL kindOf binds m x = m x
  | [], _, _ => rfl
  | (n, v) :: r, m, h => by
    unfold bindL
    rw [bindL_out fun w hw => h w (List.mem_cons_of_mem _ hw)]
    split
    · have : x ≠ n := by rintro rfl; exact h v List.mem_cons_self
      simp [this]
    · rfl
theorem bindC_out {kindOf : Str → Option NameKind} {x : Str} : ∀ {binds : List (Str × Value)} {m : Str → Option Value}, (∀ v, (x, v) ∉ binds) → bindC kindOf binds m x = m x
  | [], _, _ => rfl
  | (n, v) :: r, m, h => by
    unfold bindC
    rw [bindC_out fun w hw => h w (List.mem_cons_of_mem _ hw)]
    split
    · rfl
    · have : x ≠ n := by rintro rfl; exact h v List.mem_cons_self
      simp [this]
theorem bindL_get {kindOf : Str → Option NameKind} {x : Str} {v : Value} : ∀ {P : List Str} {vs : List Value} {i : Nat} {m : Str → Option Value}, P.Nodup → P[i]? = some x → vs[i]? = some v → kindOf x = some .local →
    bindL kindOf (P.zip vs) m x = some v
  | [], _, _, _, _, h, _, _ => by simp at h
  | _ :: _, [], _, _, _, _, h, _ => by simp at h
  | p :: P, w :: vs, 0, m, nd, h1, h2, hk => by
    simp at h1 h2; subst h1; subst h2
    show bindL kindOf ((p, w) :: P.zip vs) m p = _
    unfold bindL
    rw [bindL_out fun v hv => (List.nodup_cons.mp nd).1 (List.of_mem_zip hv).1, if_pos hk]
    simp
  | p :: P, w :: vs, i + 1, m, nd, h1, h2, hk => by
    show bindL kindOf ((p, w) :: P.zip vs) m x = _
    unfold bindL
    exact bindL_get (i := i) (List.nodup_cons.mp nd).2 (by simpa using h1) (by simpa using h2) hk
theorem bindC_get {kindOf : Str → Option NameKind} {x : Str} {v : Value} : ∀ {P : List Str} {vs : List Value} {i : Nat} {m : Str → Option Value}, P.Nodup → P[i]? = some x → vs[i]? = some v → kindOf x ≠ some .local →
    bindC kindOf (P.zip vs) m x = some v
  | [], _, _, _, _, h, _, _ => by simp at h
  | _ :: _, [], _, _, _, _, h, _ => by simp at h
  | p :: P, w :: vs, 0, m, nd, h1, h2, hk => by
    simp at h1 h2; subst h1; subst h2
    show bindC kindOf ((p, w) :: P.zip vs) m p = _
    unfold bindC
    rw [bindC_out fun v hv => (List.nodup_cons.mp nd).1 (List.of_mem_zip hv).1, if_neg hk]
    simp
  | p :: P, w :: vs, i + 1, m, nd, h1, h2, hk => by
    show bindC kindOf ((p, w) :: P.zip vs) m x = _
    unfold bindC
    exact bindC_get (i := i) (List.nodup_cons.mp nd).2 (by simpa using h1) (by simpa using h2) hk

/-- the names' values at the entry -/
def start (N : List Str) (vs : List V) : St := vs.map some ++ List.replicate (N.length - vs.length) none

/-- the context of a def's body, at its entry; an exception leaves the frame, then lies as CX says -/
def cxOf (CX : CXT) (P : Program) (w : World) (K : PySem.W.Frag) (mg : Str → Option Value) (base : Heap) (N : List Str) (qual : Str) (scope : Scope) (f : Addr) (cd : Value) (A : Around) (outer : List Env) (s : Shared) (H : Hp) (E : XK) : Cx where
  prog := P
  w := w
  K := K
  mg := mg
  base := base
  A := A.deeper (envOfC qual scope s.heap.objs.size f cd)
  N := N
  s₀ := s
  H₀ := H
  env := envOfC qual scope s.heap.objs.size f cd
  outer := outer
  stack := envOfC qual scope s.heap.objs.size f cd :: outer
  ex := []
  calm := true
  fn := fun _ => true
  pn := []
  xe := fun e s' => wpAny (model P w) (A.deeper (envOfC qual scope s.heap.objs.size f cd)) (leaving (envOfC qual scope s.heap.objs.size f cd) e) (fun _ s'' => CX outer H s E e s'') (fun e' s'' => CX outer H s E e' s'') s'

theorem cell_has {sc : Scope} {n : Nat} {x : Str} (h : sc.names.lookup x = some .cell) : ∃ c, (cellsFrom n sc.names []).lookup x = some c := by
  have q := PySem.W.cellsFrom_some sc.names n [] (.inl h)
  exact Option.isSome_iff_exists.mp q

theorem inv_start {CX : CXT} {P : Program} {w : World} {K : PySem.W.Frag} {mg : Str → Option Value} {base : Heap} {N ps : List Str} {qual : Str} {scope : Scope} {f : Addr} {cd : Value} {A : Around} {outer : List Env} {s s1 : Shared} {H : Hp} {E : XK} {us : List Value} {vs : List V}
    (S : FnScope N ps scope) (hd : A.handled = none) (e0 : Env0 P w K mg base A outer s H) (hl : vs.length = ps.length) (r : Vals vs us)
    (x : InCallC s s.heap.objs.size (bindL (envOfC qual scope s.heap.objs.size f cd).kindOf (ps.zip us) fun _ => none) (cellsFrom (s.heap.objs.size + 1) scope.names []) (bindC (envOfC qual scope s.heap.objs.size f cd).kindOf (ps.zip us) fun _ => none) s1) :
    Inv (cxOf CX P w K mg base N qual scope f cd A outer s H E) [] (start N vs) H s1 := by
  have hpl : ps.length ≤ N.length := by have := congrArg List.length S.pre; rw [List.length_take] at this; omega
  obtain ⟨h1, tk, rfl, hk⟩ := x.done
  have noA : ∀ b : Addr, b ∉ (cxOf CX P w K mg base N qual scope f cd A outer s H E).ex := fun b z => absurd (show b ∈ ([] : List Addr) from z) (by simp)
  refine ⟨⟨e0.mod, S.kind, rfl, rfl, Nat.le_refl _, fun y z c h1 h2 => ?_, fun y hy => ?_, fun y c _ h => ?_, fun _ => hd, Around.frames_deeper e0.frames, .inr ⟨rfl, rfl⟩, fun b z => absurd z (noA b), e0.bs, e0.bsz, fun b _ _ => noA b, fun b z => absurd z (noA b), e0.funs, e0.frf⟩,
    rfl, e0.bare, Un.kept hk, ⟨_, x.toInCall.ns, fun i y v h1 h2 h3 => ?_⟩, fun y c h => ⟨_, x.cell y c h⟩, e0.hok.fresh (Nat.le_refl _), fun y c h => ?_, fun p hp => absurd (show p ∈ ([] : List (Addr × Obj)) from hp) (by simp), e0.hok.kept hk, ?_⟩
  · exact name_of_addr x.apart (PySem.mem_of_lookup h1) (PySem.mem_of_lookup h2)
  · have hy : scope.names.lookup y = some .cell ∨ scope.names.lookup y = some .free := hy
    rcases hy with hy | hy
    · exact cell_has hy
    · exact absurd rfl (S.nofree _ (PySem.mem_of_lookup hy))
  · exact Nat.le_of_lt (x.above y c (PySem.mem_of_lookup h))
  · have hi : i < vs.length := by
      unfold start at h2
      by_cases hi : i < vs.length
      · exact hi
      · rw [List.getElem?_append_right (by simpa using hi)] at h2
        rw [List.getElem?_replicate] at h2
        split at h2 <;> cases h2
    have ha : vs[i]? = some v := by
      unfold start at h2
      rw [List.getElem?_append_left (by simpa using hi), List.getElem?_map] at h2
      cases e : vs[i]? with
      | none => rw [e] at h2; cases h2
      | some a => rw [e] at h2; cases h2; rfl
    obtain ⟨u, hu, rv⟩ := r.get ha
    have hp : ps[i]? = some y := by
      rw [← S.pre, List.getElem?_take_of_lt (by omega)]; exact h1
    have ndP : ps.Nodup := by rw [← S.pre]; exact S.nd.sublist (List.take_sublist _ _)
    refine ⟨u, rv, ?_⟩
    rcases S.par y (List.mem_of_getElem? hp) with k | k
    · exact .inl ⟨k, bindL_get ndP hp hu k⟩
    · obtain ⟨c, e⟩ := cell_has (n := s.heap.objs.size + 1) k
      refine .inr ⟨.inl k, c, e, ?_⟩
      have q := x.cell y c e
      rw [bindC_get ndP hp hu (by show scope.names.lookup y ≠ _; rw [k]; decide)] at q
      exact q
  · exact e0.hok.fresh (Nat.le_of_lt (x.above y c (PySem.mem_of_lookup h)))
  · unfold start
    show _ = N.length
    rw [List.length_append, List.length_map, List.length_replicate]
    omega

/-- THE RULE: a def (or a method) of the text, by its body. The body's reading t is chosen for each entry; it is run at the parameters' values -/
theorem fn_of {CX : CXT} {P : Program} {w : World} {K : PySem.W.Frag} {mg : Str → Option Value} {base : Heap} {k : Nat} {f : Addr} {name qual : Str} {params : Arguments} {body : List Stmt} {scope : Scope} {dV kV doc pm cdv ct oc : Value} {an od : Option Addr}
    {osl : Array (Option Value)} {N ps : List Str} {sp : Sp} (lk : K.lookup f = some ⟨oc, od, .func (PySem.W.fnOf name qual params body scope dV kV doc pm an cdv ct), osl⟩) (hcd : PySem.W.codeIn K cdv qual = true) (S : FnScope N ps scope)
    (len : ∀ vs H Q E, sp vs H Q E → vs.length = ps.length)
    (hbody : ∀ (A : Around) (outer : List Env) (s : Shared) (H : Hp) (vs : List V) (Q : VK) (E : XK), Room k (A.deeper (envOfC qual scope s.heap.objs.size f cdv)) → sp vs H Q E →
      ∃ t, PSs (cxOf CX P w K mg base N qual scope f cdv A outer s H E) body t ∧ t { nx := fun _ H' => Q .non H', rt := Q } (start N vs) H) :
    FnOk P w K mg base CX (k + 1) f (PySem.W.fnOf name qual params body scope dV kV doc pm an cdv ct) ps sp := by
  refine ⟨len, fun A outer s H args us vs Q E hr e0 hb r hsp => ?_⟩
  have hl := len _ _ _ _ hsp
  have KX : K.In s.heap := e0.mod.kin.keeps fun b o e => (e0.bs b o e).1
  have lim : s.heap.NoLimit := e0.mod.nolimit.keeps fun b o e => (e0.bs b o e).1
  have hkind : ∀ y ∈ ps.zip us, scope.names.lookup y.1 = some .local ∨ (scope.names.lookup y.1 = some .cell ∧ ((cellsFrom (s.heap.objs.size + 1) scope.names []).lookup y.1).isSome = true) := fun ⟨n, v⟩ hy => by
    rcases S.par n (List.of_mem_zip hy).1 with q | q
    · exact .inl q
    · exact .inr ⟨q, PySem.W.cellsFrom_some _ _ _ (.inl q)⟩
  refine codeAny_call_function hr.depth (KX _ _ lk) rfl S.co S.gen rfl (PySem.W.codeRec_of KX hcd) (hb _ _ _ _ ?_)
  refine wpAny_newFunctionEnv_cells S.kind hkind fun env he s1 x => ?_
  subst he
  refine ⟨lim.keeps x.toInCall.keep, codeAny_func ?_⟩
  obtain ⟨t, ht, hq⟩ := hbody A outer s H vs Q E (hr.deeper _) hsp
  have I : Inv (cxOf CX P w K mg base N qual scope f cdv A outer s H E) [] (start N vs) H s1 := inv_start S hr.hd e0 hl r x
  refine wpAny_mono (ht [] s1 (start N vs) H _ I hq) (fun fl s' hs => ?_) fun e s' hs => hs
  have fin : ∀ {σ' : St} {H' : Hp} {v : V} {u : Value}, Inv (cxOf CX P w K mg base N qual scope f cdv A outer s H E) [] σ' H' s' → RelV v u → Q v H' → CE outer P w H s Q u s' :=
    fun {σ' H' v u} J rv q => ⟨v, H', J.os, J.bare, J.base, J.hok, rv, q⟩
  cases fl with
  | ret u =>
    obtain ⟨v, σ', H', J, rv, q⟩ := hs
    exact fin J rv q
  | next =>
    obtain ⟨σ', H', J, q⟩ := hs
    exact fin (v := V.non) (u := Value.none) J rfl q
  | brk =>
    obtain ⟨_, _, _, q⟩ := hs
    exact False.elim q
  | cont =>
    obtain ⟨_, _, _, q⟩ := hs
    exact False.elim q
end L2

namespace L2
open PySem PySem.Spec PyProof.Rows
section
variable {X : Cx} {x : Str} {p pos : Pos} {e : Expr} {es : List Expr} {t : TA} {id T : String} {r : List V → Hp → VK → Prop}

def tCB (r : List V → Hp → VK → Prop) (t : TA) : TE := fun σ H Q => t σ H fun vs H1 => r vs H1 Q
/-- f(e, ..), f a built-in function -/
theorem pe_callB (hc : CallR X (.builtin id) r) (hg : Gl X x) (hm : X.mg x = none) (hv : bootBuiltins x = some (.builtin id)) (ha : PA X (e :: es) t) (hn : x ≠ "__name__" := by decide) (hdb : (x == ("__debug__" : Str)) = false := by decide)
    (he : starEach (e :: es) X.env = (false, eval e X.env) :: starEach es X.env := by rfl) (hpl : (backTo pos (starEach es X.env)).any (·.1) = false := by rfl) : PE X (.Call (.Name x p) (e :: es) [] pos) (tCB r t) := by
  intro pins s σ H Q I h
  refine wpAny_Call_Name_kw (ld_blt I hg hm hv ?_ hn hdb)
  exact PyProof.Rows.callWith_builtin1 (thn (ha pos pins s σ H _ I h) fun us s1 ⟨vs, H1, I1, r1, q1⟩ => hc pins s1 σ H1 vs us Q I1 r1 q1) he hpl
/-- T(e, ..), T a built-in type -/
theorem pe_callTy (hc : CallR X (.type T) r) (hg : Gl X x) (hm : X.mg x = none) (hv : bootBuiltins x = some (.type T)) (ha : PA X (e :: es) t) (hn : x ≠ "__name__" := by decide) (hdb : (x == ("__debug__" : Str)) = false := by decide)
    (he : starEach (e :: es) X.env = (false, eval e X.env) :: starEach es X.env := by rfl) (hpl : (backTo pos (starEach es X.env)).any (·.1) = false := by rfl) : PE X (.Call (.Name x p) (e :: es) [] pos) (tCB r t) := by
  intro pins s σ H Q I h
  refine wpAny_Call_Name_kw (ld_blt I hg hm hv ?_ hn hdb)
  exact PyProof.Rows.callWith_type1 (thn (ha pos pins s σ H _ I h) fun us s1 ⟨vs, H1, I1, r1, q1⟩ => hc pins s1 σ H1 vs us Q I1 r1 q1) he hpl
/-- T() -/
theorem pe_callTy0 (hc : CallR X (.type T) r) (hg : Gl X x) (hm : X.mg x = none) (hv : bootBuiltins x = some (.type T)) (hn : x ≠ "__name__" := by decide) (hdb : (x == ("__debug__" : Str)) = false := by decide) :
    PE X (.Call (.Name x p) [] [] pos) (tCB r tNil) := by
  intro pins s σ H Q I h
  refine wpAny_Call_Name_kw (ld_blt I hg hm hv ?_ hn hdb)
  exact PyProof.Rows.callWith_type0 (hc pins s σ H [] [] Q I .nil h)
end
end L2

namespace HT
open PySem PyProof.Rows

/-- t < u of tuples of ints -/
def lexLt : List Int → List Int → Bool
  | [], [] => false
  | [], _ :: _ => true
  | _ :: _, [] => false
  | x :: xs, y :: ys => if x = y then lexLt xs ys else decide (x < y)
theorem lexLt_cons (x y : Int) (xs ys : List Int) : lexLt (x :: xs) (y :: ys) = if x = y then lexLt xs ys else decide (x < y) := rfl
theorem lexLt_nil_nil : lexLt [] [] = false := rfl
theorem lexLt_nil_cons (y : Int) (ys : List Int) : lexLt [] (y :: ys) = true := rfl
theorem lexLt_cons_nil (x : Int) (xs : List Int) : lexLt (x :: xs) [] = false := rfl

theorem eqAt_int (A : Around) (s : Shared) (a : Int) (t : Tok) (c : Int) (u : Tok) : ∃ e, SeqAt.EqAt A s (.int a t) (.int c u) e ∧ (e = true ↔ a = c) :=
  ⟨(a == c), SeqAt.EqAt.int_int a t c u, by simp⟩
theorem rcLt_int (A : Around) (s : Shared) (a : Int) (t : Tok) (c : Int) (u : Tok) (prog : Program) (w : World) (E : Value → Shared → Prop) (Q : Value → Shared → Prop) (h : Q (.bool (decide (a < c))) s) :
    wpAny (model prog w) A (richCompare .Lt (.int a t) (.int c u)) Q E s :=
  (PyProof.Rows.lt_int h : wpAny (model prog w) A (compareOp .Lt (.int a t) (.int c u)) Q E s)

section
open PySem.SeqAt
open PySem.AutoSeq1 (wpAny_loadPart')
open PySem.MeetsSeq PySem.MeetsSeq2 PySem.MeetsSeq3

theorem tuple_lt_ints (l b : Addr) (items items2 : Array Value) (n n2 : Nat) (dd dd2 : Option Addr) (sl sl2 : Array (Option Value)) (ns ms : List Int) (hi : IntsAre items.toList ns) (hj : IntsAre items2.toList ms) :
    Meets (Builtin.«tuple.__lt__» ⟨[.ref l, .ref b], []⟩)
      (fun _ R s => s.heap.get? l = some { cls := .type "tuple", dict := dd, data := .seq items n, slots := sl } ∧ s.heap.get? b = some { cls := .type "tuple", dict := dd2, data := .seq items2 n2, slots := sl2 } ∧
        R (.ok (.ret (.bool (lexLt ns ms)))) s) :=
  .of_wp fun prog w A R s h => by
    obtain ⟨hp, g, d, tk, os⟩ := s; obtain ⟨hl, hb, h⟩ := h
    have f2 := AutoSeq1.sub_tuple_tuple
    have z1 : items.size = ns.length := by rw [← hi.length]; simp
    have z2 : items2.size = ms.length := by rw [← hj.length]; simp
    wp_walk using wpAny_loadPart' hl, wpAny_loadPart' hb, wpAny_forIn_list _ (fun rest b s' => b.1 = none ∧ s' = ⟨hp, g, d, tk, os⟩ ∧ ∃ (vs ws : List Value) (ns' ms' : List Int), rest = vs.zip ws ∧
      IntsAre vs ns' ∧ IntsAre ws ms' ∧ ns'.length + items2.size = ms'.length + items.size ∧ R (.ok (.ret (.bool (lexLt ns' ms')))) ⟨hp, g, d, tk, os⟩) _
    case turn =>
      rintro ⟨y, x⟩ rest b s' ⟨hb', rfl, vs, ws, ns', ms', hz, hvi, hwi, hlen, hR⟩
      cases hvi with
      | nil => rw [List.zip_nil_left] at hz; cases hz
      | cons a t hvi' =>
        cases hwi with
        | nil => rw [List.zip_nil_right] at hz; cases hz
        | cons c u hwi' =>
          rw [List.zip_cons_cons] at hz
          injection hz with hyx hrest
          injection hyx with hy hx
          subst hy hx
          rw [lexLt_cons] at hR
          simp only [List.length_cons] at hlen
          obtain ⟨e, he, hiff⟩ := eqAt_int A.in1 ⟨hp, g, d, tk, os⟩ a t c u
          refine wpAny_bind (he prog w _ _ ?_)
          cases e with
          | true =>
            rw [if_pos (hiff.mp rfl)] at hR
            wp_walk
            exact ⟨rfl, rfl, _, _, _, _, hrest, hvi', hwi', by omega, hR⟩
          | false =>
            rw [if_neg (fun q => absurd (hiff.mpr q) Bool.false_ne_true)] at hR
            have hri := rcLt_int A.in1 ⟨hp, g, d, tk, os⟩ a t c u prog w
            wp_walk using hri
            exact ⟨_, rfl, by simpa using hR⟩
    case fin =>
      rintro ⟨b1, b2⟩ s' ⟨hb', rfl, vs, ws, ns', ms', hz, hvi, hwi, hlen, hR⟩
      simp only at hb'
      subst hb'
      have hv : lexLt ns' ms' = decide (items.size < items2.size) := by
        cases hvi with
        | nil =>
          cases hwi with
          | nil =>
            simp only [List.length_nil] at hlen
            rw [lexLt_nil_nil]
            exact (decide_eq_false (by omega)).symm
          | cons c u hw =>
            simp only [List.length_nil, List.length_cons] at hlen
            rw [lexLt_nil_cons]
            exact (decide_eq_true (by omega)).symm
        | cons a t hv =>
          cases hwi with
          | nil =>
            simp only [List.length_nil, List.length_cons] at hlen
            rw [lexLt_cons_nil]
            exact (decide_eq_false (by omega)).symm
          | cons c u hw =>
            rw [List.zip_cons_cons] at hz
            cases hz
      rw [hv] at hR
      wp_walk
      exact ⟨_, rfl, by simpa [Builtin.Tuple.tupleCompareSizes] using hR⟩
    case h =>
      exact ⟨rfl, rfl, items.toList, items2.toList, ns, ms, rfl, hi, hj, by omega, h⟩
end

section
variable {prog : Program} {w : World} {A : Around} {E : Value → Shared → Prop} {s : Shared}

theorem lt_tupInts {l b : Addr} {items items2 : Array Value} {ns ms : List Int} {Q : Value → Shared → Prop} (hl : IsTup s.heap l items) (hb : IsTup s.heap b items2) (hi : IntsAre items.toList ns) (hj : IntsAre items2.toList ms)
    (hu : A.units < cLine) (h : Q (.bool (lexLt ns ms)) s) : wpAny (model prog w) A (compareOp .Lt (.ref l) (.ref b)) Q E s := by
  obtain ⟨⟨cls, dd, data, sl⟩, ho, hc, n, hd⟩ := id hl
  obtain ⟨⟨cls2, dd2, data2, sl2⟩, ho2, hc2, n2, hd2⟩ := id hb
  simp only at hc hd hc2 hd2
  subst hc hd hc2 hd2
  exact richCompare_meets_room (op := .Lt) ⟨_, ho, rfl⟩ ⟨_, ho2, rfl⟩ PySem.F.slot_tuple_lt PySem.F.entry_tuple_lt (PySem.F.args_tuple_lt_2 _ _) (tuple_lt_ints l b items items2 n n2 dd dd2 sl sl2 ns ms hi hj)
    ⟨ho, ho2, show Value.bool (lexLt ns ms) ≠ Value.notImplemented ∧ Q (.bool (lexLt ns ms)) s from ⟨(fun x => nomatch x), h⟩⟩ hu

/-- t + u, t not empty -/
theorem cat_tup {t b : Addr} {vs ws : List Value} {Q : Value → Shared → Prop} (ht : IsTup s.heap t vs.toArray) (hb : IsTup s.heap b ws.toArray) (hv : vs ≠ [])
    (h1 : ws = [] → Q (.ref t) s) (h2 : ws ≠ [] → Q (.ref s.heap.objs.size) { s with heap := s.heap.push { cls := .type "tuple", data := .seq (vs ++ ws).toArray } })
    (hsz : vs.length + ws.length ≤ sizeLine) : wpAny (model prog w) A (binaryOp .Add (.ref t) (.ref b)) Q E s := by
  obtain ⟨⟨cls, dd, data, sl⟩, ho, hc, n, hd⟩ := id ht
  obtain ⟨⟨cls2, dd2, data2, sl2⟩, ho2, hc2, n2, hd2⟩ := id hb
  simp only at hc hd hc2 hd2
  subst hc hd hc2 hd2
  have e : vs.toArray ++ ws.toArray = (vs ++ ws).toArray := by simp
  by_cases hw : ws = []
  · exact concat_meets ⟨_, ho, rfl⟩ ⟨_, ho2, rfl⟩ noFill_tuple_add seq_tuple_add PySem.F.slot_tuple_add PySem.F.entry_tuple_add (PySem.F.args_tuple_add_2 _ _)
      (tuple_addW1 t b vs.toArray ws.toArray n n2 dd dd2 sl sl2 (by simpa using hv) (by simp [hw])) ⟨ho, ho2, h1 hw⟩
  · refine concat_meets ⟨_, ho, rfl⟩ ⟨_, ho2, rfl⟩ noFill_tuple_add seq_tuple_add PySem.F.slot_tuple_add PySem.F.entry_tuple_add (PySem.F.args_tuple_add_2 _ _)
      (tuple_addW2 t b vs.toArray ws.toArray n n2 dd dd2 sl sl2 (by simpa using hv) (by simpa using hw) (by rw [List.size_toArray, List.size_toArray]; exact hsz)) ⟨ho, ho2, ?_⟩
    rw [e]
    exact h2 hw

/-! ### t[a:b], not the whole -/
/-- a slice's bound as a place among n (d where it is left out) -/
def sIx (n d : Nat) : Option Int → Nat
  | none => d
  | some v => if v < 0 then (v + (n : Int)).toNat else min v.toNat n
theorem sIx_none (n d : Nat) : sIx n d none = d := rfl
theorem sIx_nat (n d k : Nat) : sIx n d (some (k : Int)) = min k n := by
  show (if (k : Int) < 0 then ((k : Int) + (n : Int)).toNat else min (k : Int).toNat n) = min k n
  rw [if_neg (by omega), Int.toNat_natCast]
theorem sIx_le (n d : Nat) (hd : d ≤ n) (o : Option Int) : sIx n d o ≤ n := by
  cases o with
  | none => exact hd
  | some v =>
    show (if v < 0 then (v + (n : Int)).toNat else min v.toNat n) ≤ n
    by_cases hv : v < 0
    · rw [if_pos hv]; omega
    · rw [if_neg hv]; exact Nat.min_le_right _ _
theorem clip_eq (v : Int) (n d : Nat) : (if v < 0 then max (v + (n : Int)) 0 else min v (n : Int)) = ((sIx n d (some v) : Nat) : Int) := by
  show (if v < 0 then max (v + (n : Int)) 0 else min v (n : Int)) = (((if v < 0 then (v + (n : Int)).toNat else min v.toNat n) : Nat) : Int)
  by_cases hv : v < 0
  · simp only [if_pos hv]; omega
  · simp only [if_neg hv]; omega
theorem adjust_gen (lo hi : Option Int) (n : Nat) : Builtin.Slice.sliceAdjust lo hi 1 (n : Int) = (((sIx n 0 lo : Nat) : Int), ((sIx n n hi : Nat) : Int)) := by
  have h1 : ¬ ((1 : Int) < 0) := by omega
  unfold Builtin.Slice.sliceAdjust
  simp only [h1, if_false]
  refine Prod.ext ?_ ?_
  · cases lo with
    | none => rfl
    | some v => exact clip_eq v n 0
  · cases hi with
    | none => rfl
    | some v => exact clip_eq v n n
theorem places_gen (i j : Nat) : Builtin.Slice.slicePlaces (i : Int) (j : Int) 1 = j - i := by
  unfold Builtin.Slice.slicePlaces
  have h1 : (1 : Int) > 0 := by omega
  simp only [h1, if_true, Int.ediv_one]
  split <;> omega
theorem slicePart_ {v : Value} {o : Option Int} {Q : Option Int → Shared → Prop} (p : IsPart v o) (h : Q o s) : wpAny (model prog w) A (Builtin.Slice.slicePartIndex v) Q E s := by
  cases p with
  | none => exact slicePart_none h
  | int i t => exact slicePart_int h
theorem sliceApplied_gen {sl : Addr} {vl vu : Value} {lo hi : Option Int} {n : Nat} {Q : Int × Int × Nat → Shared → Prop} (hs : s.heap.IsSliceOf sl vl vu .none) (pl : IsPart vl lo) (pu : IsPart vu hi)
    (h : Q (((sIx n 0 lo : Nat) : Int), 1, sIx n n hi - sIx n 0 lo) s) : wpAny (model prog w) A (Builtin.Slice.sliceApplied (.ref sl) (pure (n : Int))) Q E s := by
  obtain ⟨os, hos, hcs, hds⟩ := id hs
  unfold Builtin.Slice.sliceApplied Builtin.Slice.sliceFields
  refine wpAny_bind (wpAny_bind (wpAny_field hos hds (x := vl) rfl (wpAny_bind (wpAny_field hos hds (x := vu) rfl (wpAny_bind (wpAny_field hos hds (x := .none) rfl (wpAny_pure ?_)))))))
  refine wpAny_bind (slicePart_none ?_)
  show wpAny _ _ (if ((1 : Int) == 0) = true then _ else _) _ _ s
  rw [if_neg (by decide)]
  refine wpAny_bind (slicePart_ pl (wpAny_bind (slicePart_ pu (wpAny_bind (wpAny_pure ?_)))))
  show wpAny _ _ (match Builtin.Slice.sliceAdjust lo hi 1 (n : Int) with | (lo, hi) => pure (lo, (1 : Int), Builtin.Slice.slicePlaces lo hi 1)) _ _ s
  rw [adjust_gen lo hi n]
  show wpAny _ _ (pure (((sIx n 0 lo : Nat) : Int), (1 : Int), Builtin.Slice.slicePlaces ((sIx n 0 lo : Nat) : Int) ((sIx n n hi : Nat) : Int) 1)) _ _ s
  rw [places_gen]
  exact wpAny_pure h
theorem pick_gen (xs : Array Value) (i k : Nat) : ((List.range k).filterMap fun (m : Nat) => xs[((i : Int) + (m : Int) * 1).toNat]?).toArray = ((xs.toList.drop i).take k).toArray := by
  have e : (fun (m : Nat) => xs[((i : Int) + (m : Int) * 1).toNat]?) = fun m => xs[i + m]? := by
    funext m
    have : ((i : Int) + (m : Int) * 1).toNat = i + m := by omega
    rw [this]
  rw [e]
  have := pick_run xs i k
  rw [List.filterMap_map] at this
  have e2 : ((fun x => xs[x]?) ∘ fun x => i + x) = fun m => xs[i + m]? := rfl
  rw [e2] at this
  rw [this]

theorem getItem_tuple_cut {t sl : Addr} {items : Array Value} {vl vu : Value} {lo hi : Option Int} {Q : Value → Shared → Prop} (ht : IsTup s.heap t items) (hs : s.heap.IsSliceOf sl vl vu .none) (pl : IsPart vl lo) (pu : IsPart vu hi)
    (hw : ¬ (sIx items.size 0 lo = 0 ∧ sIx items.size items.size hi = items.size))
    (h : Q (.ref s.heap.objs.size) { s with heap := s.heap.push { cls := .type "tuple", data := .seq ((items.toList.drop (sIx items.size 0 lo)).take (sIx items.size items.size hi - sIx items.size 0 lo)).toArray } })
    (hsz : items.size ≤ sizeLine) : wpAny (model prog w) A (getItem (.ref t) (.ref sl)) Q E s := by
  have htake : sizeOk (.seq ((items.toList.drop (sIx items.size 0 lo)).take (sIx items.size items.size hi - sIx items.size 0 lo)).toArray) := by
    show ((items.toList.drop (sIx items.size 0 lo)).take (sIx items.size items.size hi - sIx items.size 0 lo)).toArray.size ≤ sizeLine
    rw [List.size_toArray, List.length_take, List.length_drop, Array.length_toList]
    omega
  have hj : sIx items.size items.size hi ≤ items.size := sIx_le _ _ (Nat.le_refl _) hi
  obtain ⟨os, hos, hcs, hds⟩ := id hs
  have hTs : s.TypeIs (.ref sl) "slice" := ⟨os, hos, hcs⟩
  unfold getItem
  try with_reducible refine wpAny_holding ?_
  first | refine wpAny_bind (wpAny_pure ?_) | skip
  refine wpAny_bind (wpAny_sequenceKey ht.typeIs (by decide) ?_)
  refine wpAny_bind (wpAny_callSpecial?_slot (name := Str.ofString "__getitem__") ht.typeIs PyProof.Rows.slot_tuple_getitem
    (wpAny_call_entry PyProof.Rows.slot_tuple_getitem ht.typeIs entry_tuple_getitem ?_ (args_tuple_getitem _ _)))
  show wpAny _ _ (Builtin.Tuple.tupleItemsOf (.ref t) >>= _) _ _ s
  refine wpAny_bind (tupleItemsOf_ ht ?_)
  refine wpAny_bind (wpAny_typeOf hTs ?_)
  rw [if_pos (by decide)]
  refine wpAny_bind (sliceApplied_gen hs pl pu ?_)
  have hno : ¬ ((((sIx items.size 0 lo : Nat) : Int) == 0 && (1 : Int) == 1 && (sIx items.size items.size hi - sIx items.size 0 lo) == items.size) = true) := by
    intro q
    rw [Bool.and_eq_true, Bool.and_eq_true] at q
    have q1 : ((sIx items.size 0 lo : Nat) : Int) = 0 := eq_of_beq q.1.1
    have q2 : sIx items.size items.size hi - sIx items.size 0 lo = items.size := eq_of_beq q.2
    exact hw ⟨by omega, by omega⟩
  show wpAny _ _ (if (((sIx items.size 0 lo : Nat) : Int) == 0 && (1 : Int) == 1 && (sIx items.size items.size hi - sIx items.size 0 lo) == items.size) = true then _ else _) _ _ s
  rw [if_neg hno, pick_gen]
  first
    | exact wpAny_bind (m := Builtin.Tuple.tupleExact _) (wpAny_newObj_type (wpAny_pure ⟨_, rfl, wpAny_pure h⟩) htake)
    | exact wpAny_bind (m := Builtin.Tuple.tupleExact _) (wpAny_newObj_type (wpAny_bind (wpAny_pure (wpAny_pure ⟨_, rfl, wpAny_pure h⟩))) htake)
    | exact wpAny_bind (wpAny_bind (m := Builtin.Tuple.tupleExact _) (wpAny_newObj_type (wpAny_pure (wpAny_pure ⟨_, rfl, wpAny_pure h⟩)) htake))
    | exact wpAny_bind (wpAny_bind (m := Builtin.Tuple.tupleExact _) (wpAny_newObj_type (wpAny_pure ⟨_, rfl, wpAny_pure h⟩) htake))
end
end HT

namespace L2
open PySem PySem.Spec PyProof.Rows

/-! ### the parts of a slice -/
abbrev TO := St → Hp → (Option Int → Hp → Prop) → Prop
/-- a slice's part (left out, or an int) -/
def PO (X : Cx) (e : Option Expr) (t : TO) : Prop :=
  ∀ (pins : List (Addr × Obj)) (s : Shared) (σ : St) (H : Hp) (Q : Option Int → Hp → Prop), Inv X pins σ H s → t σ H Q →
    wpAny (model X.prog X.w) X.A (evalPart e X.env) (fun u s' => ∃ o H', Inv X pins σ H' s' ∧ IsPart u o ∧ Q o H') X.xe s
def tNoPart : TO := fun _ H Q => Q none H
def tPart (t : TE) : TO := fun σ H Q => t σ H fun x H1 => ∃ i, x = .int i ∧ Q (some i) H1

theorem intsAre_of {ns : List Int} : ∀ {us : List Value}, Vals (ns.map V.int) us → IntsAre us ns := by
  induction ns with
  | nil => intro us r; rw [List.map_nil] at r; cases r; exact .nil
  | cons n ns ih =>
    intro us r
    rw [List.map_cons] at r
    cases r with
    | cons r1 r2 =>
      obtain ⟨t, e⟩ := r1
      subst e
      exact .cons n t (ih r2)

section
variable {X : Cx} {e : Expr} {te : TE} {lo hi : Option Expr} {tl th : TO} {pos p2 : Pos}

theorem po_none : PO X none tNoPart := by
  intro pins s σ H Q I h
  rw [evalPart_none]
  exact wpAny_pure ⟨none, H, I, .none, h⟩
theorem po_some (h : PE X e te) : PO X (some e) (tPart te) := by
  intro pins s σ H Q I hw
  rw [evalPart_some]
  refine thn (h pins s σ H _ I hw) fun u s1 ⟨x, H1, I1, r1, q1⟩ => ?_
  obtain ⟨i, rfl, q⟩ := q1
  obtain ⟨t, rfl⟩ := r1
  exact ⟨some i, H1, I1, .int i t, q⟩

/-- what a slice of a value is, by values: the slice object stands at sl -/
def SlR (X : Cx) (r : V → Option Int → Option Int → Hp → VK → Prop) : Prop :=
  ∀ (pins : List (Addr × Obj)) (s : Shared) (σ : St) (H : Hp) (x : V) (v vl vu : Value) (lo hi : Option Int) (sl : Addr) (Q : VK), Inv X pins σ H s → RelV x v → s.heap.IsSliceOf sl vl vu .none → IsPart vl lo → IsPart vu hi → r x lo hi H Q →
    ∃ T id, typeLookup (.type T) "__getitem__" = pure (some (.builtin id)) ∧ s.TypeIs v T ∧ wpAny (model X.prog X.w) X.A (getItem v (.ref sl)) (EP X pins σ Q) X.xe s
theorem SlR.or {r r' : V → Option Int → Option Int → Hp → VK → Prop} (h : SlR X r) (h' : SlR X r') : SlR X (fun x lo hi H Q => r x lo hi H Q ∨ r' x lo hi H Q) := by
  intro pins s σ H x v vl vu lo hi sl Q I rx hs pl pu q
  rcases q with q | q
  · exact h pins s σ H x v vl vu lo hi sl Q I rx hs pl pu q
  · exact h' pins s σ H x v vl vu lo hi sl Q I rx hs pl pu q
def tSl (r : V → Option Int → Option Int → Hp → VK → Prop) (te : TE) (tl th : TO) : TE := fun σ H Q => te σ H fun x H1 => tl σ H1 fun l H2 => th σ H2 fun u H3 => r x l u H3 Q
/-- a[lo:hi], any a -/
theorem pe_slice {r : V → Option Int → Option Int → Hp → VK → Prop} (hr : SlR X r) (he : PE X e te) (hl : PO X lo tl) (hu : PO X hi th) : PE X (.Subscript e (.Slice lo hi none p2) pos) (tSl r te tl th) := by
  intro pins s σ H Q I h
  refine Subscript_ (thn (he pins s σ H _ I h) fun v s1 ⟨x, H1, I1, r1, q1⟩ => ?_)
  refine wpAny_Slice (thn (hl pins s1 σ H1 _ I1 q1) fun vl s2 ⟨l, H2, I2, pl, q2⟩ => thn (hu pins s2 σ H2 _ I2 q2) fun vu s3 ⟨u, H3, I3, pu, q3⟩ => ?_)
  rw [evalPart_none]
  refine wpAny_pure ?_
  have I4 : Inv X pins σ H3 { s3 with heap := s3.heap.push { cls := .type "slice", data := .fields #[vl, vu, .none] } } := I3.kept (t' := s3.toks) fun b ob q => Heap.get?_push_of_some _ q
  obtain ⟨T, id, hT, ht, hg⟩ := hr pins { s3 with heap := s3.heap.push { cls := .type "slice", data := .fields #[vl, vu, .none] } } σ H3 x v vl vu l u s3.heap.objs.size Q I4 r1 (Heap.IsSliceOf.new ..) pl pu q3
  show wpAny (model X.prog X.w) X.A (subscriptTail e (.Slice lo hi none p2) v (.ref s3.heap.objs.size)) (EP X pins σ Q) X.xe { s3 with heap := s3.heap.push { cls := .type "slice", data := .fields #[vl, vu, .none] } }
  exact tail_any (ops := [.ref s3.heap.objs.size, v]) ht hT hg (by with_unfolding_all rfl)

/-- the items of xs[lo:hi] -/
def cutV (xs : List V) (lo hi : Option Int) : List V := (xs.drop (HT.sIx xs.length 0 lo)).take (HT.sIx xs.length xs.length hi - HT.sIx xs.length 0 lo)
theorem cutV_length (xs : List V) (lo hi : Option Int) : (cutV xs lo hi).length ≤ xs.length := by
  unfold cutV
  rw [List.length_take, List.length_drop]
  omega
/-- t[lo:hi], not the whole of it (the whole would be t itself) -/
def rSlT (K : PySem.W.Frag) : V → Option Int → Option Int → Hp → VK → Prop := fun x lo hi H Q => ∃ a xs, x = .ref a ∧ SqT K H a xs ∧
  ¬ (HT.sIx xs.length 0 lo = 0 ∧ HT.sIx xs.length xs.length hi = xs.length) ∧ ∀ p, H p = none → Q (.ref p) (upd H p (.tup (cutV xs lo hi)))
theorem sl_tup : SlR X (rSlT X.K) := by
  intro pins s σ H x v vl vu lo hi sl Q I rx hs pl pu h
  obtain ⟨a, xs, rfl, hx, hw, q⟩ := h
  cases rx
  obtain ⟨its, r, ht, hz⟩ := I.tuple hx
  have hlen : its.toArray.size = xs.length := by rw [List.size_toArray]; exact r.length.symm
  refine ⟨"tuple", _, PyProof.Rows.slot_tuple_getitem.lookup, ht.typeIs, ?_⟩
  refine HT.getItem_tuple_cut ht hs pl pu (by rw [hlen]; exact hw) ?_ (by rw [hlen]; exact hz)
  rw [hlen]
  refine ⟨.ref s.heap.objs.size, _, I.laid (t' := s.toks) (o := .tup (cutV xs lo hi)) (fun b ob q => Heap.get?_push_of_some _ q) (Nat.le_refl _) ?_, rfl, q _ (I.hok.fresh (Nat.le_refl _))⟩
  exact ⟨Nat.le_trans (cutV_length xs lo hi) hz, _, (r.drop (HT.sIx xs.length 0 lo)).take (HT.sIx xs.length xs.length hi - HT.sIx xs.length 0 lo), IsTup.new _ _⟩

/-! ### t < u, t + u -/
def rLtT (K : PySem.W.Frag) : R2 := fun x y H Q => ∃ a b ns ms, x = .ref a ∧ y = .ref b ∧ SqT K H a (ns.map V.int) ∧ SqT K H b (ms.map V.int) ∧ Q (.bl (HT.lexLt ns ms)) H
theorem op_ltT (hu : X.A.units < cLine) : OpR X (compareOp .Lt) (rLtT X.K) := by
  intro pins s σ H x y v u Q I rx ry h
  obtain ⟨a, b, ns, ms, rfl, rfl, ha, hb, q⟩ := h
  cases rx
  cases ry
  obtain ⟨its, r1, p1, _⟩ := I.tuple ha
  obtain ⟨its2, r2, p2, _⟩ := I.tuple hb
  have i1 : IntsAre its.toArray.toList ns := intsAre_of r1
  have i2 : IntsAre its2.toArray.toList ms := intsAre_of r2
  exact HT.lt_tupInts p1 p2 i1 i2 hu ⟨.bl (HT.lexLt ns ms), H, I, rfl, q⟩
/-- t + u, t not empty: u empty gives t itself -/
def rCatT (K : PySem.W.Frag) : R2 := fun x y H Q => ∃ a b xs ys, x = .ref a ∧ y = .ref b ∧ SqT K H a xs ∧ SqT K H b ys ∧ xs ≠ [] ∧ xs.length + ys.length ≤ sizeLine ∧
  (ys = [] → Q (.ref a) H) ∧ (ys ≠ [] → ∀ p, H p = none → Q (.ref p) (upd H p (.tup (xs ++ ys))))
theorem Vals.nil_iff {xs : List V} {us : List Value} (r : Vals xs us) : us = [] ↔ xs = [] := by
  cases r with
  | nil => simp
  | cons _ _ => simp
theorem op_catT : OpR X (binaryOp .Add) (rCatT X.K) := by
  intro pins s σ H x y v u Q I rx ry h
  obtain ⟨a, b, xs, ys, rfl, rfl, ha, hb, hx, hz, q1, q2⟩ := h
  cases rx
  cases ry
  obtain ⟨its, r1, p1, _⟩ := I.tuple ha
  obtain ⟨its2, r2, p2, _⟩ := I.tuple hb
  refine HT.cat_tup p1 p2 (fun z => hx (r1.nil_iff.mp z)) (fun z => ⟨.ref a, H, I, rfl, q1 (r2.nil_iff.mp z)⟩) (fun z => ?_) (by rw [← r1.length, ← r2.length]; exact hz)
  refine ⟨.ref s.heap.objs.size, _, I.laid (t' := s.toks) (o := .tup (xs ++ ys)) (fun b ob q => Heap.get?_push_of_some _ q) (Nat.le_refl _) ?_, rfl, q2 (fun w => z (r2.nil_iff.mpr w)) _ (I.hok.fresh (Nat.le_refl _))⟩
  exact ⟨by rw [List.length_append]; exact hz, _, r1.append r2, IsTup.new _ _⟩
/-- tuple(t) -/
theorem call_tupleT : CallR X (.type "tuple") (fun xs H Q => ∃ a ys, xs = [.ref a] ∧ SqT X.K H a ys ∧ Q (.ref a) H) := by
  intro pins s σ H xs us Q I r h
  obtain ⟨a, ys, rfl, ha, q⟩ := h
  obtain ⟨u, rfl, ru⟩ := vals1 r
  cases ru
  obtain ⟨its, _, p1, _⟩ := I.tuple ha
  exact call_tuple_same (items := its.toArray) p1 ⟨.ref a, H, I, rfl, q⟩
end
end L2

namespace L2
open PySem PySem.Spec PyProof.Rows

/-! ### places -/
/-- the place that an index of any sign means -/
def ixN (n : Nat) (i : Int) : Option Nat := if 0 ≤ i then (if i < n then some i.toNat else none) else if -(n : Int) ≤ i then some (i + n).toNat else none
def atI {α : Type} (xs : List α) (i : Int) : Option α := (ixN xs.length i).bind fun j => xs[j]?
theorem ixN_seq {n : Nat} {i : Int} {j : Nat} (h : ixN n i = some j) : seqIndex? i n = some j ∧ j < n ∧ -(n : Int) ≤ i ∧ i < n := by
  unfold ixN at h
  by_cases h0 : 0 ≤ i
  · rw [if_pos h0] at h
    by_cases h1 : i < n
    · rw [if_pos h1] at h
      have e : i.toNat = j := Option.some.inj h
      exact ⟨by rw [seqIndex_of h0 h1, e], by omega, by omega, h1⟩
    · rw [if_neg h1] at h; cases h
  · rw [if_neg h0] at h
    by_cases h1 : -(n : Int) ≤ i
    · rw [if_pos h1] at h
      have e : (i + n).toNat = j := Option.some.inj h
      exact ⟨by rw [seqIndex_neg (by omega) h1, e], by omega, h1, by omega⟩
    · rw [if_neg h1] at h; cases h
theorem atI_get {α : Type} {xs : List α} {i : Int} {v : α} (h : atI xs i = some v) : ∃ j, seqIndex? i xs.length = some j ∧ xs[j]? = some v ∧ j < xs.length ∧ -(xs.length : Int) ≤ i ∧ i < xs.length := by
  unfold atI at h
  cases e : ixN xs.length i with
  | none => rw [e] at h; cases h
  | some j =>
    rw [e] at h
    obtain ⟨h1, h2, h3, h4⟩ := ixN_seq e
    exact ⟨j, h1, h, h2, h3, h4⟩
theorem atI_nat {α : Type} {xs : List α} {j : Nat} {v : α} (h : xs[j]? = some v) : atI xs (j : Int) = some v := by
  have hj : j < xs.length := (List.getElem?_eq_some_iff.mp h).1
  have e : ixN xs.length (j : Int) = some j := by
    unfold ixN
    rw [if_pos (by omega), if_pos (by omega)]; simp
  unfold atI; rw [e]; exact h
theorem atI_last {α : Type} (xs : List α) (v : α) : atI (xs ++ [v]) (-1) = some v := by
  have hl : (xs ++ [v]).length = xs.length + 1 := by simp
  have e : ixN (xs ++ [v]).length (-1) = some xs.length := by
    unfold ixN
    rw [hl, if_neg (by decide), if_pos (by omega)]
    congr 1
    omega
  unfold atI
  rw [e]
  show (xs ++ [v])[xs.length]? = some v
  simp

/-! ### what may be subscripted -/
/-- what stands as an index of a plain subscript -/
def PlainIx (b : Expr) : Prop := ∀ o i, subscripted b false o i = operate [o, i] (getItem o i)
/-- a subscript by values -/
def IxR (X : Cx) (r : R2) : Prop :=
  ∀ (value slice : Expr) (pins : List (Addr × Obj)) (s : Shared) (σ : St) (H : Hp) (x y : V) (v u : Value) (Q : VK), Inv X pins σ H s → RelV x v → RelV y u → r x y H Q →
    subscripted slice false v u = operate [v, u] (getItem v u) → wpAny (model X.prog X.w) X.A (subscriptTail value slice v u) (EP X pins σ Q) X.xe s
/-- a call of a builtin's method by values: the receiver, the arguments -/
def MtR (X : Cx) (id : String) (r : V → List V → Hp → VK → Prop) : Prop :=
  ∀ (pins : List (Addr × Obj)) (s : Shared) (σ : St) (H : Hp) (x : V) (xs : List V) (v : Value) (us : List Value) (Q : VK), Inv X pins σ H s → RelV x v → Vals xs us → r x xs H Q →
    wpAny (model X.prog X.w) X.A (call (.builtin id) (v :: us)) (EP X pins σ Q) X.xe s
section
variable {X : Cx} {a b : Expr} {ta tb : TE} {pos : Pos}
theorem IxR.or {r r' : R2} (h : IxR X r) (h' : IxR X r') : IxR X (fun x y H Q => r x y H Q ∨ r' x y H Q) := by
  intro value slice pins s σ H x y v u Q I rx ry q hs
  rcases q with q | q
  · exact h value slice pins s σ H x y v u Q I rx ry q hs
  · exact h' value slice pins s σ H x y v u Q I rx ry q hs
theorem MtR.or {id : String} {r r' : V → List V → Hp → VK → Prop} (h : MtR X id r) (h' : MtR X id r') : MtR X id (fun x xs H Q => r x xs H Q ∨ r' x xs H Q) := by
  intro pins s σ H x xs v us Q I rx rs q
  rcases q with q | q
  · exact h pins s σ H x xs v us Q I rx rs q
  · exact h' pins s σ H x xs v us Q I rx rs q
/-- a[b] -/
theorem pe_ix {r : R2} (hr : IxR X r) (ha : PE X a ta) (hb : PE X b tb) (hs : PlainIx b) : PE X (.Subscript a b pos) (tOp r ta tb) := by
  intro pins s σ H Q I h
  exact Subscript_ (binT ha hb I h fun v u s2 x y H2 I2 rx ry q => hr a b pins s2 σ H2 x y v u Q I2 rx ry q (hs _ _))

def rIxL (K : PySem.W.Frag) : R2 := fun x y H Q => ∃ p xs i v, x = .ref p ∧ y = .int i ∧ SqL K H p xs ∧ atI xs i = some v ∧ Q v H
def rIxT (K : PySem.W.Frag) : R2 := fun x y H Q => ∃ p xs i v, x = .ref p ∧ y = .int i ∧ SqT K H p xs ∧ atI xs i = some v ∧ Q v H
def rIxS : R2 := fun x y H Q => ∃ z i c, x = .str z ∧ y = .int i ∧ z.length ≤ sizeLine ∧ atI z.cps.toList i = some c ∧ Q (.str ⟨#[c]⟩) H
theorem ix_list : IxR X (rIxL X.K) := by
  intro value slice pins s σ H x y v u Q I rx ry h hs
  obtain ⟨p, xs, i, z, rfl, rfl, hq, he, q⟩ := h
  cases rx
  obtain ⟨t, rfl⟩ := ry
  obtain ⟨its, r, pl, hz⟩ := I.list hq
  obtain ⟨j, h1, h2, h3, h4, h5⟩ := atI_get he
  obtain ⟨w, ew, rw'⟩ := r.get h2
  have hl := r.length
  have hn := line63
  have fin : EP X pins σ Q w s := ⟨z, H, I, rw', q⟩
  by_cases h0 : 0 ≤ i
  · have hj : i.toNat = j := by
      rw [seqIndex_of h0 h5] at h1
      exact Option.some.inj h1
    exact item_listR pl.isList h0 (by omega) (by rw [hj]; simpa using ew) fin hs
  · have hj : (i + (its.toArray.size : Int)).toNat = j := by
      rw [seqIndex_neg (by omega) h4] at h1
      rw [List.size_toArray, ← hl]
      exact Option.some.inj h1
    exact subscriptTail_builtinR (x := w) pl.isList.typeIs slot_list_getitem.lookup
      (wpAny_getItem_list_neg (Q := fun r s' => r = w ∧ EP X pins σ Q r s') pl.isList (by omega) (by rw [List.size_toArray] <;> omega) (by omega) (by rw [hj]; simpa using ew) ⟨rfl, fin⟩) hs
theorem ix_tup : IxR X (rIxT X.K) := by
  intro value slice pins s σ H x y v u Q I rx ry h hs
  obtain ⟨p, xs, i, z, rfl, rfl, hq, he, q⟩ := h
  cases rx
  obtain ⟨t, rfl⟩ := ry
  obtain ⟨its, r, pl, hz⟩ := I.tuple hq
  obtain ⟨j, h1, h2, h3, h4, h5⟩ := atI_get he
  obtain ⟨w, ew, rw'⟩ := r.get h2
  have hl := r.length
  have hn := line63
  have fin : EP X pins σ Q w s := ⟨z, H, I, rw', q⟩
  exact subscriptTail_builtinR (x := w) pl.typeIs slot_tuple_getitem.lookup
    (getItem_tuple (j := j) (Q := fun r s' => r = w ∧ EP X pins σ Q r s') pl (by omega) (by omega) (by rw [List.size_toArray, ← hl]; exact h1) (by simpa using ew) ⟨rfl, fin⟩) hs
theorem ix_str : IxR X rIxS := by
  intro value slice pins s σ H x y v u Q I rx ry h hs
  obtain ⟨z, i, c, rfl, rfl, hz, he, q⟩ := h
  obtain ⟨t, rfl⟩ := rx
  obtain ⟨t', rfl⟩ := ry
  obtain ⟨j, h1, h2, h3, h4, h5⟩ := atI_get he
  have hl : z.cps.toList.length = z.length := by simp [Str.length]
  rw [hl] at h1 h4 h5
  have hn := line63
  exact tail_any (typeIs_str s z t) slot_str_getitem.lookup (getItem_str (c := c) (by
    have e1 : decide (i < -(2 ^ 63 : Int)) = false := decide_eq_false (by omega)
    have e2 : decide (i ≥ 2 ^ 63) = false := decide_eq_false (by omega)
    rw [e1, e2, Bool.or_false]) (by rw [h1]; simpa using h2) ⟨.str ⟨#[c]⟩, H, I.tok _, ⟨_, rfl⟩, q⟩) hs
/-- list, tuple or str -/
def rIx (K : PySem.W.Frag) : R2 := fun x y H Q => rIxL K x y H Q ∨ rIxT K x y H Q ∨ rIxS x y H Q
theorem ix_seq : IxR X (rIx X.K) := ix_list.or (ix_tup.or ix_str)

/-! ### xs[i] = v, any sign -/
/-- the list's object behind a store -/
theorem mapSeq_set (its : List Value) (n j : Nat) (u : Value) : Obj.mapSeq (·.setIfInBounds j u) { cls := .type "list", data := .seq its.toArray n } = { cls := .type "list", data := .seq (its.set j u).toArray n } := by
  simp [Obj.mapSeq]
theorem Inv.lst {pins : List (Addr × Obj)} {σ : St} {H : Hp} {s : Shared} {p : Addr} {xs : List V} (I : Inv X pins σ H s) (h : H p = some (.lst xs)) :
    ∃ (its : List Value) (n : Nat), Vals xs its ∧ s.heap.get? p = some { cls := .type "list", data := .seq its.toArray n } ∧ xs.length ≤ sizeLine := by
  obtain ⟨z, its, n, r, e⟩ := I.hok p _ h
  exact ⟨its, n, r, e, z⟩
/-- the list at p is written by an update of its object -/
theorem Inv.lstUpd {pins : List (Addr × Obj)} {σ : St} {H : Hp} {s : Shared} {p : Addr} {xs ys : List V} {its its' : List Value} {n n' : Nat} {f : Obj → Obj} (I : Inv X pins σ H s) (h : H p = some (.lst xs))
    (ho : s.heap.get? p = some { cls := .type "list", data := .seq its.toArray n }) (hf : f { cls := .type "list", data := .seq its.toArray n } = { cls := .type "list", data := .seq its'.toArray n' }) (r : Vals ys its') (hz : ys.length ≤ sizeLine) (t : Nat) :
    Inv X pins σ (upd H p (.lst ys)) { s with heap := s.heap.update p f, toks := t } := by
  have e : (s.heap.update p f).get? p = some { cls := .type "list", data := .seq its'.toArray n' } := by
    rw [Heap.get?_update_self f ho (by rw [hf] <;> rfl), hf]
  refine I.write (x := p) (e := p) (by rw [h]; trivial) (.inl rfl) (fun b u hb q => (Heap.get?_update_other _ _ (Ne.symm hb)).trans q) ⟨_, e⟩ ?_
  exact ⟨hz, its', n', r, e⟩
def rSetL : V → V → V → Hp → (Hp → Prop) → Prop := fun o i v H Q => ∃ p xs k j, o = .ref p ∧ i = .int k ∧ H p = some (.lst xs) ∧ ixN xs.length k = some j ∧ Q (upd H p (.lst (xs.set j v)))
theorem set_list : PSet X rSetL := by
  intro pins s σ H o i v ov iv u Q I ro ri rv h
  obtain ⟨p, xs, k, j, rfl, rfl, hp, hj, q⟩ := h
  cases ro
  obtain ⟨t, rfl⟩ := ri
  obtain ⟨its, n, r, ho, hz⟩ := I.lst hp
  obtain ⟨h1, h2, h3, h4⟩ := ixN_seq hj
  have hl := r.length
  have hn := line63
  have I' : Inv X pins σ (upd H p (.lst (xs.set j v))) { s with heap := s.heap.update p (Obj.mapSeq (·.setIfInBounds j u)) } :=
    I.lstUpd hp ho (mapSeq_set its n j u) (r.set rv j) (by rw [List.length_set]; exact hz) s.toks
  by_cases h0 : 0 ≤ k
  · have hk : k.toNat = j := by
      rw [seqIndex_of h0 h4] at h1
      exact Option.some.inj h1
    exact PySem.W.ki_setAt ho h0 (by omega) (by rw [List.size_toArray, ← hl]; exact h4) (by rw [hk]; exact ⟨_, I', q⟩)
  · have hk : (k + (its.toArray.size : Int)).toNat = j := by
      rw [seqIndex_neg (by omega) h3] at h1
      rw [List.size_toArray, ← hl]
      exact Option.some.inj h1
    exact PySem.W.ki_setBack ho (by omega) (by rw [List.size_toArray, ← hl]; exact h3) (by omega) (by rw [hk]; exact ⟨_, I', q⟩)

/-! ### slices -/
theorem slice_bounds (lo hi : Option Int) (n : Nat) : (sliceBounds lo hi none n).1 = ((HT.sIx n 0 lo : Nat) : Int) ∧ (sliceBounds lo hi none n).2.1 = ((HT.sIx n n hi : Nat) : Int) ∧ (sliceBounds lo hi none n).2.2 = 1 := by
  refine ⟨?_, ?_, rfl⟩
  · cases lo with
    | none => simp [sliceBounds, HT.sIx]
    | some i =>
      simp only [sliceBounds, HT.sIx, Option.getD_none, show (1 : Int) > 0 by decide, if_true]
      by_cases h : i < 0
      · simp only [h, if_true] <;> omega
      · simp only [h, if_false] <;> omega
  · cases hi with
    | none => simp [sliceBounds, HT.sIx]
    | some i =>
      simp only [sliceBounds, HT.sIx, Option.getD_none, show (1 : Int) > 0 by decide, if_true]
      by_cases h : i < 0
      · simp only [h, if_true] <;> omega
      · simp only [h, if_false] <;> omega
theorem slicePick_cut (its : List Value) (lo hi : Option Int) : slicePick its.toArray lo hi none = ((its.drop (HT.sIx its.length 0 lo)).take (HT.sIx its.length its.length hi - HT.sIx its.length 0 lo)).toArray := by
  obtain ⟨h1, h2, h3⟩ := slice_bounds lo hi its.toArray.size
  unfold slicePick
  rw [h1, h2, h3]
  simp only [sliceRange_one, pick_run, List.size_toArray] <;> rfl
/-- xs[lo:hi] of a list: a new list -/
def rSlL (K : PySem.W.Frag) : V → Option Int → Option Int → Hp → VK → Prop := fun x lo hi H Q => ∃ a xs, x = .ref a ∧ SqL K H a xs ∧ ∀ p, H p = none → Q (.ref p) (upd H p (.lst (cutV xs lo hi)))
theorem sl_list : SlR X (rSlL X.K) := by
  intro pins s σ H x v vl vu lo hi sl Q I rx hs pl pu h
  obtain ⟨a, xs, rfl, hx, q⟩ := h
  cases rx
  obtain ⟨its, r, ht, hz⟩ := I.list hx
  have hlen := r.length
  refine ⟨"list", _, slot_list_getitem.lookup, ht.isList.typeIs, ?_⟩
  refine wpAny_getItem_list_slice ht.isList hs pl pu .none (by simp) ?_ (by rw [List.size_toArray] <;> omega)
  rw [slicePick_cut, ← hlen]
  refine ⟨.ref s.heap.objs.size, _, I.laid (t' := s.toks) (o := .lst (cutV xs lo hi)) (fun b ob q => Heap.get?_push_of_some _ q) (Nat.le_refl _) ?_, rfl, q _ (I.hok.fresh (Nat.le_refl _))⟩
  exact ⟨Nat.le_trans (cutV_length xs lo hi) hz, _, 0, (r.drop (HT.sIx xs.length 0 lo)).take (HT.sIx xs.length xs.length hi - HT.sIx xs.length 0 lo), Heap.get?_push_size _ rfl⟩

/-! ### in, not in: flat items -/
def flatV : V → Bool
  | .non => true
  | .bl _ => true
  | .int _ => true
  | .str _ => true
  | _ => false
/-- == of flat values -/
def eqV : V → V → Bool
  | .non, .non => true
  | .bl a, .bl b => a == b
  | .bl a, .int b => (if a then 1 else 0) == b
  | .int a, .bl b => a == (if b then 1 else 0)
  | .int a, .int b => a == b
  | .str a, .str b => a == b
  | _, _ => false
theorem eqAt_V {A : Around} {s : Shared} {y x : V} {u v : Value} (ry : RelV y u) (rx : RelV x v) (fy : flatV y = true) (fx : flatV x = true) : SeqAt.EqAt A s u v (eqV y x) := by
  cases y with
  | non =>
    cases ry
    cases x with
    | non => cases rx; exact SeqAt.EqAt.same _
    | bl b => cases rx; exact SeqAt.EqAt.none_bool b
    | int b => obtain ⟨t, rfl⟩ := rx; exact SeqAt.EqAt.none_int b t
    | str b => obtain ⟨t, rfl⟩ := rx; exact SeqAt.EqAt.none_str b t
    | _ => exact absurd (show false = true from fx) Bool.false_ne_true
  | bl a =>
    cases ry
    cases x with
    | non => cases rx; exact SeqAt.EqAt.bool_none a
    | bl b => cases rx; exact SeqAt.EqAt.bool_bool a b
    | int b => obtain ⟨t, rfl⟩ := rx; exact SeqAt.EqAt.bool_int a b t
    | str b => obtain ⟨t, rfl⟩ := rx; exact SeqAt.EqAt.bool_str a b t
    | _ => exact absurd (show false = true from fx) Bool.false_ne_true
  | int a =>
    obtain ⟨t', rfl⟩ := ry
    cases x with
    | non => cases rx; exact SeqAt.EqAt.int_none a t'
    | bl b => cases rx; exact SeqAt.EqAt.int_bool a t' b
    | int b => obtain ⟨t, rfl⟩ := rx; exact SeqAt.EqAt.int_int a t' b t
    | str b => obtain ⟨t, rfl⟩ := rx; exact SeqAt.EqAt.int_str a t' b t
    | _ => exact absurd (show false = true from fx) Bool.false_ne_true
  | str a =>
    obtain ⟨t', rfl⟩ := ry
    cases x with
    | non => cases rx; exact SeqAt.EqAt.str_none a t'
    | bl b => cases rx; exact SeqAt.EqAt.str_bool a t' b
    | int b => obtain ⟨t, rfl⟩ := rx; exact SeqAt.EqAt.str_int a t' b t
    | str b => obtain ⟨t, rfl⟩ := rx; exact SeqAt.EqAt.str_str a t' b t
    | _ => exact absurd (show false = true from fx) Bool.false_ne_true
  | _ => exact absurd (show false = true from fy) Bool.false_ne_true
/-- the items' answers, read off the values (a value's own answer does not lean on its token) -/
def eqU (x : V) (u : Value) : Bool := match u with
  | .none => eqV .non x
  | .bool b => eqV (.bl b) x
  | .int i _ => eqV (.int i) x
  | .str z _ => eqV (.str z) x
  | _ => false
theorem eqU_of {x y : V} {u : Value} (r : RelV y u) (f : flatV y = true) : eqU x u = eqV y x := by
  cases y with
  | non => cases r; rfl
  | bl b => cases r; rfl
  | int i => obtain ⟨t, rfl⟩ := r; rfl
  | str z => obtain ⟨t, rfl⟩ := r; rfl
  | _ => exact absurd (show false = true from f) Bool.false_ne_true
theorem any_eqU {x : V} : ∀ {xs : List V} {us : List Value}, Vals xs us → xs.all flatV = true → us.any (eqU x) = xs.any fun y => eqV y x
  | _, _, .nil, _ => rfl
  | y :: xs, u :: us, .cons r t, f => by
    rw [List.all_cons, Bool.and_eq_true] at f
    rw [List.any_cons, List.any_cons, eqU_of r f.1, any_eqU t f.2]
theorem mem_eqAt {A : Around} {s : Shared} {x : V} {v : Value} (rx : RelV x v) (fx : flatV x = true) : ∀ {xs : List V} {us : List Value}, Vals xs us → xs.all flatV = true → ∀ u ∈ us, SeqAt.EqAt A s u v (eqU x u)
  | _, _, .nil, _ => fun u hu => by cases hu
  | y :: xs, u :: us, .cons r t, f => fun u' hu => by
    rw [List.all_cons, Bool.and_eq_true] at f
    rcases List.mem_cons.mp hu with rfl | hu
    · rw [eqU_of r f.1]; exact eqAt_V r rx f.1 fx
    · exact mem_eqAt rx fx t f.2 u' hu
def inV (x : V) (xs : List V) : Bool := xs.any fun y => eqV y x
/-- x in a list or tuple of flat items -/
def rIn (K : PySem.W.Frag) (neg : Bool) : R2 := fun x y H Q => ∃ p xs, y = .ref p ∧ (SqL K H p xs ∨ SqT K H p xs) ∧ flatV x = true ∧ xs.all flatV = true ∧ Q (.bl (if neg then !inV x xs else inV x xs)) H
theorem op_in_seq : OpR X (compareOp .In) (rIn X.K false) := by
  intro pins s σ H x y v u Q I rx ry h
  obtain ⟨p, xs, rfl, hq, fx, fs, q⟩ := h
  cases ry
  rcases hq with hq | hq
  · obtain ⟨its, r, pl, hz⟩ := I.list hq
    refine SeqAt.in_listAt (eqU x) pl.isList (fun w hw => mem_eqAt rx fx r fs w (by simpa using hw)) ⟨.bl _, H, I, rfl, ?_⟩
    rw [show its.toArray.any (eqU x) = its.any (eqU x) by simp, any_eqU r fs]
    exact q
  · obtain ⟨its, r, pl, hz⟩ := I.tuple hq
    refine SeqAt.in_tupleAt (eqU x) pl (fun w hw => mem_eqAt rx fx r fs w (by simpa using hw)) ⟨.bl _, H, I, rfl, ?_⟩
    rw [show its.toArray.any (eqU x) = its.any (eqU x) by simp, any_eqU r fs]
    exact q
theorem op_notIn_seq : OpR X (compareOp .NotIn) (rIn X.K true) := by
  intro pins s σ H x y v u Q I rx ry h
  obtain ⟨p, xs, rfl, hq, fx, fs, q⟩ := h
  cases ry
  rcases hq with hq | hq
  · obtain ⟨its, r, pl, hz⟩ := I.list hq
    refine SeqAt.notIn_listAt (eqU x) pl.isList (fun w hw => mem_eqAt rx fx r fs w (by simpa using hw)) ⟨.bl _, H, I, rfl, ?_⟩
    rw [show its.toArray.any (eqU x) = its.any (eqU x) by simp, any_eqU r fs]
    exact q
  · obtain ⟨its, r, pl, hz⟩ := I.tuple hq
    refine SeqAt.notIn_tupleAt (eqU x) pl (fun w hw => mem_eqAt rx fx r fs w (by simpa using hw)) ⟨.bl _, H, I, rfl, ?_⟩
    rw [show its.toArray.any (eqU x) = its.any (eqU x) by simp, any_eqU r fs]
    exact q
theorem op_notIn_str : OpR X (compareOp .NotIn) (fun x y H Q => ∃ i j, x = .str i ∧ y = .str j ∧ Q (.bl (!(!(Builtin.Str.occurrences j i 0 j.length 1).isEmpty))) H) := by
  intro pins s σ H x y v u Q I rx ry h
  obtain ⟨i, j, rfl, rfl, q⟩ := h
  obtain ⟨t, rfl⟩ := rx
  obtain ⟨t', rfl⟩ := ry
  exact notIn_str ⟨.bl _, H, I, rfl, q⟩

/-! ### len, list(x), tuple(x) of any list or tuple that is read -/
theorem call_len_seq : CallR X (.builtin "len") (fun xs H Q => ∃ p ys, xs = [.ref p] ∧ (SqL X.K H p ys ∨ SqT X.K H p ys) ∧ Q (.int ys.length) H) := by
  intro pins s σ H xs us Q I r h
  obtain ⟨p, ys, rfl, hq, q⟩ := h
  obtain ⟨u, rfl, rx⟩ := vals1 r
  cases rx
  have hn := line63
  rcases hq with hq | hq
  · obtain ⟨its, r', pl, hz⟩ := I.list hq
    have hlen := r'.length
    exact Calls.call_len_list pl.isList (by simp only [List.size_toArray] <;> omega) ⟨.int ys.length, H, I.tok _, ⟨s.toks + 1, by rw [List.size_toArray, hlen]⟩, q⟩
  · obtain ⟨its, r', pl, hz⟩ := I.tuple hq
    have hlen := r'.length
    exact len_tuple pl (by simp only [List.size_toArray] <;> omega) ⟨.int ys.length, H, I.tok _, ⟨s.toks + 1, by rw [List.size_toArray, hlen]⟩, q⟩
theorem call_len_str : CallR X (.builtin "len") (fun xs H Q => ∃ z, xs = [.str z] ∧ z.length ≤ sizeLine ∧ Q (.int z.length) H) := by
  intro pins s σ H xs us Q I r h
  obtain ⟨z, rfl, hz, q⟩ := h
  obtain ⟨u, rfl, t, rfl⟩ := vals1 r
  have hn := line63
  exact len_str (by omega) ⟨.int z.length, H, I.tok _, ⟨_, rfl⟩, q⟩
theorem CallR.or {f : Value} {r r' : List V → Hp → VK → Prop} (h : CallR X f r) (h' : CallR X f r') : CallR X f (fun xs H Q => r xs H Q ∨ r' xs H Q) := by
  intro pins s σ H xs us Q I rs q
  rcases q with q | q
  · exact h pins s σ H xs us Q I rs q
  · exact h' pins s σ H xs us Q I rs q
theorem call_list_of : CallR X (.type "list") (fun xs H Q => ∃ p ys, xs = [.ref p] ∧ (SqL X.K H p ys ∨ SqT X.K H p ys) ∧ ∀ l, H l = none → Q (.ref l) (upd H l (.lst ys))) := by
  intro pins s σ H xs us Q I r h
  obtain ⟨p, ys, rfl, hq, q⟩ := h
  obtain ⟨u, rfl, rx⟩ := vals1 r
  cases rx
  have fin : ∀ (its : List Value), Vals ys its → ys.length ≤ sizeLine → ∀ (h' : Heap) (c' : Nat), (∀ b o', s.heap.get? b = some o' → h'.get? b = some o') →
      h'.get? s.heap.objs.size = some { cls := .type "list", dict := none, data := .seq its.toArray c', slots := #[] } → EP X pins σ Q (.ref s.heap.objs.size) { s with heap := h' } := fun its r' hz h' c' kp e =>
    ⟨.ref s.heap.objs.size, _, I.laid (t' := s.toks) kp (Nat.le_refl _) (show ObjOk X.prog X.w _ h' _ (.lst ys) from ⟨hz, its, c', r', e⟩), rfl, q _ (I.hok.fresh (Nat.le_refl _))⟩
  rcases hq with hq | hq
  · obtain ⟨its, r', pl, hz⟩ := I.list hq
    have hlen := r'.length
    obtain ⟨o, ho, hc, n, hd⟩ := pl.isList
    exact call_list_seq p (.inl rfl) ho hc hd (fun h' c' kp e => fin its r' hz h' c' kp e) (by simp only [List.size_toArray] <;> omega)
  · obtain ⟨its, r', pl, hz⟩ := I.tuple hq
    have hlen := r'.length
    obtain ⟨o, ho, hc, n, hd⟩ := pl
    exact call_list_seq p (.inr rfl) ho hc hd (fun h' c' kp e => fin its r' hz h' c' kp e) (by simp only [List.size_toArray] <;> omega)
theorem call_tuple_of : CallR X (.type "tuple") (fun xs H Q => ∃ p ys, xs = [.ref p] ∧ ((SqL X.K H p ys ∧ ∀ l, H l = none → Q (.ref l) (upd H l (.tup ys))) ∨ (SqT X.K H p ys ∧ Q (.ref p) H))) := by
  intro pins s σ H xs us Q I r h
  obtain ⟨p, ys, rfl, h⟩ := h
  obtain ⟨u, rfl, rx⟩ := vals1 r
  cases rx
  rcases h with ⟨hq, q⟩ | ⟨hq, q⟩
  · obtain ⟨its, r', pl, hz⟩ := I.list hq
    have hlen := r'.length
    refine call_tuple_list pl.isList (fun h' kp => ?_) (by simp only [List.size_toArray] <;> omega)
    have I1 : Inv X pins σ H { s with heap := h' } := I.kept (t' := s.toks) kp
    have I2 : Inv X pins σ (upd H h'.objs.size (.tup ys)) { s with heap := h'.push { cls := .type "tuple", data := .seq its.toArray } } :=
      I1.laid (t' := s.toks) (fun b o e => Heap.get?_push_of_some _ e) (Nat.le_refl _) (show ObjOk X.prog X.w _ _ _ (.tup ys) from ⟨hz, its, r', IsTup.new _ _⟩)
    exact ⟨.ref h'.objs.size, _, I2, rfl, q _ (I1.hok.fresh (Nat.le_refl _))⟩
  · obtain ⟨its, r', pl, hz⟩ := I.tuple hq
    exact call_tuple_same pl ⟨.ref p, H, I, rfl, q⟩

/-! ### the call of a builtin's method: o.m(..) -/
/-- the value is of that builtin type -/
def tyV (K : PySem.W.Frag) (T : String) (x : V) (H : Hp) : Prop := match x with
  | .str _ => T = "str"
  | .int _ => T = "int"
  | .ref p => (T = "list" ∧ ∃ xs, SqL K H p xs) ∨ (T = "tuple" ∧ ∃ o, K.lookup p = some o ∧ o.cls = .type "tuple" ∧ o.dict = none) ∨
      (T = "dict" ∧ ((∃ kvs, H p = some (.dK kvs)) ∨ ∃ kvs, H p = some (.dT kvs))) ∨ (T = "set" ∧ ∃ S n, H p = some (.set S n))
  | _ => False
theorem tyV_is {pins : List (Addr × Obj)} {σ : St} {H : Hp} {s : Shared} {T : String} {x : V} {v : Value} (I : Inv X pins σ H s) (r : RelV x v) (ty : tyV X.K T x H) :
    s.TypeIs v T ∧ ∀ a, v = .ref a → ∃ ob, s.heap.get? a = some ob ∧ ob.dict = none := by
  cases x with
  | str z =>
    obtain ⟨t, rfl⟩ := r
    cases (show T = "str" from ty)
    exact ⟨typeIs_str s z t, fun _ e => nomatch e⟩
  | int i =>
    obtain ⟨t, rfl⟩ := r
    cases (show T = "int" from ty)
    exact ⟨typeIs_int s i t, fun _ e => nomatch e⟩
  | ref p =>
    cases r
    rcases ty with ⟨rfl, xs, hq⟩ | ⟨rfl, o, hk, hc, hd⟩ | ⟨rfl, hk⟩ | ⟨rfl, S, n, hk⟩
    · obtain ⟨its, _, pl, _⟩ := I.list hq
      refine ⟨pl.isList.typeIs, fun a e => ?_⟩
      cases e
      obtain ⟨o, n, e, c, hd, _⟩ := pl
      exact ⟨o, e, hd⟩
    · refine ⟨⟨o, I.kIn p o hk, hc⟩, fun a e => ?_⟩
      cases e
      exact ⟨o, I.kIn _ o hk, hd⟩
    · have z : ∃ o, s.heap.get? p = some o ∧ o.ExactDict := by
        rcases hk with ⟨kvs, hk⟩ | ⟨kvs, hk⟩
        · obtain ⟨_, _, _, _, o, _, _, e, ex, _⟩ := I.hok p _ hk
          exact ⟨o, e, ex⟩
        · obtain ⟨_, _, _, _, o, _, _, e, ex, _⟩ := I.hok p _ hk
          exact ⟨o, e, ex⟩
      obtain ⟨o, e, ex⟩ := z
      refine ⟨⟨o, e, ex.1⟩, fun a e2 => ?_⟩
      cases e2
      exact ⟨o, e, ex.2.1⟩
    · obtain ⟨o, _, _, _, e, ex, _⟩ := I.hok p _ hk
      refine ⟨⟨o, e, ex.1⟩, fun a e2 => ?_⟩
      cases e2
      exact ⟨o, e, ex.2.1⟩
  | _ => exact False.elim ty
def tBM0 (K : PySem.W.Frag) (T : String) (r : V → List V → Hp → VK → Prop) (to : TE) : TE := fun σ H Q => to σ H fun x H1 => tyV K T x H1 ∧ r x [] H1 Q
def tBM (K : PySem.W.Frag) (T : String) (r : V → List V → Hp → VK → Prop) (to : TE) (t : TA) : TE := fun σ H Q => to σ H fun x H1 => tyV K T x H1 ∧ t σ H1 fun xs H2 => r x xs H2 Q
variable {o e : Expr} {es : List Expr} {to : TE} {t : TA} {name : Str} {apos cpos : Pos} {T id : String} {r : V → List V → Hp → VK → Prop}
theorem pe_bm0 (pa : PlainAttrs T) (slot : Slot T name id) (hty : typeOf (.builtin id) = pure (.type "method_descriptor")) (hm : MtR X id r) (ho : PE X o to)
    (hbase : attributeBase o name X.env (eval o X.env) = eval o X.env := by rfl) (hline : (apos.endLine == cpos.line) = true := by rfl) : PE X (.Call (.Attribute o name apos) [] [] cpos) (tBM0 X.K T r to) := by
  intro pins s σ H Q I h
  refine wpAny_Call_method0_late hbase hline (thn (ho pins s σ H _ I h) fun v s1 ⟨x, H1, I1, r1, ty, q1⟩ => ?_)
  obtain ⟨h1, h2⟩ := tyV_is I1 r1 ty
  exact ⟨T, id, pa, slot, hty, h1, h2, Calls.callWith_builtin rfl (PySem.evalArgs_none (hm pins s1 σ H1 x [] v [] Q I1 r1 .nil q1))⟩
theorem pe_bm (pa : PlainAttrs T) (slot : Slot T name id) (hty : typeOf (.builtin id) = pure (.type "method_descriptor")) (hm : MtR X id r) (ho : PE X o to) (ha : PA X (e :: es) t)
    (hbase : attributeBase o name X.env (eval o X.env) = eval o X.env := by rfl)
    (hfew : ((backTo cpos (starEach (e :: es) X.env)).all (fun x => !x.1) && (backToKw cpos (keywordEach [] X.env)).all (fun x => x.1.isSome)
      && decide ((e :: es).length + ([] : List Keyword).length + (if ([] : List Keyword).isEmpty then 0 else 1) < 30)) = true := by rfl)
    (hline : (apos.endLine == cpos.line) = true := by rfl) (hs : starEach (e :: es) X.env = (false, eval e X.env) :: starEach es X.env := by rfl) (hplain : (backTo cpos (starEach es X.env)).any (·.1) = false := by rfl) :
    PE X (.Call (.Attribute o name apos) (e :: es) [] cpos) (tBM X.K T r to t) := by
  intro pins s σ H Q I h
  refine wpAny_Call_method_late hbase hfew hline rfl (thn (ho pins s σ H _ I h) fun v s1 ⟨x, H1, I1, r1, ty, q1⟩ => ?_)
  obtain ⟨h1, h2⟩ := tyV_is I1 r1 ty
  refine ⟨T, id, pa, slot, hty, h1, h2, ?_⟩
  have hA := ha cpos pins s1 σ H1 _ I1 q1
  rw [hs] at hA ⊢
  refine Calls.callWith_builtin (by show (false || (backTo cpos (starEach es X.env)).any (·.1)) = false; rw [hplain] <;> rfl) (Calls.evalArgs_plain ?_)
  exact thn hA fun us s2 ⟨vs, H2, I2, r2, q2⟩ => hm pins s2 σ H2 x vs v us Q I2 r1 r2 q2
/- xs.append(e), list.index on a module's tuple .. are MtR facts of 06m -/
end
end L2

namespace L2
open PySem PySem.Spec PyProof.Rows

def MtM (X : Cx) (id : String) (r : V → List V → Hp → VK → Prop) : Prop :=
  ∀ (pins : List (Addr × Obj)) (s : Shared) (σ : St) (H : Hp) (x : V) (xs : List V) (v : Value) (us : List Value) (Q : VK), Inv X pins σ H s → RelV x v → Vals xs us → r x xs H Q →
    wpAny (model X.prog X.w) X.A (call (.builtin id) (v :: us)) (EP X pins σ Q) X.xe s

/-! ### lists of values -/
theorem Vals.one : ∀ {x : V} {us : List Value}, Vals [x] us → ∃ u, us = [u] ∧ RelV x u
  | _, _, .cons r .nil => ⟨_, rfl, r⟩
theorem Vals.two : ∀ {x y : V} {us : List Value}, Vals [x, y] us → ∃ u v, us = [u, v] ∧ RelV x u ∧ RelV y v
  | _, _, _, .cons r (.cons q .nil) => ⟨_, _, rfl, r, q⟩
theorem Vals.zero : ∀ {us : List Value}, Vals [] us → us = []
  | _, .nil => rfl
theorem Vals.dropLast {xs : List V} {us : List Value} (h : Vals xs us) : Vals xs.dropLast us.dropLast := by
  induction h with
  | nil => exact .nil
  | cons r t ih =>
    cases t with
    | nil => exact .nil
    | cons q t' => exact .cons r ih
theorem Vals.eraseIdx : ∀ {xs : List V} {us : List Value} (i : Nat), Vals xs us → Vals (xs.eraseIdx i) (us.eraseIdx i)
  | _, _, _, .nil => .nil
  | _, _, 0, .cons _ t => t
  | _, _, i + 1, .cons r t => .cons r (Vals.eraseIdx i t)
theorem Vals.reverse {xs : List V} {us : List Value} (h : Vals xs us) : Vals xs.reverse us.reverse := by
  induction h with
  | nil => exact .nil
  | cons r t ih => rw [List.reverse_cons, List.reverse_cons]; exact Vals.append ih (.cons r .nil)
theorem Vals.rep {xs : List V} {us : List Value} (h : Vals xs us) : ∀ k : Nat, Vals (List.replicate k xs).flatten (List.replicate k us).flatten
  | 0 => .nil
  | k + 1 => by
    rw [List.replicate_succ, List.replicate_succ, List.flatten_cons, List.flatten_cons]
    exact Vals.append h (Vals.rep h k)
theorem erase_last {α : Type} (l : List α) : l.eraseIdx (l.length - 1) = l.dropLast := by
  induction l with
  | nil => rfl
  | cons a r ih =>
    cases r with
    | nil => rfl
    | cons b r =>
      have e : (a :: b :: r).length - 1 = ((b :: r).length - 1) + 1 := by
        have h1 : (a :: b :: r).length = r.length + 2 := rfl
        have h2 : (b :: r).length = r.length + 1 := rfl
        omega
      rw [e, List.eraseIdx_cons_succ, ih]
      all_goals rfl
theorem len_erase {α : Type} : ∀ (l : List α) (i : Nat), (l.eraseIdx i).length ≤ l.length
  | [], _ => Nat.le_refl _
  | _ :: _, 0 => Nat.le_succ _
  | _ :: r, i + 1 => Nat.succ_le_succ (len_erase r i)
theorem foldl_rep (its : List Value) : ∀ (k : Nat) (acc : List Value),
    List.foldl (fun x1 x2 => x1 ++ x2) acc.toArray (List.replicate k its.toArray) = (acc ++ (List.replicate k its).flatten).toArray
  | 0, acc => by simp
  | k + 1, acc => by
    have e : acc.toArray ++ its.toArray = (acc ++ its).toArray := by simp
    have e2 : (acc ++ its) ++ (List.replicate k its).flatten = acc ++ (List.replicate (k + 1) its).flatten := by
      rw [List.replicate_succ, List.flatten_cons, List.append_assoc]
    rw [← e2, ← foldl_rep its k (acc ++ its), ← e, List.replicate_succ, List.foldl_cons]

section
variable {X : Cx} {pins : List (Addr × Obj)} {σ : St} {H : Hp} {s : Shared} {l b : Addr} {xs ys zs : List V}

/-! ### the two steps: a tracked list is rewritten, a new list is laid -/
theorem Inv.lset {its its' : List Value} {n : Nat} {f : Array Value → Array Value} {t' : Nat} (I : Inv X pins σ H s) (hH : H l = some (.lst xs))
    (e : s.heap.get? l = some { cls := .type "list", data := .seq its.toArray n }) (hf : f its.toArray = its'.toArray) (hv : Vals ys its') (hz : ys.length ≤ sizeLine) :
    Inv X pins σ (upd H l (.lst ys)) { s with heap := s.heap.update l (Obj.mapSeq f), toks := t' } := by
  have q := PySem.IsL.update e f
  rw [hf] at q
  refine I.write (x := l) (e := l) (by rw [hH]; exact trivial) (.inl rfl) (fun b' u hb hu => (Heap.get?_update_other s.heap (Obj.mapSeq f) (Ne.symm hb)).trans hu) ⟨_, q⟩ ?_
  exact ⟨hz, its', _, hv, q⟩
theorem Inv.lnew {its : List Value} {t' : Nat} (I : Inv X pins σ H s) (hv : Vals ys its) (hz : ys.length ≤ sizeLine) :
    Inv X pins σ (upd H s.heap.objs.size (.lst ys)) { s with heap := s.heap.push { cls := .type "list", data := .seq its.toArray }, toks := t' } :=
  I.laid (fun _ _ q => Heap.get?_push_of_some _ q) (Nat.le_refl _) ⟨hz, its, 0, hv, Heap.get?_push_size _ rfl⟩
theorem Inv.fresh (I : Inv X pins σ H s) : H s.heap.objs.size = none := I.hok.fresh (Nat.le_refl _)
theorem Inv.lstM (I : Inv X pins σ H s) (hH : H l = some (.lst xs)) : xs.length ≤ sizeLine ∧ ∃ (its : List Value) (n : Nat), Vals xs its ∧ xs.length = its.length ∧ s.heap.get? l = some { cls := .type "list", data := .seq its.toArray n } := by
  obtain ⟨z, its, n, r, e⟩ := I.hok l _ hH
  exact ⟨z, its, n, r, r.length, e⟩

theorem notLongL {n : Nat} (h : n ≤ sizeLine) : Builtin.List.listTooLong n = false := by
  unfold Builtin.List.listTooLong
  exact decide_eq_false (by omega)
end

section
variable {X : Cx}

/-! ### methods -/
def rAppend : V → List V → Hp → VK → Prop := fun x vs H Q => ∃ l xs y, x = .ref l ∧ vs = [y] ∧ H l = some (.lst xs) ∧ xs.length < sizeLine ∧ Q .non (upd H l (.lst (xs ++ [y])))
theorem mt_append : MtM X "list.append" rAppend := by
  intro pins s σ H x vs v us Q I rx rv h
  obtain ⟨l, xs, y, rfl, rfl, hH, hz, q⟩ := h
  cases rx
  obtain ⟨u, rfl, ru⟩ := rv.one
  obtain ⟨z, its, n, r, hl, e⟩ := I.lstM hH
  refine call_meets F.slot_list_append ⟨_, e, rfl⟩ F.entry_list_append (F.args_list_append_2 _ _) (PySem.list_append l its.toArray n u (by rw [List.size_toArray]; omega)) ⟨e, ?_⟩
  refine ⟨.non, _, I.lset (its' := its ++ [u]) hH e (by simp) (r.append (.cons ru .nil)) ?_, rfl, q⟩
  rw [List.length_append, List.length_singleton]
  omega

def rExtend : V → List V → Hp → VK → Prop := fun x vs H Q => ∃ l b xs zs, x = .ref l ∧ vs = [.ref b] ∧ H l = some (.lst xs) ∧ H b = some (.lst zs) ∧ xs.length + zs.length ≤ sizeLine ∧ Q .non (upd H l (.lst (xs ++ zs)))
theorem mt_extend : MtM X "list.extend" rExtend := by
  intro pins s σ H x vs v us Q I rx rv h
  obtain ⟨l, b, xs, zs, rfl, rfl, hH, hB, hz, q⟩ := h
  cases rx
  obtain ⟨u, rfl, ru⟩ := rv.one
  cases ru
  obtain ⟨z, its, n, r, hl, e⟩ := I.lstM hH
  obtain ⟨z2, its2, n2, r2, hl2, e2⟩ := I.lstM hB
  have hsz : its.toArray.size + its2.toArray.size ≤ sizeLine := by rw [List.size_toArray, List.size_toArray]; omega
  have hlong : ¬ (!its.toArray.isEmpty && Builtin.List.listTooLong (its.toArray.size + its2.toArray.size)) = true := by
    rw [notLongL hsz, Bool.and_false]
    exact Bool.false_ne_true
  refine call_meets F.slot_list_extend ⟨_, e, rfl⟩ F.entry_list_extend (F.args_list_extend_2 _ _)
    (AutoSeq1.list_extend_list_list_0 l its.toArray n b its2.toArray n2 hlong (by rw [List.size_toArray]; omega) (by omega)) ⟨e, e2, ?_⟩
  refine ⟨.non, _, I.lset (its' := its ++ its2) hH e (by simp) (r.append r2) ?_, rfl, q⟩
  rw [List.length_append]
  omega

def rPop : V → List V → Hp → VK → Prop := fun x vs H Q => ∃ l xs y, x = .ref l ∧ vs = [] ∧ H l = some (.lst xs) ∧ xs[xs.length - 1]? = some y ∧ Q y (upd H l (.lst xs.dropLast))
theorem mt_pop : MtM X "list.pop" rPop := by
  intro pins s σ H x vs v us Q I rx rv h
  obtain ⟨l, xs, y, rfl, rfl, hH, hy, q⟩ := h
  cases rx
  have hus := rv.zero
  subst hus
  obtain ⟨z, its, n, r, hl, e⟩ := I.lstM hH
  obtain ⟨u, hu, ru⟩ := r.get hy
  have hy' : its.toArray[its.toArray.size - 1]? = some u := by
    show its.toArray[its.length - 1]? = some u
    rw [← Array.getElem?_toList, ← hl]
    exact hu
  refine call_meets F.slot_list_pop ⟨_, e, rfl⟩ F.entry_list_pop (F.args_list_pop_1 _) (MeetsSeq.list_pop_last l its.toArray n u hy' (by rw [List.size_toArray]; omega)) ⟨e, ?_⟩
  refine ⟨y, _, I.lset (its' := its.dropLast) hH e ?_ r.dropLast ?_, ru, q⟩
  · show its.toArray.eraseIdxIfInBounds (its.toArray.size - 1) = its.dropLast.toArray
    rw [List.size_toArray, List.eraseIdxIfInBounds_toArray, erase_last]
  · rw [List.length_dropLast]
    omega

def rPopAt : V → List V → Hp → VK → Prop := fun x vs H Q => ∃ l xs i k y, x = .ref l ∧ vs = [.int i] ∧ H l = some (.lst xs) ∧ -(2 ^ 63) ≤ i ∧ i < 2 ^ 63 ∧ seqIndex? i xs.length = some k ∧ xs[k]? = some y ∧ Q y (upd H l (.lst (xs.eraseIdx k)))
theorem mt_popAt : MtM X "list.pop" rPopAt := by
  intro pins s σ H x vs v us Q I rx rv h
  obtain ⟨l, xs, i, k, y, rfl, rfl, hH, h1, h2, hk, hy, q⟩ := h
  cases rx
  obtain ⟨u, rfl, ru⟩ := rv.one
  obtain ⟨t, rfl⟩ := ru
  obtain ⟨z, its, n, r, hl, e⟩ := I.lstM hH
  obtain ⟨w, hw, rw'⟩ := r.get hy
  refine call_meets F.slot_list_pop ⟨_, e, rfl⟩ F.entry_list_pop (F.args_list_pop_2 _ _)
    (MeetsSeq.list_pop_at l its.toArray n i t k w (fitsIndex_both h1 h2) (by rw [List.size_toArray, ← hl]; exact hk) (by rw [← Array.getElem?_toList]; exact hw) (by rw [List.size_toArray]; omega)) ⟨e, ?_⟩
  refine ⟨y, _, I.lset (its' := its.eraseIdx k) hH e ?_ (r.eraseIdx k) ?_, rw', q⟩
  · show its.toArray.eraseIdxIfInBounds k = (its.eraseIdx k).toArray
    rw [List.eraseIdxIfInBounds_toArray]
  · have := len_erase xs k
    omega

def rReverse : V → List V → Hp → VK → Prop := fun x vs H Q => ∃ l xs, x = .ref l ∧ vs = [] ∧ H l = some (.lst xs) ∧ Q .non (upd H l (.lst xs.reverse))
theorem mt_reverse : MtM X "list.reverse" rReverse := by
  intro pins s σ H x vs v us Q I rx rv h
  obtain ⟨l, xs, rfl, rfl, hH, q⟩ := h
  cases rx
  have hus := rv.zero
  subst hus
  obtain ⟨z, its, n, r, hl, e⟩ := I.lstM hH
  refine call_meets F.slot_list_reverse ⟨_, e, rfl⟩ F.entry_list_reverse (F.args_list_reverse_1 _) (AutoSeq1.list_reverse_list_0 l its.toArray n (by rw [List.size_toArray]; omega)) ⟨e, ?_⟩
  refine ⟨.non, _, I.lset (its' := its.reverse) hH e (by simp) r.reverse ?_, rfl, q⟩
  rw [List.length_reverse]
  omega

def rClear : V → List V → Hp → VK → Prop := fun x vs H Q => ∃ l xs, x = .ref l ∧ vs = [] ∧ H l = some (.lst xs) ∧ Q .non (upd H l (.lst []))
theorem mt_clear : MtM X "list.clear" rClear := by
  intro pins s σ H x vs v us Q I rx rv h
  obtain ⟨l, xs, rfl, rfl, hH, q⟩ := h
  cases rx
  have hus := rv.zero
  subst hus
  obtain ⟨z, its, n, r, hl, e⟩ := I.lstM hH
  refine call_meets F.slot_list_clear ⟨_, e, rfl⟩ F.entry_list_clear (F.args_list_clear_1 _) (AutoSeq1.list_clear_list_0 l its.toArray n (by rw [List.size_toArray]; omega)) ⟨e, ?_⟩
  exact ⟨.non, _, I.lset (its' := []) (ys := []) hH e rfl .nil (Nat.zero_le _), rfl, q⟩

/-! ### list + list, list += list, list * int -/
def rCat : R2 := fun x y H Q => ∃ l b xs zs, x = .ref l ∧ y = .ref b ∧ H l = some (.lst xs) ∧ H b = some (.lst zs) ∧ xs.length + zs.length ≤ sizeLine ∧ ∀ p, H p = none → Q (.ref p) (upd H p (.lst (xs ++ zs)))
theorem op_cat : OpR X (binaryOp .Add) rCat := by
  intro pins s σ H x y v u Q I rx ry h
  obtain ⟨l, b, xs, zs, rfl, rfl, hH, hB, hz, q⟩ := h
  cases rx
  cases ry
  obtain ⟨z, its, n, r, hl, e⟩ := I.lstM hH
  obtain ⟨z2, its2, n2, r2, hl2, e2⟩ := I.lstM hB
  refine PySem.P.add_list e e2 ?_ (by rw [List.size_toArray, List.size_toArray]; omega)
  have ea : its.toArray ++ its2.toArray = (its ++ its2).toArray := by simp
  rw [ea]
  exact ⟨.ref _, _, I.lnew (t' := s.toks) (r.append r2) (by rw [List.length_append]; omega), rfl, q _ I.fresh⟩
/-- a list times an int (a negative one is nothing) -/
def rRep : R2 := fun x y H Q => ∃ l k xs, x = .ref l ∧ y = .int k ∧ H l = some (.lst xs) ∧ -(2 ^ 63) ≤ k ∧ k < 2 ^ 63 ∧ xs.length * k.toNat ≤ sizeLine ∧
  ∀ p, H p = none → Q (.ref p) (upd H p (.lst (List.replicate k.toNat xs).flatten))
theorem len_rep {α : Type} (xs : List α) (k : Nat) : (List.replicate k xs).flatten.length = k * xs.length := by
  induction k with
  | zero => simp
  | succ k ih => rw [List.replicate_succ, List.flatten_cons, List.length_append, ih, Nat.succ_mul, Nat.add_comm]
theorem op_rep : OpR X (binaryOp .Mult) rRep := by
  intro pins s σ H x y v u Q I rx ry h
  obtain ⟨l, k, xs, rfl, rfl, hH, h1, h2, hz, q⟩ := h
  cases rx
  obtain ⟨t, rfl⟩ := ry
  obtain ⟨z, its, n, r, hl, e⟩ := I.lstM hH
  have hlen : its.toArray.size * k.toNat ≤ sizeLine := by rw [List.size_toArray, ← hl]; exact hz
  have hcap : ¬ its.toArray.size * k.toNat > (2 ^ 63 - 1) / 8 := by
    have : (sizeLine : Nat) ≤ (2 ^ 63 - 1) / 8 := by decide
    omega
  have hfit : ¬ (!Builtin.List.listFitsIndex k) = true := by
    rw [fitsIndex_both h1 h2]
    exact Bool.false_ne_true
  have hlong : ¬ Builtin.List.listTooLong (its.toArray.size * k.toNat) = true := by
    rw [notLongL hlen]
    exact Bool.false_ne_true
  have hnew : List.foldl (fun x1 x2 => x1 ++ x2) #[] (List.replicate (if its.toArray.isEmpty = true then 0 else k.toNat) its.toArray) = (List.replicate k.toNat its).flatten.toArray := by
    have f0 : ∀ m : Nat, List.foldl (fun x1 x2 => x1 ++ x2) #[] (List.replicate m its.toArray) = (List.replicate m its).flatten.toArray := fun m => by
      have := foldl_rep its m []
      rw [List.nil_append] at this
      exact this
    rw [f0]
    cases its with
    | nil => simp
    | cons a r' => rw [if_neg (by simp)]
  refine wpAny_binaryOp_repeat_ref (T := "list") (U := "int") (by decide) ⟨_, e, rfl⟩ (fun s' => typeIs_int s' k t) noFill_list_mul F.fills_int_mul F.slot_int_rmul repeat_list F.slot_int_index.lookup
    (call_meets F.slot_int_rmul (typeIs_int s k t) F.entry_int_rmul (F.args_int_rmul_2 _ _) (int___rmul___int_list k t l its.toArray n)
      ⟨e, rfl, ⟨_, e, rfl⟩, call_meets F.slot_list_mul ⟨_, e, rfl⟩ F.entry_list_mul (F.args_list_mul_2 _ _) (AutoListH.list___mul___list_int_3 l its.toArray n k t hfit hcap hlong) ⟨e, ?_⟩⟩)
  rw [hnew]
  exact ⟨.ref _, _, I.lnew (t' := s.toks) (r.rep k.toNat) (by rw [len_rep, Nat.mul_comm]; exact hz), rfl, q _ I.fresh⟩

/-! ### del xs[i] -/
theorem del_list {pins : List (Addr × Obj)} {s : Shared} {σ : St} {H : Hp} {l : Addr} {xs : List V} {i : Int} {t : Tok} {k : Nat} {Q : Unit → Shared → Prop} (I : Inv X pins σ H s) (hH : H l = some (.lst xs))
    (h1 : -(2 ^ 63) ≤ i) (h2 : i < 2 ^ 63) (hk : seqIndex? i xs.length = some k) (h : ∀ s', Inv X pins σ (upd H l (.lst (xs.eraseIdx k))) s' → Q () s') :
    wpAny (model X.prog X.w) X.A (delItem (.ref l) (.int i t)) Q X.xe s := by
  obtain ⟨z, its, n, r, hl, e⟩ := I.lstM hH
  refine PySem.P.delItem_list (k := k) e (fitsIndex_both h1 h2) (by rw [List.size_toArray, ← hl]; exact hk) (h _ ?_) (by rw [List.size_toArray]; omega)
  refine I.lset (its' := its.eraseIdx k) (t' := s.toks) hH e ?_ (r.eraseIdx k) ?_
  · show its.toArray.eraseIdxIfInBounds k = (its.eraseIdx k).toArray
    rw [List.eraseIdxIfInBounds_toArray]
  · have := len_erase xs k
    omega
end

/-! ### xs[a:b] = ys -/
section
variable {prog : Program} {w : World} {A : Around} {E : Value → Shared → Prop} {s : Shared}
theorem splice_eq (its its2 : List Value) (a c : Nat) : its.toArray.extract 0 a ++ its2.toArray ++ its.toArray.extract c its.toArray.size = (its.take a ++ its2 ++ its.drop c).toArray := by
  apply Array.toList_inj.mp
  first
    | (simp
       exact List.take_of_length_le (by simp))
    | simp [List.take_of_length_le]
    | simp
theorem bounds_run {a c n : Nat} (hac : a ≤ c) (hc : c ≤ n) : sliceBounds (some (a : Int)) (some (c : Int)) none n = ((a : Int), (c : Int), 1) := by
  simp only [sliceBounds, Option.getD_none]
  have h1 : ¬ ((a : Int) < 0) := by omega
  have h2 : ¬ ((c : Int) < 0) := by omega
  simp only [h1, h2, if_false, show (1 : Int) > 0 by decide, if_true]
  congr 1
  · omega
  · congr 1; omega
set_option maxRecDepth 100000 in
/-- list.__setitem__ with a slice of step one and another list -/
theorem setItem_slice {l b sl : Addr} {items new : Array Value} {n n2 : Nat} {vl vu : Value} {a c : Nat} {Q : Unit → Shared → Prop}
    (e : s.heap.get? l = some { cls := .type "list", data := .seq items n }) (e2 : s.heap.get? b = some { cls := .type "list", data := .seq new n2 }) (hne : l ≠ b)
    (hs : s.heap.IsSliceOf sl vl vu .none) (pl : IsPart vl (some (a : Int))) (pu : IsPart vu (some (c : Int))) (hac : a ≤ c) (hc : c ≤ items.size)
    (hsz : items.size + new.size ≤ sizeLine) (h : Q () { s with heap := s.heap.update l (Obj.mapSeq fun xs => xs.extract 0 a ++ new ++ xs.extract c xs.size) }) :
    wpAny (model prog w) A (setItem (.ref l) (.ref sl) (.ref b)) Q E s := by
  have hl : s.heap.IsList l items := PySem.IsL.isList e
  have hb : s.heap.IsList b new := PySem.IsL.isList e2
  obtain ⟨os, hos, hcs, hds⟩ := id hs
  have hTs : s.TypeIs (.ref sl) "slice" := ⟨os, hos, hcs⟩
  have hstep : ¬ ((rawPart none == rawInt 0) = true) := Bool.false_ne_true
  have hsame : Builtin.List.listSameRef (.ref l) (.ref b) = false := by
    unfold Builtin.List.listSameRef
    exact beq_eq_false_iff_ne.mpr hne
  have hmax : (max (a : Int) (c : Int)).toNat = c := by omega
  have hz' : ((fun xs : Array Value => xs.extract 0 a ++ new ++ xs.extract c xs.size) items).size ≤ sizeLine + 1 := by
    simp only [Array.size_append, Array.size_extract]
    omega
  unfold setItem
  try with_reducible refine wpAny_holding ?_
  first | refine wpAny_bind (wpAny_pure ?_) | skip
  refine wpAny_bind (wpAny_sequenceKey hl.typeIs (by decide) ?_)
  refine wpAny_bind (wpAny_callSpecial?_slot (name := Str.ofString "__setitem__") hl.typeIs slot_list_setitem
    (wpAny_call_entry slot_list_setitem hl.typeIs entry_list_setitem ?_ (args_list_setitem _ _ _)))
  show wpAny _ _ (Builtin.List.listSubscript? (.ref sl) >>= _) _ _ s
  refine wpAny_bind ?_
  unfold Builtin.List.listSubscript?
  refine wpAny_bind (wpAny_specialOf hTs slice_no_index ?_)
  simp only [Option.isNone_none, if_true]
  refine wpAny_pure ?_
  show wpAny _ _ (typeOf (.ref sl) >>= _) _ _ s
  refine wpAny_bind (wpAny_typeOf hTs ?_)
  first
    | rw [if_neg (by decide)]
    | refine PySem.W.KFB.if_not (by decide) ?_
  rw [listSliceParts_eq]
  refine wpAny_bind (wpAny_bind (wpAny_field hos hds (x := .none) rfl (wpAny_bind (wpAny_listPart .none ?_))))
  rw [if_neg hstep]
  refine wpAny_bind (wpAny_field hos hds (x := vl) rfl (wpAny_bind (wpAny_listPart pl ?_)))
  refine wpAny_bind (wpAny_field hos hds (x := vu) rfl (wpAny_bind (wpAny_listPart pu (wpAny_pure ?_))))
  first
    | simp only [hsame, Bool.false_eq_true, if_false]
    | refine PySem.W.KFB.if_not hsame ?_
    | (dsimp only
       rw [if_neg (by rw [hsame]; exact Bool.false_ne_true)])
  refine wpAny_bind (m := Builtin.List.listAllItems (.ref b) "must assign iterable to extended slice") ?_
  unfold Builtin.List.listAllItems
  refine wpAny_bind (wpAny_typeOf hb.typeIs ?_)
  first
    | refine PySem.W.KFB.if_so (by decide) ?_
    | rw [if_pos (by decide)]
    | simp only [beq_self_eq_true, Bool.true_or, if_true]
  unfold Builtin.List.listItems
  refine wpAny_bind (wpAny_seqItems e2 rfl (wpAny_pure ?_))
  refine wpAny_bind (wpAny_bind (wpAny_seqItems e rfl (wpAny_pure ?_)))
  refine wpAny_bind (wpAny_of_eq ((sliceIndices_raw (some (a : Int)) (some (c : Int)) none items.size (by simp)).trans (congrArg (pure : Int × Int × Int → Sem (Int × Int × Int)) (bounds_run hac hc))) ?_)
  show wpAny _ _ (if ((1 : Int) == 1) = true then _ else _) _ _ s
  rw [if_pos (by decide)]
  refine wpAny_bind (wpAny_rule ?_)
  first
    | simp only [notLongL hsz, Bool.false_eq_true, if_false]
    | refine PySem.W.KFB.if_not (notLongL hsz) ?_
  first | refine wpAny_bind (wpAny_pure ?_) | skip
  show wpAny _ _ (updateSeq l (fun xs => xs.extract 0 ((a : Int)).toNat ++ new ++ xs.extract (max (a : Int) (c : Int)).toNat xs.size) >>= _) _ _ s
  rw [hmax, Int.toNat_natCast]
  refine wpAny_bind (wpAny_updateSeq (hz := Nat.le_trans (Nat.le_add_right _ _) hsz) (_hz' := hz') e rfl ?_)
  refine wpAny_bind (wpAny_letGo ?_)
  first
    | exact wpAny_bind (wpAny_pure (wpAny_pure ⟨.none, rfl, wpAny_pure h⟩))
    | exact wpAny_pure ⟨.none, rfl, wpAny_pure h⟩
end

section
variable {X : Cx}
/-- xs[a:c] = ys of another list, at the value level: sl is the slice object that was just made -/
theorem set_slice {pins : List (Addr × Obj)} {s : Shared} {σ : St} {H : Hp} {l b sl : Addr} {xs ys : List V} {a c : Int} {vl vu : Value} {Q : Unit → Shared → Prop} (I : Inv X pins σ H s)
    (hH : H l = some (.lst xs)) (hB : H b = some (.lst ys)) (hne : l ≠ b) (hs : s.heap.IsSliceOf sl vl vu .none) (ra : RelV (.int a) vl) (rc : RelV (.int c) vu) (h0 : 0 ≤ a) (hac : a ≤ c) (hc : c ≤ xs.length)
    (hz : xs.length + ys.length ≤ sizeLine) (h : ∀ s', Inv X pins σ (upd H l (.lst (xs.take a.toNat ++ ys ++ xs.drop c.toNat))) s' → Q () s') :
    wpAny (model X.prog X.w) X.A (setItem (.ref l) (.ref sl) (.ref b)) Q X.xe s := by
  obtain ⟨ta, rfl⟩ := ra
  obtain ⟨tc, rfl⟩ := rc
  obtain ⟨z, its, n, r, hl, e⟩ := I.lstM hH
  obtain ⟨z2, its2, n2, r2, hl2, e2⟩ := I.lstM hB
  obtain ⟨a', rfl⟩ := Int.eq_ofNat_of_zero_le h0
  obtain ⟨c', rfl⟩ := Int.eq_ofNat_of_zero_le (Int.le_trans h0 hac)
  simp only [Int.toNat_natCast] at h
  refine setItem_slice (a := a') (c := c') e e2 hne hs (.int _ _) (.int _ _) (by omega) (by rw [List.size_toArray]; omega) (by rw [List.size_toArray, List.size_toArray]; omega) (h _ ?_)
  refine I.lset (its' := its.take a' ++ its2 ++ its.drop c') (t' := s.toks) hH e ?_ (Vals.append (Vals.append (r.take _) r2) (r.drop _)) ?_
  · exact splice_eq its its2 a' c'
  · rw [List.length_append, List.length_append, List.length_take, List.length_drop]
    omega
end
end L2

namespace Att
open PySem PySem.W PySem.Calls PyProof.Rows

/-! ### the script -/
theorem ints_of_wellAll {P : Params} {h : Heap} : ∀ (ns : List Int) (vs : List Value), WellAll P h vs (ns.map WData.int) → IntsAre vs ns := by
  intro ns
  induction ns with
  | nil =>
    intro vs w
    rw [List.map_nil] at w
    cases w
    exact .nil
  | cons n ns ih =>
    intro vs w
    rw [List.map_cons] at w
    cases w with
    | cons a b =>
      cases a
      exact .cons _ _ (ih _ b)

theorem script_of {l : OpenLaw} {n : Nat} (hn : l.most = some n) {P : Params} {h : Heap} {args : List WData} {vals : List Value}
    (hpre : l.row.toRowW.claim.pre args = true) (hwl : WellAll P h vals args) :
    ∃ a vs ns, vals = [Value.ref a] ∧ args = [WData.list (ns.map WData.int)] ∧ h.get? a = some { cls := .type "list", data := .seq vs.toArray } ∧ IntsAre vs ns ∧ ns.length ≤ n := by
  have hsh : WShape.hasAll [] args [.list .int] = true := (pre_splitW hpre).1
  have hc : l.pre.holds [] { args := args } = true := (pre_splitW hpre).2
  obtain ⟨d, r, rfl, h1, h2⟩ := hasAllW_cons hsh
  obtain rfl := hasAllW_nil h2
  obtain ⟨xs, rfl, h3⟩ := hasW_list h1
  obtain ⟨ns, rfl⟩ := items_int h3
  have hlen : ns.length ≤ n := by
    unfold OpenLaw.pre at hc
    have h4 : (WTm.not (.lt (.lit (.int (n : Int))) (.len (.arg 0)))).holds [] { args := [.list (ns.map .int)] } = true := by
      have h4 := (holds_andW hc).1
      rw [hn] at h4
      exact h4
    have h5 := condW_of h4 (w_not (w_lt w_lit (w_len_list (w_arg rfl))))
    rw [List.length_map] at h5
    refine Nat.le_of_not_lt fun q => ?_
    have q' : (n : Int) < ((ns.length : Nat) : Int) := by omega
    first
      | (rw [decide_eq_true q'] at h5; exact absurd h5 (by decide))
      | (simp at h5; omega)
  cases hwl with
  | cons w1 w2 =>
    cases w2
    cases w1 with
    | list ho hall => exact ⟨_, _, ns, rfl, rfl, ho, ints_of_wellAll ns _ hall, hlen⟩

theorem post_true (l : OpenLaw) (args : List WData) : l.row.toRowW.claim.post args (.bool true) args = true :=
  postW_of (r := l.row.toRowW) (X := (true == true))
    (show WShape.has [] (.bool true) .bool = true by first | rfl | decide | simp [WShape.has, WShape.arms, WShape.armsAll])
    (show (WTm.eq .res (.lit (.bool true))).value [] { args := args, res := some (.bool true), after := args } = some (.bool (true == true)) from w_eq_bool (w_res rfl) w_lit) rfl

/-! ### the attachment: holds_open's last premise (the goal 'hc' behind k_head) from a wpAny of the law's body -/
theorem attach {l : OpenLaw} {n : Nat} {q : Program} {loose : List Str} {XP : (Str → Option Value) → Heap → Prop} {YP : World → Heap → Prop} {d : DefRec} {x : Str}
    (hn : l.most = some n) (hdf : d.params.defaults = [])
    (hbind : ∀ pm cd doc v : Value, bindArgs (docDef d.name d.params d.body d.scope pm cd doc) ⟨[v], []⟩ = pure [(x, v)])
    (hx : d.scope.names.lookup x = some .local ∨ d.scope.names.lookup x = some .cell)
    (hk : d.scope.kind = .function) (hco : d.scope.isCoroutine = false) (hgen : d.scope.isGenerator = false)
    (body : ∀ (w : World) (s₀ s₁ s : Shared) (mg mb : Str → Option Value) (fa : Addr) (o : Obj) (pm cd doc : Value) (a : Addr) (vs : List Value) (ns : List Int),
      Ground q loose [] XP w s₀ mg mb s₁.heap → YP w s₁.heap →
      s₁.heap.get? fa = some o → o.data = .func (docDef d.name d.params d.body d.scope pm cd doc) → s₁.heap.CodeRec cd d.name → mg d.name = some (.ref fa) →
      s₁.heap.get? a = some { cls := .type "list", data := .seq vs.toArray } → IntsAre vs ns → ns.length ≤ n →
      s.gens = #[] → s.os = s₁.os →
      Fr s₁.heap s₁.heap.objs.size s.heap (bindL (envOfC d.name d.scope s₁.heap.objs.size fa cd).kindOf [(x, .ref a)] fun _ => none) →
      Cl s₁.heap.objs.size (cellsFrom (s₁.heap.objs.size + 1) d.scope.names []) s.heap (bindC (envOfC d.name d.scope s₁.heap.objs.size fa cd).kindOf [(x, .ref a)] fun _ => none) →
      wpAny (model l.prog w) (callerA.deeper (envOfC d.name d.scope s₁.heap.objs.size fa cd)) (execs d.body (envOfC d.name d.scope s₁.heap.objs.size fa cd))
        (fun f s' => f = .ret (.bool true) ∧ OldK s₁.heap s'.heap ∧ s'.os = s₁.os ∧ AllBare s'.gens) (fun _ _ => False) s) :
    WalkO q loose XP YP l.row.toRowW d [] (fun f vs => PySem.call f vs) := by
  intro w s₀ s₁ mg mb G Y fa o pm cd doc dV kV ho hd hcd hD hmg hg args vals as hpre hlay hrd hwl hlo
  obtain rfl : dV = .none := Dflts.none hD hdf
  obtain rfl : kV = .none := Dflts.noKw hD
  obtain ⟨a, vs, ns, rfl, rfl, hobj, hints, hlen⟩ := script_of hn hpre hwl
  refine enter_call ?_
  refine call_cells_ret (o := o) (by rw [depth_caller]; decide) ho (fd_plain hd) G.T.nolimit hcd (hbind pm cd doc (.ref a)) (fun y hy => ?_) (fun h₁ tk F X => ?_) hco hgen hk
  · obtain rfl : y = (x, Value.ref a) := List.mem_singleton.mp hy
    rcases hx with e | e
    · exact .inl e
    · exact .inr ⟨e, cellsFrom_some _ _ _ (.inl e)⟩
  · refine wpAny_mono (body w s₀ s₁ { s₁ with heap := h₁, toks := tk } mg mb fa o pm cd doc a vs ns G Y ho (fd_plain hd) hcd hmg hobj hints hlen hg rfl F X) (fun f s' hq => ?_) (fun _ _ hq => hq)
    obtain ⟨rfl, h2, h3, h4⟩ := hq
    exact ⟨.inl ⟨.bool true, .bool true, [], rfl, fun _ => rfl, .bool true, post_true l _, fun _ => ⟨List.Pairwise.nil, fun _ hm => (nomatch hm)⟩⟩, h2, h3, h4⟩

/-- the same from a codeAny of the CALL (for a layer whose function contracts speak of calls) -/
theorem attach_call {l : OpenLaw} {n : Nat} {q : Program} {loose : List Str} {XP : (Str → Option Value) → Heap → Prop} {YP : World → Heap → Prop} {d : DefRec}
    (hn : l.most = some n) (hdf : d.params.defaults = [])
    (call : ∀ (w : World) (s₀ s₁ : Shared) (mg mb : Str → Option Value) (fa : Addr) (o : Obj) (pm cd doc : Value) (a : Addr) (vs : List Value) (ns : List Int),
      Ground q loose [] XP w s₀ mg mb s₁.heap → YP w s₁.heap →
      s₁.heap.get? fa = some o → o.data = .func (docDef d.name d.params d.body d.scope pm cd doc) → s₁.heap.CodeRec cd d.name → mg d.name = some (.ref fa) →
      s₁.heap.get? a = some { cls := .type "list", data := .seq vs.toArray } → IntsAre vs ns → ns.length ≤ n → s₁.gens = #[] →
      codeAny (model l.prog w) callerA (.call (.ref fa) ⟨[.ref a], []⟩) (fun r s' => r = .ok (.ret (.bool true)) ∧ OldK s₁.heap s'.heap ∧ s'.os = s₁.os ∧ AllBare s'.gens) s₁) :
    WalkO q loose XP YP l.row.toRowW d [] (fun f vs => PySem.call f vs) := by
  intro w s₀ s₁ mg mb G Y fa o pm cd doc dV kV ho hd hcd hD hmg hg args vals as hpre hlay hrd hwl hlo
  obtain rfl : dV = .none := Dflts.none hD hdf
  obtain rfl : kV = .none := Dflts.noKw hD
  obtain ⟨a, vs, ns, rfl, rfl, hobj, hints, hlen⟩ := script_of hn hpre hwl
  refine enter_call (codeAny_mono (call w s₀ s₁ mg mb fa o pm cd doc a vs ns G Y ho (fd_plain hd) hcd hmg hobj hints hlen hg) fun r s' hq => ?_)
  obtain ⟨rfl, h2, h3, h4⟩ := hq
  exact ⟨.inl ⟨.bool true, .bool true, [], rfl, fun _ => rfl, .bool true, post_true l _, fun _ => ⟨List.Pairwise.nil, fun _ hm => (nomatch hm)⟩⟩, h2, h3, h4⟩

/-- the same where the top left finished generators (o_head chose holds_openN): nothing may have changed at all and no generator may be left -/
theorem attachN {l : OpenLaw} {n : Nat} {q : Program} {loose : List Str} {XP : (Str → Option Value) → Heap → Prop} {YP : World → Heap → Prop} {d : DefRec} {x : Str}
    (hn : l.most = some n) (hdf : d.params.defaults = [])
    (hbind : ∀ pm cd doc v : Value, bindArgs (docDef d.name d.params d.body d.scope pm cd doc) ⟨[v], []⟩ = pure [(x, v)])
    (hx : d.scope.names.lookup x = some .local ∨ d.scope.names.lookup x = some .cell)
    (hk : d.scope.kind = .function) (hco : d.scope.isCoroutine = false) (hgen : d.scope.isGenerator = false)
    (body : ∀ (w : World) (s₀ s₁ s : Shared) (mg mb : Str → Option Value) (fa : Addr) (o : Obj) (pm cd doc : Value) (a : Addr) (vs : List Value) (ns : List Int),
      Ground q loose [] XP w s₀ mg mb s₁.heap → YP w s₁.heap →
      s₁.heap.get? fa = some o → o.data = .func (docDef d.name d.params d.body d.scope pm cd doc) → s₁.heap.CodeRec cd d.name → mg d.name = some (.ref fa) →
      s₁.heap.get? a = some { cls := .type "list", data := .seq vs.toArray } → IntsAre vs ns → ns.length ≤ n →
      s.gens = #[] → s.os = s₁.os →
      Fr s₁.heap s₁.heap.objs.size s.heap (bindL (envOfC d.name d.scope s₁.heap.objs.size fa cd).kindOf [(x, .ref a)] fun _ => none) →
      Cl s₁.heap.objs.size (cellsFrom (s₁.heap.objs.size + 1) d.scope.names []) s.heap (bindC (envOfC d.name d.scope s₁.heap.objs.size fa cd).kindOf [(x, .ref a)] fun _ => none) →
      wpAny (model l.prog w) (callerA.deeper (envOfC d.name d.scope s₁.heap.objs.size fa cd)) (execs d.body (envOfC d.name d.scope s₁.heap.objs.size fa cd))
        (fun f s' => f = .ret (.bool true) ∧ (∀ b o, s₁.heap.get? b = some o → s'.heap.get? b = some o) ∧ s'.os = s₁.os ∧ s'.gens = #[]) (fun _ _ => False) s) :
    WalkN q loose XP YP l.row.toRowW d [] (fun f vs => PySem.call f vs) := by
  intro w s₀ s₁ mg mb G Y fa o pm cd doc dV kV ho hd hcd hD hmg hg args vals as hpre hlay hrd hwl hlo
  obtain rfl : dV = .none := Dflts.none hD hdf
  obtain rfl : kV = .none := Dflts.noKw hD
  obtain ⟨a, vs, ns, rfl, rfl, hobj, hints, hlen⟩ := script_of hn hpre hwl
  refine enter_callW ?_
  refine call_cells_ret (o := o) (by rw [depth_caller]; decide) ho (fd_plain hd) G.T.nolimit hcd (hbind pm cd doc (.ref a)) (fun y hy => ?_) (fun h₁ tk F X => ?_) hco hgen hk
  · obtain rfl : y = (x, Value.ref a) := List.mem_singleton.mp hy
    rcases hx with e | e
    · exact .inl e
    · exact .inr ⟨e, cellsFrom_some _ _ _ (.inl e)⟩
  · refine wpAny_mono (body w s₀ s₁ { s₁ with heap := h₁, toks := tk } mg mb fa o pm cd doc a vs ns G Y ho (fd_plain hd) hcd hmg hobj hints hlen hg rfl F X) (fun f s' hq => ?_) (fun _ _ hq => hq)
    obtain ⟨rfl, h2, h3, h4⟩ := hq
    exact ⟨.inl ⟨.bool true, .bool true, [], rfl, fun _ => rfl, .bool true, post_true l _, fun _ => ⟨List.Pairwise.nil, fun _ hm => (nomatch hm)⟩⟩, h2, h3, h4⟩

/-! ### rules over ANY heap (no ledger) from facts about the written part K: the library's own take a ledger (News) for what they write -/
section
variable {prog : Program} {w : World} {A : Around} {E : Value → Shared → Prop} {s : Shared} {K : Frag}

/-- a def of the module, or a method (qual 'C.m'), entered: the frame is the next address; cells behind it -/
theorem call_fn {R : Result → Shared → Prop} {name qual : Str} {params : Arguments} {body : List Stmt} {scope : Scope} {dV kV doc pm cdv ct oc : Value} {an od : Option Addr} {osl : Array (Option Value)} {f : Addr} {args : Args} {binds : List (Str × Value)}
    (X : K.In s.heap) (hlim : s.heap.NoLimit) (ho : K.lookup f = some ⟨oc, od, .func (fnOf name qual params body scope dV kV doc pm an cdv ct), osl⟩) (hcd : codeIn K cdv qual = true) (hroom : A.depth < recursionLimit)
    (hbind : BindsTo s (fnOf name qual params body scope dV kV doc pm an cdv ct) args binds)
    (hkind : (binds.all fun y => scope.names.lookup y.1 == some .local || scope.names.lookup y.1 == some .cell) = true)
    (h : ∀ s₁, InCallC s s.heap.objs.size (bindL (envOfC qual scope s.heap.objs.size f cdv).kindOf binds fun _ => none) (cellsFrom (s.heap.objs.size + 1) scope.names [])
        (bindC (envOfC qual scope s.heap.objs.size f cdv).kindOf binds fun _ => none) s₁ →
      wpAny (model prog w) (A.deeper (envOfC qual scope s.heap.objs.size f cdv)) (execs body (envOfC qual scope s.heap.objs.size f cdv))
        (fun fl s' => R (.ok (.ret (match fl with | .ret v => v | _ => .none))) s')
        (fun e s' => wpAny (model prog w) (A.deeper (envOfC qual scope s.heap.objs.size f cdv)) (leaving (envOfC qual scope s.heap.objs.size f cdv) e) (fun _ s'' => R (.error e) s'') (fun e' s'' => R (.error e') s'') s') s₁)
    (hco : scope.isCoroutine = false) (hgen : scope.isGenerator = false) (hk : scope.kind = .function) : codeAny (model prog w) A (.call (.ref f) args) R s := by
  refine codeAny_call_function hroom (X _ _ ho) rfl hco hgen rfl (codeRec_of X hcd) (hbind _ _ _ _ ?_)
  refine wpAny_newFunctionEnv_cells hk (kindsX hkind _) fun env he s₁ x => ?_
  subst he
  exact ⟨hlim.keeps x.toInCall.keep, codeAny_func (h s₁ x)⟩

/-- C(..): dict at size, instance at size + 1, then __init__ -/
theorem make_obj {R : Result → Shared → Prop} {C fI : Addr} {rest : List Value} {kw : List (Str × Value)}
    (X : K.In s.heap) (hm : makesIn K C = true) (hi : findIn K (.ref C) "__init__" = some (some (.ref fI))) (hf : isFn K (.ref fI) = true)
    (h : codeAny (model prog w) (A.under (.builtin "type.__call__" ⟨.ref C :: rest, kw⟩)) (.call (.ref fI) ⟨.ref (s.heap.objs.size + 1) :: rest, kw⟩) (InitBack (s.heap.objs.size + 1) R)
      { s with heap := (s.heap.push emptyDict).push (instObj C s.heap.objs.size) }) : codeAny (model prog w) A (.call (.ref C) ⟨rest, kw⟩) R s := by
  obtain ⟨hh, g, d, t, os⟩ := s
  exact make_core (makes_of X hm) (looks_findIn X hi) (fun self => bind_fn X self (beq_iff_eq.mp hf)) (.inl rfl) h

/-- x.name where the instance's dict holds the name and the class does not -/
theorem get_field {x C : Addr} {ox : Obj} {es : List DictEntry} {n : Nat} {name : Str} {expr : Bool} {v : Value} {Q : Value → Shared → Prop}
    (X : K.In s.heap) (I : PySem.W.InstAt s.heap x ox C (some (dictOf es n))) (hg : plainGet K C name = true) (hh : hasDictIn K C = true) (ha : findIn K (.ref C) name = some none)
    (hl : getL name es = some (some v)) (hv : handedIn v = true) (h : Q v { s with toks := s.toks + 1 }) : wpAny (model prog w) A (getAttr (.ref x) name expr) Q E s :=
  get_value X I (plainGet_of hg).1 (findObj_own hh ha rfl hl) hv h

/-- x.m(..): the method found in the class -/
theorem get_method {x C f : Addr} {ox : Obj} {es : List DictEntry} {n : Nat} {name : Str} {pl : Sem Bool} {Q : Value × List Value → Shared → Prop}
    (X : K.In s.heap) (I : PySem.W.InstAt s.heap x ox C (some (dictOf es n))) (hg : plainGet K C name = true) (hf : findIn K (.ref C) name = some (some (.ref f))) (ht : isFn K (.ref f) = true)
    (hl : getL name es = some none) (h : Q (.ref f, [.ref x]) s) : wpAny (model prog w) A (getMethod (.ref x) name pl) Q E s :=
  method_fn X I (plainGet_of hg).1 (plainGet_of hg).2 hf (beq_iff_eq.mp ht) (by show (lookIn name (dictOf es n)).map _ = _; rw [lookIn_dict, hl]; rfl) h

/-! the whole heap as the ledger: makes every rule that writes through a ledger a rule over any heap -/
def noObjs (h : Heap) : Heap := { h with objs := #[] }
theorem noObjs_get (h : Heap) (b : Addr) : (noObjs h).get? b = none := by
  cases e : (noObjs h).get? b with
  | none => rfl
  | some o => exact absurd (Heap.lt_size e) (Nat.not_lt_zero _)
def ledger (h : Heap) (L d : Addr) : List (Addr × Obj) := (List.range h.objs.size).filterMap fun a => if a = L ∨ a = d then none else (h.get? a).map fun o => (a, o)
theorem mem_ledger {h : Heap} {L d a : Addr} {o : Obj} : (a, o) ∈ ledger h L d ↔ a ≠ L ∧ a ≠ d ∧ h.get? a = some o := by
  unfold ledger
  rw [List.mem_filterMap]
  constructor
  · rintro ⟨b, _, e⟩
    split at e
    · cases e
    · rename_i hb
      obtain ⟨o', ho, e'⟩ := Option.map_eq_some_iff.mp e
      cases e'
      exact ⟨fun q => hb (.inl q), fun q => hb (.inr q), ho⟩
  · rintro ⟨n1, n2, ho⟩
    refine ⟨a, List.mem_range.mpr (Heap.lt_size ho), ?_⟩
    rw [if_neg (show ¬ (a = L ∨ a = d) from fun q => q.elim n1 n2), ho] <;> rfl
theorem news_ledger {h : Heap} {L d : Addr} {od : Obj} (hne : d ≠ L) (ho : h.get? d = some od) : News (noObjs h) L h ([] ++ (d, od) :: ledger h L d) := by
  rintro ⟨a, o⟩ hp
  rcases List.mem_cons.mp hp with e | hp
  · cases e
    exact ⟨ho, hne, noObjs_get _ _⟩
  · obtain ⟨n1, n2, e⟩ := mem_ledger.mp hp
    exact ⟨e, n1, noObjs_get _ _⟩
theorem fr_all {h : Heap} {L : Addr} {m : Str → Option Value} (n : h.Ns L m) : Fr (noObjs h) L h m :=
  ⟨n, fun b o e => (by rw [noObjs_get] at e; cases e), Nat.zero_le _⟩
/-- Upd of the head entry (for append_K, setItem_K ..) -/
theorem upd_ledger {h : Heap} {L d : Addr} {o o' : Obj} : Upd d o o' ((d, o) :: ledger h L d) ((d, o') :: ledger h L d) :=
  .head fun ⟨_, _⟩ hp => (mem_ledger.mp hp).2.1

/-- x.name = v over any heap: L is any namespace of the heap (the frame's, say): its map stays, its object is not told; all else but the dict stays -/
theorem set_field {x C dx L : Addr} {ox : Obj} {m : Str → Option Value} {es es' : List DictEntry} {n n' : Nat} {name : Str} {v : Value} {Q : Unit → Shared → Prop}
    (X : K.In s.heap) (I : PySem.W.InstAt s.heap x ox C (some (dictOf es n))) (hd : ox.dict = some dx) (hL : s.heap.Ns L m) (hne : dx ≠ L)
    (hs : findIn K (.ref C) "__setattr__" = some (some (.builtin "object.__setattr__"))) (hp : plainOver K C = true) (ht : takerIn K C name = some none) (hh : hasDictIn K C = true) (hl : (getL name es).isSome = true)
    (e : (putL name (PyData.keyHash w.params name) (.str name (s.toks + 1)) v es, putN name es n) = (es', n')) (hz : es'.length ≤ 1000)
    (h : ∀ h' : Heap, h'.Ns L m → h'.get? dx = some (dictOf es' n') → (∀ b o, b ≠ dx → b ≠ L → s.heap.get? b = some o → h'.get? b = some o) → Q () { s with heap := h', toks := s.toks + 2 }) :
    wpAny (model prog w) A (setAttr (.ref x) name v) Q E s := by
  obtain ⟨e1, e2⟩ := Prod.mk.inj e
  have hdx : s.heap.get? dx = some (dictOf es n) := by
    have := I.dict
    rw [hd] at this
    exact this
  refine set_plain X I hs (osa_dict (s := { s with toks := s.toks + 1 }) (h₀ := noObjs s.heap) (L := L) (m := m) (od := dictOf es n) (od' := dictOf es' n') (es := es') (n := n') (pre := []) (post := ledger s.heap L dx)
    (fr_all hL) (news_ledger hne hdx) X I hd hp ht hh hl (fun _ q => nomatch q) (fun ⟨_, _⟩ q => (mem_ledger.mp q).2.1) (by rw [putName_dict, e1, e2]) rfl hz fun h' F' N' => ?_)
  exact h h' F'.ns (N'.get (List.Mem.head _)) fun b o n1 n2 ho => N'.get (List.Mem.tail _ (mem_ledger.mpr ⟨n2, n1, ho⟩))
end
end Att

namespace L2
open PySem PySem.Spec PyProof.Rows

theorem vals_ints : ∀ {vs : List Value} {ns : List Int}, IntsAre vs ns → Vals (ns.map V.int) vs
  | _, _, .nil => .nil
  | _, _, .cons n t h => .cons ⟨t, rfl⟩ (vals_ints h)

/-- nothing is tracked but the script, known to the object (or it is an object of the module) -/
def Only (H : Hp) : Prop := ∀ b, H b = none ∨ ∃ o xs, H b = some (.frz o (.lst xs))

/-- THE HEAD: the law's promise, at the heap behind the top. F, the promise of the law's def, may use that base is part of the heap (so K.In base, base.Ns mainGlobals mg stand in Mod) -/
theorem law_call {P : Program} {w : World} {K : PySem.W.Frag} {mg mb : Str → Option Value} {CX : CXT} {k : Nat} {fa a : Addr} {fd : FuncData} {x : Str} {sp : Sp} {s₁ : Shared} {vs : List Value} {ns : List Int}
    (KX : K.In s₁.heap) (hns : s₁.heap.Ns mainGlobals mg) (hb : s₁.heap.Ns builtinsNs mb) (hbb : ∀ x : Str, x ≠ "__name__" → mb x = bootBuiltins x) (hlim : s₁.heap.NoLimit) (hg : s₁.gens = #[])
    (ha : s₁.heap.get? a = some { cls := .type "list", data := .seq vs.toArray }) (hi : IntsAre vs ns) (hl : ns.length ≤ sizeLine) (hr : Room k callerA)
    (F : ∀ base : Heap, K.In base → base.Ns mainGlobals mg → FnOk P w K mg base CX k fa fd [x] sp) (hbind : ∀ (s : Shared) (u : Value), BindsTo s fd ⟨[u], []⟩ [(x, u)])
    (hsp : ∀ H : Hp, Only H → SqL K H a (ns.map V.int) → sp [.ref a] H (fun v _ => v = .bl true) fun _ _ _ => False)
    (hCX : ∀ H e s', CX [] H s₁ (fun _ _ _ => False) e s' → False) :
    codeAny (model P w) callerA (.call (.ref fa) ⟨[.ref a], []⟩) (fun r s' => r = .ok (.ret (.bool true)) ∧ OldK s₁.heap s'.heap ∧ s'.os = s₁.os ∧ AllBare s'.gens) s₁ := by
  have rv := vals_ints hi
  have lenV := hi.length
  -- from an abstract heap in which nothing but the script may be tracked
  have core : ∀ H : Hp, Only H → SqL K H a (ns.map V.int) → HOk P w H s₁.heap → (∀ b, H b ≠ none → b = a) → (H a ≠ none → K.lookup a = none) →
      codeAny (model P w) callerA (.call (.ref fa) ⟨[.ref a], []⟩) (fun r s' => r = .ok (.ret (.bool true)) ∧ OldK s₁.heap s'.heap ∧ s'.os = s₁.os ∧ AllBare s'.gens) s₁ := by
    intro H hO hS hok hA hK
    have base_of : ∀ {b : Addr} {o : Obj}, s₁.heap.get? b = some o → H b = none → (hidT s₁.heap H).get? b = some o := fun e n => hidT_get e n
    have noA : ∀ {b : Addr} {o : Obj} {es : Array DictEntry} {ep : Nat}, s₁.heap.get? b = some o → o.data = .dict es ep → H b = none := fun {b o es ep} e d => by
      cases q : H b with
      | none => rfl
      | some u =>
        have e' : b = a := hA b (by rw [q]; simp)
        subst e'
        rw [ha] at e; cases e
        have d' : Data.seq vs.toArray _ = Data.dict es ep := d
        cases d'
    have nsK : ∀ {b : Addr} {m : Str → Option Value}, s₁.heap.Ns b m → (hidT s₁.heap H).Ns b m := fun {b m} ⟨o, es, ep, e, d, r⟩ => ⟨o, es, ep, base_of e (noA e d), d, r⟩
    have hKb : K.In (hidT s₁.heap H) := fun b o e => base_of (KX b o e) (by
      cases q : H b with
      | none => rfl
      | some u =>
        have e' : b = a := hA b (by rw [q]; simp)
        subst e'
        rw [hK (by rw [q]; simp)] at e; cases e)
    have hM : Mod K mg (hidT s₁.heap H) := ⟨hKb, nsK hns, ⟨mb, nsK hb, hbb⟩, let ⟨mc, h1, h2⟩ := hlim; ⟨mc, nsK h1, h2⟩⟩
    have e0 : Env0 P w K mg (hidT s₁.heap H) callerA [] s₁ H := ⟨rfl, hM, fun b o e => of_hidT e, Nat.le_of_eq (hidT_size _ _), trivial, fun b hb => absurd (show b ∈ ([] : List Addr) from hb) (by simp), hok, .of_eq hg⟩
    refine codeAny_mono ((F _ hKb (nsK hns)).run callerA [] s₁ H ⟨[.ref a], []⟩ [.ref a] [.ref a] _ _ hr e0 (hbind s₁ (.ref a)) (.cons rfl .nil) (hsp H hO hS)) fun r s' h => ?_
    cases r with
    | error e => exact (hCX H e s' h).elim
    | ok fl =>
      cases fl with
      | next => exact False.elim h
      | brk => exact False.elim h
      | cont => exact False.elim h
      | ret u =>
        obtain ⟨v, H', os, bare, un, hok', r', q⟩ := h
        have q' : v = .bl true := q
        subst q'
        obtain rfl : u = Value.bool true := r'
        refine ⟨rfl, OldK.of_keep fun b o e => ?_, os, bare⟩
        cases q : H b with
        | none => exact un.keep b o e q (by intro z; exact absurd (show b ∈ ([] : List Addr) from z) (by simp)) (by simp)
        | some u =>
          rcases hO b with z | ⟨ob, xs, z⟩
          · rw [q] at z; cases z
          · have z2 := un.frzs b ob _ z
            obtain ⟨e1, _⟩ := hok b _ z
            obtain ⟨e2, _⟩ := hok' b _ z2
            rw [e] at e1; cases e1
            exact e2
  cases hk : K.lookup a with
  | some o =>
    -- the script is one of the module's own objects
    have e := KX a o hk
    rw [ha] at e
    cases e
    refine core (fun _ => none) (fun _ => .inl rfl) (.inr ⟨_, vs.toArray, _, hk, rfl, rfl, rfl, by rw [List.size_toArray, lenV]; exact hl, by simpa using rv⟩) (fun b u z => by have z' : (none : Option HO) = some u := z; cases z') (fun b z => absurd rfl z) fun z => absurd rfl z
  | none =>
    refine core (fun b => if b = a then some (.frz { cls := .type "list", data := .seq vs.toArray } (.lst (ns.map V.int))) else none) (fun b => ?_) (.inl (.inr ⟨{ cls := .type "list", data := .seq vs.toArray }, if_pos rfl⟩)) (fun b u z => ?_) (fun b z => ?_) fun _ => hk
    · by_cases hb : b = a
      · exact .inr ⟨_, _, if_pos hb⟩
      · exact .inl (if_neg hb)
    · by_cases hb : b = a
      · have z' := (if_pos hb).symm.trans z
        cases z'
        subst hb
        exact ⟨ha, by rw [List.length_map]; exact hl, vs, _, rv, ha⟩
      · have z' := (if_neg hb).symm.trans z
        cases z'
    · by_cases hb : b = a
      · exact hb
      · exact absurd (if_neg hb) z
end L2

namespace L2
open PySem PySem.Spec PyProof.Rows

abbrev KOf {K : PySem.W.Frag} {h : Heap} (_ : K.In h) : PySem.W.Frag := K

/-- the goal that k_head leaves (case hc), from the law's promise. F gives the function object fd (K's own) once, then the promise over every base -/
theorem walk_of {l : PySem.W.OpenLaw} {n k : Nat} {q : Program} {loose : List Str} {XP : (Str → Option Value) → Heap → Prop} {YP : World → Heap → Prop} {d : DefRec} {K : Params → PySem.W.Frag} {CX : World → CXT} {sp : World → Sp} {x : Str}
    (hn : l.most = some n) (hn2 : n ≤ sizeLine) (hdf : d.params.defaults = []) (hr : Room k callerA)
    (hY : ∀ (w : World) (h : Heap), YP w h → (K w.params).In h)
    (F : ∀ (w : World) (mg : Str → Option Value) (fa : Addr) (h : Heap), (K w.params).In h → h.Ns mainGlobals mg → mg d.name = some (.ref fa) →
      ∃ fd : FuncData, (∀ (s : Shared) (u : Value), BindsTo s fd ⟨[u], []⟩ [(x, u)]) ∧
        ∀ base : Heap, (K w.params).In base → base.Ns mainGlobals mg → FnOk l.prog w (K w.params) mg base (CX w) k fa fd [x] (sp w))
    (hsp : ∀ (w : World) (H : Hp) (a : Addr) (ns : List Int), ns.length ≤ n → Only H → SqL (K w.params) H a (ns.map V.int) → sp w [.ref a] H (fun v _ => v = .bl true) fun _ _ _ => False)
    (hCX : ∀ (w : World) (H : Hp) (s : Shared) (e : Value) (s' : Shared), CX w [] H s (fun _ _ _ => False) e s' → False) :
    PySem.W.WalkO q loose XP YP l.row.toRowW d [] (fun f vs => PySem.call f vs) := by
  refine Att.attach_call hn hdf fun w s₀ s₁ mg mb fa o pm cd doc a vs ns G Y ho hd hcd hmg hobj hints hlen hg => ?_
  have KX := hY w _ Y
  obtain ⟨fd, hb, hF⟩ := F w mg fa _ KX G.T.g hmg
  exact law_call KX G.T.g G.T.b G.T.builtins G.T.nolimit hg hobj hints (Nat.le_trans hlen hn2) hr hF hb (fun H hO hS => hsp w H a ns hlen hO hS) fun H e s' => hCX w H s₁ e s'
/-- the same where the promise hangs on the written part alone: (sp := My.sp_law), no hole under a binder -/
theorem walk_ofK {l : PySem.W.OpenLaw} {n k : Nat} {q : Program} {loose : List Str} {XP : (Str → Option Value) → Heap → Prop} {YP : World → Heap → Prop} {d : DefRec} {K : Params → PySem.W.Frag} {CX : CXT} {sp : PySem.W.Frag → Sp} {x : Str}
    (hn : l.most = some n) (hn2 : n ≤ sizeLine) (hdf : d.params.defaults = []) (hr : Room k callerA)
    (hY : ∀ (w : World) (h : Heap), YP w h → (K w.params).In h)
    (F : ∀ (w : World) (mg : Str → Option Value) (fa : Addr) (h : Heap), (K w.params).In h → h.Ns mainGlobals mg → mg d.name = some (.ref fa) →
      ∃ fd : FuncData, (∀ (s : Shared) (u : Value), BindsTo s fd ⟨[u], []⟩ [(x, u)]) ∧
        ∀ base : Heap, (K w.params).In base → base.Ns mainGlobals mg → FnOk l.prog w (K w.params) mg base CX k fa fd [x] (sp (K w.params)))
    (hsp : ∀ (K : PySem.W.Frag) (H : Hp) (a : Addr) (ns : List Int), ns.length ≤ n → Only H → SqL K H a (ns.map V.int) → sp K [.ref a] H (fun v _ => v = .bl true) fun _ _ _ => False)
    (hCX : ∀ (H : Hp) (s : Shared) (e : Value) (s' : Shared), CX [] H s (fun _ _ _ => False) e s' → False) :
    PySem.W.WalkO q loose XP YP l.row.toRowW d [] (fun f vs => PySem.call f vs) :=
  walk_of (K := K) (CX := fun _ => CX) (sp := fun w => sp (K w.params)) hn hn2 hdf hr hY F (fun w H a ns h1 h2 h3 => hsp (K w.params) H a ns h1 h2 h3) fun _ H s e s' => hCX H s e s'
end L2

/- THE LAST THEOREM (shape; LID, My.* are yours):
   My.Adr: a structure of the addresses that your layer names (classes, functions); My.Txt K t: a structure (Prop) of the equations over K;
   My.txt_mk : {K} {implicit addresses ..} (e1 : nsIn K mainGlobals "law" = some (some (.ref f))) (e2 : K.lookup f = some ⟨oc, od, .func (fnOf "law" "law" params body scope dV kV doc pm an cdv ct), sl⟩) (e3 : codeIn K cdv "law" = true) .. : ∃ t, My.Txt K t

set_option maxRecDepth 100000 in
set_option maxHeartbeats 0 in
theorem PySem.Challenge.cw_LID_holds : PySem.Challenge.rw_LID.Holds := by
  w_on; o_law; k_head; (case hw => w_witness2)
  k_fill
  refine L2.walk_of (l := PySem.Challenge.rw_LID) (n := 63) (k := 40) (x := "script") (CX := fun w => ..) (sp := fun _ => My.sp_law) rfl (by decide) rfl ⟨rfl, by decide, by decide⟩ (fun w h Y => PySem.W.kIn_of Y) ?F ?S ?C
  case F =>
    intro w mg fa h KX G hmg
    have T : ∃ t, My.Txt (L2.KOf KX) t := by
      dsimp only [L2.KOf]                          -- K must stand as «<heap const> w.params» for k_is
      refine' My.txt_mk ?e1 ?e2 ?e3 ..
      (case e1 => PySem.W.k_is)                    -- in the order: a name -> its address -> its object -> its parts
      (case e2 => PySem.W.k_is)
      ..
    obtain ⟨t, T⟩ := T
    have e0 := hmg.symm.trans (PySem.W.mg_of KX G T.law)
    cases e0                                       -- fa is the law's own address
    exact ⟨_, fun s u => .of_eq rfl, fun base kb nb => My.law_fn T kb nb⟩     -- if «.of_eq rfl» comes too early: refine' ⟨_, ?b, fun base kb nb => My.law_fn T kb nb⟩; exact fun s u => .of_eq rfl
  case S => exact fun w H a ns hl hO hS => ..
  case C => exact ..
(the tactic k_is has no namespace: write k_is) -/

/-! SHORT WORDS over the layer: a def of the text, its body, what a loop and a test want. -/
namespace L2
open PySem PySem.Spec PyProof.Rows

/-! ### the text by places -/
/-- the j-th statement of a class's body -/
def inClass (s : Stmt) (j : Nat) : Stmt := match s with
  | .ClassDef _ _ _ body _ _ _ _ _ _ _ => body.getD j (.Pass ⟨0, 0, 0, 0⟩)
  | _ => .Pass ⟨0, 0, 0, 0⟩
def defArgs (s : Stmt) : Arguments := match s with
  | .FunctionDef _ a _ _ _ _ _ _ _ _ => a
  | _ => { posonlyargs := [], args := [], vararg := none, kwonlyargs := [], kw_defaults := [], kwarg := none, defaults := [] }
def defBody (s : Stmt) : List Stmt := match s with
  | .FunctionDef _ _ b _ _ _ _ _ _ _ => b
  | _ => []
def defScope (s : Stmt) : Scope := match s with
  | .FunctionDef _ _ _ _ _ _ sc _ _ _ => sc
  | _ => { kind := .function, names := [], isGenerator := false, isCoroutine := false }

/-! ### no exception leaves a def -/
abbrev CX0 : CXT := fun _ _ _ _ _ _ => False
abbrev E0 : XK := fun _ _ _ => False
theorem pass0 {X : Cx} : Passes CX0 X E0 := fun _ _ _ _ _ _ _ h => h.elim

/-! ### a def (or method) of the text as it stands behind the top -/
structure Fun (K : PySem.W.Frag) (x qual : Str) (st : Stmt) (f : Addr) (fd : FuncData) : Prop where
  ex : ∃ (oc : Value) (od : Option Addr) (kV doc pm : Value) (an : Option Addr) (cdv ct : Value) (osl : Array (Option Value)),
    fd = PySem.W.fnOf x qual (defArgs st) (defBody st) (defScope st) .none kV doc pm an cdv ct ∧ K.lookup f = some ⟨oc, od, .func fd, osl⟩ ∧ PySem.W.codeIn K cdv qual = true
  kp : PySem.W.keepIn K (.ref f) = true
section
variable {P : Program} {w : World} {K : PySem.W.Frag} {mg : Str → Option Value} {base : Heap}
/-- THE RULE for a def: its body as a term of rules, and the reading of that term -/
theorem Fun.ok {x qual : Str} {st : Stmt} {f : Addr} {fd : FuncData} {N ps : List Str} {k : Nat} {sp : Sp} (F : Fun K x qual st f fd) (S : FnScope N ps (defScope st)) (len : ∀ vs H Q E, sp vs H Q E → vs.length = ps.length)
    (hbody : ∀ (cdv : Value) (A : Around) (outer : List Env) (s : Shared) (H : Hp) (vs : List V) (Q : VK) (E : XK), Room k (A.deeper (envOfC qual (defScope st) s.heap.objs.size f cdv)) → sp vs H Q E →
      ∃ t, PSs (cxOf CX0 P w K mg base N qual (defScope st) f cdv A outer s H E).nox (defBody st) t ∧ t { nx := fun _ H' => Q .non H', rt := Q } (start N vs) H) : FnOk P w K mg base CX0 (k + 1) f fd ps sp := by
  obtain ⟨oc, od, kV, doc, pm, an, cdv, ct, osl, rfl, lk, hcd⟩ := F.ex
  refine fn_of lk hcd S len fun A outer s H vs Q E hr hsp => ?_
  obtain ⟨t, h, q⟩ := hbody cdv A outer s H vs Q E hr hsp
  exact ⟨t, h.nox, q⟩
/-- how its arguments bind (no defaults): h is «fun _ _ _ _ _ _ us hl => match us, hl with | [_, _], _ => rfl», one _ a parameter -/
theorem Fun.binds {x qual : Str} {st : Stmt} {f : Addr} {fd : FuncData} {ps : List Str} (F : Fun K x qual st f fd)
    (h : ∀ (kV doc pm : Value) (an : Option Addr) (cdv ct : Value) (us : List Value), us.length = ps.length → bindArgs (PySem.W.fnOf x qual (defArgs st) (defBody st) (defScope st) .none kV doc pm an cdv ct) ⟨us, []⟩ = pure (ps.zip us)) : Binds K fd ps [] := by
  obtain ⟨oc, od, kV, doc, pm, an, cdv, ct, osl, rfl, lk, hcd⟩ := F.ex
  exact .all (h kV doc pm an cdv ct)
theorem fun_mk {x qual : Str} {st : Stmt} {f : Addr} {oc : Value} {od an : Option Addr} {osl : Array (Option Value)} {kV doc pm cdv ct : Value} (l : K.lookup f = some ⟨oc, od, .func (PySem.W.fnOf x qual (defArgs st) (defBody st) (defScope st) .none kV doc pm an cdv ct), osl⟩)
    (c : PySem.W.codeIn K cdv qual = true) (k : PySem.W.keepIn K (.ref f) = true) : Fun K x qual st f (PySem.W.fnOf x qual (defArgs st) (defBody st) (defScope st) .none kV doc pm an cdv ct) := ⟨⟨oc, od, kV, doc, pm, an, cdv, ct, osl, rfl, l, c⟩, k⟩
end
theorem hu_of {A : Around} {k : Nat} (hr : Room k A) : A.units + 1 < cLine := Nat.lt_of_le_of_lt (Nat.add_le_add_left (by decide : 1 ≤ 64) _) hr.units
theorem small1000 {n : Nat} (h : n ≤ 1000) : n < sizeLine := Nat.lt_of_le_of_lt h (by decide)

/-! ### expressions in short: the name that stands in the i-th slot -/
section
variable {X : Cx}
theorem pv (i : Nat) {x : Str} {pos : Pos} (hN : X.N[i]? = some x := by rfl) (hv : Vis X.env.scope x := by first | exact Or.inl rfl | exact Or.inr (Or.inl rfl) | exact Or.inr (Or.inr rfl)) (hd : (x == ("__debug__" : Str)) = false := by decide)
    (hcd : (x == ("__classdict__" : Str)) = false := by decide) : PE X (.Name x pos) (tVar i) := pe_var hN hv hd hcd
end

/-! ### tests -/
theorem iteF {A B : Prop} (h : B) : if false = true then A else B := by
  rw [if_neg Bool.false_ne_true]
  exact h
theorem iteT {A B : Prop} (h : A) : if true = true then A else B := by
  rw [if_pos rfl]
  exact h
theorem ite2 {c A B : Prop} [Decidable c] (h1 : c → A) (h2 : ¬ c → B) : if c then A else B := by
  by_cases h : c
  · rw [if_pos h]
    exact h1 h
  · rw [if_neg h]
    exact h2 h
theorem iteNS {c A B : Prop} [Decidable c] (hc : c) (h : B) : if (!decide c) = true then A else B := by
  rw [decide_eq_true hc]
  exact iteF h

/-! ### heaps -/
/-- all that was tracked is as it was -/
def Same (H H' : Hp) : Prop := ∀ b o, H b = some o → H' b = some o
theorem Same.refl (H : Hp) : Same H H := fun _ _ h => h
theorem Same.trans {H H1 H2 : Hp} (a : Same H H1) (b : Same H1 H2) : Same H H2 := fun c o h => b c o (a c o h)
theorem Same.free {H H' : Hp} (e : Same H H') {l : Addr} (h : H' l = Option.none) : H l = Option.none := by
  cases q : H l with
  | none => rfl
  | some o =>
    rw [e l o q] at h
    cases h
theorem Same.seq {K : PySem.W.Frag} {H H' : Hp} {a : Addr} {xs : List V} (e : Same H H') (h : SqL K H a xs) : SqL K H' a xs := by
  rcases h with (h | ⟨o, h⟩) | h
  · exact .inl (.inl (e _ _ h))
  · exact .inl (.inr ⟨o, e _ _ h⟩)
  · exact .inr h

end L2
set_option maxHeartbeats 4000000
/-! Texts and small built-ins over the layer. -/
namespace L2
open PySem PySem.Spec PyProof.Rows
section
variable {X : Cx}

/-- z[lo:hi] of a text -/
def rSlS : V → Option Int → Option Int → Hp → VK → Prop := fun x lo hi H Q => ∃ z, x = .str z ∧ z.length ≤ sizeLine ∧ Q (.str (Txt.slice z lo hi)) H
theorem sl_str : SlR X rSlS := by
  intro pins s σ H x v vl vu lo hi sl Q I rx hs pl pu h
  obtain ⟨z, rfl, hz, q⟩ := h
  obtain ⟨t, rfl⟩ := rx
  refine ⟨"str", _, F.slot_str_getitem.lookup, typeIs_str _ _ _, ?_⟩
  have fin : ∀ t' k, EP X pins σ Q (.str (Txt.slice z lo hi) t') { s with toks := k } := fun t' k => ⟨.str _, H, I.tok _, ⟨_, rfl⟩, q⟩
  cases pl with
  | none =>
    cases pu with
    | none => exact wpAny_getItem_str_slice (l := none) (u := none) (st := none) hs rfl (post_val_or_str ⟨Nat.le_trans (Txt.slice_le z _ _) hz, fin⟩)
    | int j uj => exact wpAny_getItem_str_slice (l := none) (u := some (j, uj)) (st := none) hs rfl (post_val_or_str ⟨Nat.le_trans (Txt.slice_le z _ _) hz, fin⟩)
  | int i ui =>
    cases pu with
    | none => exact wpAny_getItem_str_slice (l := some (i, ui)) (u := none) (st := none) hs rfl (post_val_or_str ⟨Nat.le_trans (Txt.slice_le z _ _) hz, fin⟩)
    | int j uj => exact wpAny_getItem_str_slice (l := some (i, ui)) (u := some (j, uj)) (st := none) hs rfl (post_val_or_str ⟨Nat.le_trans (Txt.slice_le z _ _) hz, fin⟩)

def rStart : V → List V → Hp → VK → Prop := fun x xs H Q => ∃ a b, x = .str a ∧ xs = [.str b] ∧ Q (.bl (Txt.startswith a b)) H
theorem mt_startswith : MtR X "str.startswith" rStart := by
  intro pins s σ H x xs v us Q I rx rs h
  obtain ⟨a, b, rfl, rfl, q⟩ := h
  obtain ⟨t, rfl⟩ := rx
  obtain ⟨u, rfl, t', rfl⟩ := vals1 rs
  exact SC.startswith ⟨.bl _, H, I, rfl, q⟩
def rZfill : V → List V → Hp → VK → Prop := fun x xs H Q => ∃ a i, x = .str a ∧ xs = [.int i] ∧ PadOk i = true ∧ Q (.str (Txt.zfill a i)) H
theorem mt_zfill : MtR X "str.zfill" rZfill := by
  intro pins s σ H x xs v us Q I rx rs h
  obtain ⟨a, i, rfl, rfl, hp, q⟩ := h
  obtain ⟨t, rfl⟩ := rx
  obtain ⟨u, rfl, t', rfl⟩ := vals1 rs
  exact SC.zfill hp fun t' k => ⟨.str _, H, I.tok _, ⟨_, rfl⟩, q⟩
def rIndex : V → List V → Hp → VK → Prop := fun x xs H Q => ∃ a b i rest, x = .str a ∧ xs = [.str b] ∧ Builtin.Str.occurrences a b 0 a.length 1 = i :: rest ∧ Q (.int (i : Nat)) H
theorem mt_index : MtR X "str.index" rIndex := by
  intro pins s σ H x xs v us Q I rx rs h
  obtain ⟨a, b, i, rest, rfl, rfl, ho, q⟩ := h
  obtain ⟨t, rfl⟩ := rx
  obtain ⟨u, rfl, t', rfl⟩ := vals1 rs
  exact SC.index ho ⟨.int _, H, I.tok _, ⟨_, rfl⟩, q⟩
theorem strs_of : ∀ {ys : List Str} {us : List Value}, Vals (ys.map V.str) us → ∃ l : List (Str × Tok), us = strValues l ∧ l.map (·.1) = ys
  | [], _, r => by
    rw [List.map_nil] at r
    cases r
    exact ⟨[], rfl, rfl⟩
  | y :: ys, us, r => by
    rw [List.map_cons] at r
    cases r with
    | cons r1 r2 =>
      obtain ⟨t, rfl⟩ := r1
      obtain ⟨l, rfl, rfl⟩ := strs_of r2
      exact ⟨(y, t) :: l, rfl, rfl⟩
def rJoin (K : PySem.W.Frag) : V → List V → Hp → VK → Prop := fun x xs H Q => ∃ a p ys, x = .str a ∧ xs = [.ref p] ∧ SqL K H p (ys.map V.str) ∧ JoinOk a ys = true ∧ Q (.str (Txt.join a ys)) H
theorem mt_join : MtR X "str.join" (rJoin X.K) := by
  intro pins s σ H x xs v us Q I rx rs h
  obtain ⟨a, p, ys, rfl, rfl, hl, hok, q⟩ := h
  obtain ⟨t, rfl⟩ := rx
  obtain ⟨u, rfl, ru⟩ := vals1 rs
  cases ru
  obtain ⟨its, rv, pl, hz⟩ := I.list hl
  obtain ⟨l, rfl, hl2⟩ := strs_of rv
  exact SC.join pl.isList hl2 hok fun t' k => ⟨.str _, H, I.tok _, ⟨_, rfl⟩, q⟩

/-- int(text) -/
theorem call_int_str : CallR X (.type "int") (fun xs H Q => ∃ x n, xs = [.str x] ∧ PySem.intText? x = some n ∧ x.length ≤ 640 ∧ Q (.int n) H) := by
  intro pins s σ H xs us Q I r h
  obtain ⟨x, n, rfl, hn, hl, q⟩ := h
  obtain ⟨u, rfl, t, rfl⟩ := vals1 r
  exact PySem.W.KIN.call_text hn hl ⟨.int n, H, I.tok _, ⟨_, rfl⟩, q⟩

/-- text * n -/
def rMulS : R2 := fun x y H Q => ∃ a n, x = .str a ∧ y = .int n ∧ MulOk a n ∧ Q (.str (Txt.mul a n)) H
theorem op_mul_str : OpR X (binaryOp .Mult) rMulS := by
  intro pins s σ H x y v u Q I rx ry h
  obtain ⟨a, n, rfl, rfl, hok, q⟩ := h
  obtain ⟨t, rfl⟩ := rx
  obtain ⟨t', rfl⟩ := ry
  exact SB.mul hok fun t' k => ⟨.str _, H, I.tok _, ⟨_, rfl⟩, q⟩

/-! ### walking a text, a range with a step -/
/-- n things, the i-th is f i -/
def Itv (n : Nat) (f : Nat → V) : It := ⟨fun i _ => i < n, fun i H x H' => H' = H ∧ x = f i, fun i _ => n ≤ i⟩
theorem turn_walks {P : Program} {w : World} {K : PySem.W.Frag} {tg : Expr} {it : Addr} {n : Nat} {f : Nat → V} {Pv : Nat → Value → Prop} {St : Nat → Heap → Prop}
    (W : ∀ A : Around, A.handled = none → Walks P w A it [it] [it] n Pv St) (hf : ∀ i v, i < n → Pv i v → RelV (f i) v)
    (hob : ∀ i h, St i h → ∃ o nm vs, h.get? it = some o ∧ o.cls = .type nm ∧ o.data = .fields vs ∧ ["enumerate", "zip", "dict_itemiterator", "dict_reverseitemiterator", "odict_iterator", "itertools.zip_longest", "itertools.pairwise"].contains nm = false)
    (hself : ∀ (A : Around) (i : Nat) (s : Shared) (Q : Value → Shared → Prop) (E : Value → Shared → Prop), St i s.heap → Q (.ref it) s → wpAny (model P w) A (pyIter (.ref it)) Q E s) :
    Turn P w K tg (Itv n f) [it] it (fun i h => St i h ∧ i ≤ n) where
  mem := by simp
  obj := fun i h st b hb => by
    have e : b = it := by simpa using hb
    subst e
    obtain ⟨o, nm, vs, e, _, d, _⟩ := hob i h st.1
    exact ⟨o, e, fun v z => by rw [d] at z; cases z⟩
  keep := fun i h h' st k => ⟨(W callerA rfl).frame i h h' st.1 k, st.2⟩
  item := by
    intro X hP hw hK hc i pins s σ H E I hfp st hg
    subst hP hw hK
    obtain ⟨f0, f1, f2, f3, f4, f5⟩ := hfp it (by simp)
    refine (W X.A (I.ok.hd hc)).item i s _ _ hg st.1 fun v h' tk hv st' kk => ?_
    have I1 : Inv X pins σ H { s with heap := h', toks := tk } := I.turned (fun b o hb e => kk b o (by simpa using hb) e) f0 f1 f3 f4 f5
    obtain ⟨o, nm, vs, e, c, d, ne⟩ := hob _ _ st'
    exact ⟨_, rfl, go_of (s := { s with heap := h', toks := tk }) e c d ne ⟨f i, H, I1, hf i v hg hv, ⟨rfl, rfl⟩, ⟨st', hg⟩, fun b hb => (hfp b hb).1⟩⟩
  done := by
    intro X hP hw hK hc i pins s σ H E I hfp st hg
    subst hP hw hK
    obtain ⟨f0, f1, f2, f3, f4, f5⟩ := hfp it (by simp)
    have e : i = n := Nat.le_antisymm st.2 hg
    subst e
    exact (W X.A (I.ok.hd hc)).done s _ _ st.1 fun h' tk kk => ⟨rfl, I.turned (fun b o hb e => kk b o (by simpa using hb) e) f0 f1 f3 f4 f5⟩
  self := fun A i s Q E st h => hself A i s Q E st.1 h

/-- the i-th sign of a text, as a text -/
def signV (z : Str) (i : Nat) : V := .str ⟨#[z.cps.getD i 0]⟩
theorem sign_rel {z : Str} {i : Nat} {v : Value} (h : SignAt z i v) : RelV (signV z i) v := by
  obtain ⟨c, u, hc, rfl⟩ := h
  have e : z.cps.getD i 0 = c := by
    rw [Array.getD_eq_getD_getElem?, hc]
    rfl
  exact ⟨u, by show Value.str ⟨#[c]⟩ u = Value.str ⟨#[z.cps.getD i 0]⟩ u; rw [e]⟩
def iStr (tl : TE) : TI := fun σ H R => tl σ H fun x H1 => ∃ z, x = .str z ∧ R (Itv z.cps.size (signV z)) H1
theorem pi_str {tg l : Expr} {tl : TE} (hl : PE X l tl) : PI X tg l (iStr tl) := by
  intro pins s σ H R I h
  refine thn (hl pins s σ H _ I h) fun v s1 ⟨x, H1, I1, r1, q1⟩ => ?_
  obtain ⟨z, rfl, q⟩ := q1
  obtain ⟨t, rfl⟩ := r1
  have fp : ∀ (o : Obj) (b : Addr), b ∈ [s1.heap.objs.size] → FpOk X pins H1 b := fun o b hb => by
    have e : b = s1.heap.objs.size := by simpa using hb
    subst e
    exact I1.fpOk (Nat.le_refl _) (I1.hok.fresh (Nat.le_refl _))
  cases ha : z.cps.all (· < 128)
  · refine wpAny_pyIter_wide ha ?_
    refine ⟨s1.heap.objs.size, [s1.heap.objs.size], _, _, H1, rfl, I1.kept (t' := s1.toks) fun b o e => Heap.get?_push_of_some _ e,
      turn_walks (St := fun i h => h.IsStrIter s1.heap.objs.size "str_iterator" z t i) (fun A hA => Walks.strWide hA _ z t) (fun i v _ hv => sign_rel hv) (fun i h st => ?_) (fun A i s Q E st h => wpAny_pyIter_striter_wide st h),
      ⟨⟨_, Heap.get?_push_size _ rfl, rfl, rfl⟩, Nat.zero_le _⟩, fp { cls := .none, data := .fields #[] }, q⟩
    obtain ⟨o, e, c, d⟩ := st
    exact ⟨o, _, _, e, c, d, by decide⟩
  · refine wpAny_pyIter_ascii ha ?_
    refine ⟨s1.heap.objs.size, [s1.heap.objs.size], _, _, H1, rfl, I1.kept (t' := s1.toks) fun b o e => Heap.get?_push_of_some _ e,
      turn_walks (St := fun i h => h.IsStrIter s1.heap.objs.size "str_ascii_iterator" z t i) (fun A hA => Walks.strAscii hA _ z t) (fun i v _ hv => sign_rel hv) (fun i h st => ?_) (fun A i s Q E st h => wpAny_pyIter_striter_ascii st h),
      ⟨⟨_, Heap.get?_push_size _ rfl, rfl, rfl⟩, Nat.zero_le _⟩, fp { cls := .none, data := .fields #[] }, q⟩
    obtain ⟨o, e, c, d⟩ := st
    exact ⟨o, _, _, e, c, d, by decide⟩

theorem small_step {a b c : Int} (ha : -(2 ^ 61) ≤ a) (ha' : a < 2 ^ 61) (hb : -(2 ^ 61) ≤ b) (hb' : b < 2 ^ 61) (hc : 0 < c) (hc' : c < 2 ^ 61) : Builtin.Range.small a b c = true := by
  have hr : Builtin.Range.rangeSize a b c = ((Builtin.Range.rangeSize a b c).toNat : Int) := rangeSize_toNat a b c
  have hl := rangeSize_toNat_le a b c
  unfold Builtin.Range.small
  simp only [Builtin.Range.rangeFitsLong, Bool.and_eq_true, Bool.or_eq_true, decide_eq_true_eq, beq_iff_eq, show c > 0 from hc, if_true]
  omega
/-- lo, lo + c, .. below hi -/
def iRng3 (ta : TA) : TI := fun σ H R => ta σ H fun vs H1 => ∃ i j c : Int, vs = [.int i, .int j, .int c] ∧ (-(2 ^ 61) ≤ i ∧ i < 2 ^ 61 ∧ -(2 ^ 61) ≤ j ∧ j < 2 ^ 61 ∧ 0 < c ∧ c < 1073741824) ∧
  R (Itv (Builtin.Range.rangeSize i j c).toNat (fun k => .int (i + (k : Nat) * c))) H1
theorem pi_range3 {tg a b c : Expr} {ta : TA} {p pos : Pos} (hg : Gl X "range") (hm : X.mg "range" = none) (ha : PA X [a, b, c] ta)
    (hs : starEach [a, b, c] X.env = (false, eval a X.env) :: starEach [b, c] X.env := by rfl) (hpl : (backTo pos (starEach [b, c] X.env)).any (·.1) = false := by rfl) :
    PI X tg (.Call (.Name "range" p) [a, b, c] [] pos) (iRng3 ta) := by
  intro pins s σ H R I h
  refine Call_ (ld_blt I hg hm boot_range (PyProof.Rows.callWith_type1 (thn (ha pos pins s σ H _ I h) fun us s1 ⟨vs, H1, I1, r1, q1⟩ => ?_) hs hpl))
  obtain ⟨i, j, c, rfl, ⟨q1, q2, q3, q4, q5, q6⟩, q⟩ := q1
  cases r1 with
  | cons r rr =>
    cases rr with
    | cons r' rr =>
      cases rr with
      | cons r'' rr =>
        cases rr
        obtain ⟨t, rfl⟩ := r
        obtain ⟨u, rfl⟩ := r'
        obtain ⟨v, rfl⟩ := r''
        refine call_range_3 (by omega) ?_ (Or.inl (PyProof.noPylong_small (by omega)))
        refine wpAny_pyIter_range (IsRange.new ..) (small_step q1 q2 q3 q4 q5 (by omega)) ?_
        have I2 : Inv X pins σ H1 { s1 with heap := s1.heap.push { cls := .type "range", data := .fields #[.int i t, .int j u, .int c v] }, toks := s1.toks } := I1.kept fun b o e => Heap.get?_push_of_some _ e
        refine ⟨(s1.heap.push { cls := .type "range", data := .fields #[.int i t, .int j u, .int c v] }).objs.size, [(s1.heap.push { cls := .type "range", data := .fields #[.int i t, .int j u, .int c v] }).objs.size], _, _, H1, rfl,
          I2.kept (t' := s1.toks) fun b o e => Heap.get?_push_of_some _ e,
          turn_walks (f := fun k => .int (i + (k : Nat) * c)) (St := fun k h => IsRangeIter h (s1.heap.push { cls := .type "range", data := .fields #[.int i t, .int j u, .int c v] }).objs.size (i + (k : Nat) * c) (((Builtin.Range.rangeSize i j c).toNat : Int) - (k : Nat)) c)
            (fun A hA => Walks.range hA _ i c _) (fun k v _ hv => hv) (fun k h st => ⟨_, _, _, st, rfl, rfl, by decide⟩) (fun A k s Q E st h => wpAny_pyIter_rangeiter st h), ⟨?_, Nat.zero_le _⟩, fun b hb => ?_, q⟩
        · have e1 : i + ((0 : Nat) : Int) * c = i := by simp
          have e2 : (((Builtin.Range.rangeSize i j c).toNat : Nat) : Int) - ((0 : Nat) : Int) = Builtin.Range.rangeSize i j c := by rw [← rangeSize_toNat]; simp
          show IsRangeIter _ _ (i + ((0 : Nat) : Int) * c) ((((Builtin.Range.rangeSize i j c).toNat : Nat) : Int) - ((0 : Nat) : Int)) c
          rw [e1, e2]
          exact Heap.get?_push_size _ rfl
        · have e : b = (s1.heap.push { cls := .type "range", data := .fields #[.int i t, .int j u, .int c v] }).objs.size := by simpa using hb
          subst e
          exact I2.fpOk (Nat.le_refl _) (I2.hok.fresh (Nat.le_refl _))
theorem for_vals {n : Nat} {f : Nat → V} {g : TG} {tb : TS} {D : Ends} {σ : St} {H : Hp} (Pv : Nat → St → Hp → Prop) (h0 : Pv 0 σ H)
    (hs : ∀ i σ H, i < n → Pv i σ H → g (f i) σ H fun σ2 H2 => tb { D with nx := Pv (i + 1), ct := Pv (i + 1), bk := D.nx } σ2 H2) (hd : ∀ σ H, Pv n σ H → D.nx σ H) :
    ∃ W : Nat → Nat → St → Hp → Prop, (∃ m, W 0 m σ H) ∧ ∀ i m σ H, W i m σ H →
      ((Itv n f).stop i H ∧ D.nx σ H) ∨ ((Itv n f).go i H ∧ ∃ N : St → Hp → Prop, (∀ σ' H', N σ' H' → ∃ m', m' < m ∧ W (i + 1) m' σ' H') ∧ ∀ x H', (Itv n f).yld i H x H' → g x σ H' fun σ2 H2 => tb { D with nx := N, ct := N, bk := D.nx } σ2 H2) := by
  refine ⟨fun i m σ H => m = n - i ∧ i ≤ n ∧ Pv i σ H, ⟨n, by simp, Nat.zero_le _, h0⟩, ?_⟩
  rintro i m σ H ⟨rfl, hi, p⟩
  by_cases hlt : i < n
  · refine .inr ⟨hlt, Pv (i + 1), fun σ' H' p' => ⟨n - (i + 1), by omega, rfl, hlt, p'⟩, fun x H' y => ?_⟩
    obtain ⟨e, y⟩ := y
    subst e y
    exact hs i σ _ hlt p
  · have e : i = n := by omega
    subst e
    exact .inl ⟨Nat.le_refl _, hd σ H p⟩

/-! ### all(list of bools), list.count of a bool, isinstance -/
theorem call_all_bools (hc : X.calm = true) : CallR X (.builtin "all") (fun xs H Q => ∃ (p : Addr) (bs : List Bool), xs = [.ref p] ∧ SqL X.K H p (bs.map V.bl) ∧ Q (.bl (bs.all id)) H) := by
  intro pins s σ H xs us Q I r h
  obtain ⟨p, bs, rfl, hl, q⟩ := h
  obtain ⟨u, rfl, ru⟩ := vals1 r
  cases ru
  obtain ⟨its, rv, pl, hz⟩ := I.list hl
  have hlen : its.length = bs.length := by rw [← rv.length, List.length_map]
  have get : ∀ (i : Nat) v, its.toArray[i]? = some v → v = .bool (bs.getD i true) := fun i v hv => by
    have hv' : its[i]? = some v := by simpa using hv
    have hi : i < bs.length := by rw [← hlen]; exact (List.getElem?_eq_some_iff.mp hv').1
    have hb : (bs.map V.bl)[i]? = some (.bl bs[i]) := by rw [List.getElem?_map, List.getElem?_eq_getElem hi]; rfl
    obtain ⟨u, e, ru⟩ := rv.get hb
    rw [e] at hv'
    cases hv'
    have e2 : bs.getD i true = bs[i] := by rw [List.getD_eq_getElem?_getD, List.getElem?_eq_getElem hi]; rfl
    rw [e2]
    exact ru
  refine call_all_walk (wpAny_pyIter_list pl.isList ?_)
  have hne : p ≠ s.heap.objs.size := fun z => by
    obtain ⟨o, ho, _⟩ := pl.isList
    exact absurd (Heap.lt_size ho) (by rw [z]; exact Nat.lt_irrefl _)
  refine ⟨s.heap.objs.size, [s.heap.objs.size, p], [s.heap.objs.size], its.toArray.size, _, _, fun i => bs.getD i true, rfl, Walks.list (A := X.A.in1) (I.ok.hd hc) _ p hne its.toArray, ⟨⟨_, Heap.get?_push_size _ rfl, rfl, rfl⟩, pl.isList.at fun o e => Heap.get?_push_of_some _ e⟩, ?_, fun h' tk kk => ?_⟩
  · intro i v s' Q' E' hv hq
    rw [get i v hv]
    exact wpAny_pure hq
  · have I1 : Inv X pins σ H { s with heap := h', toks := tk } := I.kept fun b o e => kk b o (fun z => by
      have z' : b = s.heap.objs.size := by simpa using z
      rw [z'] at e
      exact absurd (Heap.lt_size e) (Nat.lt_irrefl _)) (Heap.get?_push_of_some _ e)
    refine ⟨.bl ((List.range its.toArray.size).all fun i => bs.getD i true), H, I1, rfl, ?_⟩
    have e : ((List.range its.toArray.size).all fun i => bs.getD i true) = bs.all id := by
      rw [List.size_toArray, hlen, Bool.eq_iff_iff, List.all_eq_true, List.all_eq_true]
      constructor
      · intro hh b hb
        obtain ⟨i, hi, e⟩ := List.mem_iff_getElem.mp hb
        have := hh i (List.mem_range.mpr hi)
        rw [List.getD_eq_getElem?_getD, List.getElem?_eq_getElem hi] at this
        rw [← e]
        exact this
      · intro hh i hi
        have hi' := List.mem_range.mp hi
        rw [List.getD_eq_getElem?_getD, List.getElem?_eq_getElem hi']
        exact hh _ (List.getElem_mem hi')
    rw [e]
    exact q
def rCountB (K : PySem.W.Frag) : V → List V → Hp → VK → Prop := fun x xs H Q => ∃ (p : Addr) (bs : List Bool) (k : Bool), x = .ref p ∧ xs = [.bl k] ∧ SqL K H p (bs.map V.bl) ∧ Q (.int ((bs.countP (· == k) : Nat) : Int)) H
theorem mt_countB : MtR X "list.count" (rCountB X.K) := by
  intro pins s σ H x xs v us Q I rx rs h
  obtain ⟨p, bs, k, rfl, rfl, hl, q⟩ := h
  cases rx
  obtain ⟨u, rfl, ru⟩ := vals1 rs
  cases ru
  obtain ⟨its, rv, pl, hz⟩ := I.list hl
  obtain ⟨⟨cls, dd, data, sl⟩, ho, hc, n, hd⟩ := pl.isList
  simp only at hc hd
  subst hc hd
  have key : ∀ {bs : List Bool} {its : List Value}, Vals (bs.map V.bl) its → (∀ y ∈ its, ∀ (A : Around) (s : Shared), SeqAt.EqAt A s y (.bool k) (isBoolOf k y)) ∧ its.countP (isBoolOf k) = bs.countP (· == k) := by
    intro bs
    induction bs with
    | nil =>
      intro its r
      rw [List.map_nil] at r
      cases r
      exact ⟨fun y hy => absurd hy (by simp), rfl⟩
    | cons b bs ih =>
      intro its r
      rw [List.map_cons] at r
      cases r with
      | cons r1 r2 =>
        cases r1
        obtain ⟨h1, h2⟩ := ih r2
        refine ⟨fun y hy A s => ?_, ?_⟩
        · rcases List.mem_cons.mp hy with e | hy
          · rw [e]
            exact SeqAt.EqAt.bool_bool b k
          · exact h1 y hy A s
        · rw [List.countP_cons, List.countP_cons, h2]
          rfl
  obtain ⟨k1, k2⟩ := key rv
  refine call_meets PySem.F.slot_list_count ⟨_, ho, rfl⟩ PySem.F.entry_list_count (PySem.F.args_list_count_2 _ _) (SeqAt.list_countAt p its.toArray n dd sl (.bool k) (isBoolOf k)) ⟨ho, fun y hy => k1 y (by simpa using hy) _ _, ?_⟩
  rw [show its.toArray.toList = its from rfl, k2]
  exact ⟨.int _, H, I.tok _, ⟨_, rfl⟩, q⟩
/-- isinstance(e, T), T a built-in type that the text's globals leave alone -/
def tIsi (K : PySem.W.Frag) (c : Value) (te : TE) : TE := fun σ H Q => te σ H fun x H1 => ∃ t b, TyOf K H1 x t ∧ PySem.W.kitOne K t c = some b ∧ Q (.bl b) H1
end
end L2
/-! A list comprehension over the layer. -/
namespace L2
open PySem PySem.Spec PyProof.Rows

/-- the context of a comprehension's block; nothing is raised in it -/
def compCx (X : Cx) (N' : List Str) (scope : Scope) (cl : List (Str × Addr)) (C : Addr) (fp : List Addr) (s2 : Shared) (H2 : Hp) : Cx :=
  { X with N := N', s₀ := s2, H₀ := H2, env := compEnvC scope cl C X.env, outer := X.stack, stack := X.stack, ex := fp, fn := fun _ => false, pn := [], xe := fun _ _ => False }

/-- x: the block's own name; the names behind it in N' are taken from around, from the slots js -/
structure CompOk (X : Cx) (N' : List Str) (js : List Nat) (x : Str) (scope : Scope) (cl : List (Str × Addr)) : Prop where
  clos : closureFor scope X.env = pure cl
  kind : scope.kind = .function
  cell : ∀ y ∈ scope.names, y.2 ≠ .cell
  names : ∀ y ∈ scope.names, y.2 = .local → scope.names.lookup y.1 = some .local
  xl : scope.names.lookup x = some .local
  sub : ∀ y c, cl.lookup y = some c → X.env.cells.lookup y = some c
  has : ∀ p ∈ (relabel scope X.env).names, (p.2 = .cell ∨ p.2 = .free) → ∃ c, cl.lookup p.1 = some c
  nd : N'.Nodup
  x0 : N'[0]? = some x
  cap : ∀ (k : Nat) (y : Str), N'[k + 1]? = some y → ∃ j, js[k]? = some j ∧ X.N[j]? = some y ∧ Vis X.env.scope y ∧ X.env.kindOf y ≠ some .local ∧ ((relabel scope X.env).names.lookup y = some .cell ∨ (relabel scope X.env).names.lookup y = some .free)
  len : N'.length = js.length + 1

def capt (σ : St) (js : List Nat) : St := js.map fun j => (σ[j]?).join

def tLC (wi : TI) (js : List Nat) (telt : TE) : TE := fun σ H Q => wi σ H fun J H1 => ∀ D, H1 D = none → ∃ W : Nat → Nat → List V → Hp → Prop, (∃ m, W 0 m [] (upd H1 D (.lst []))) ∧
  ∀ i m ys Hk, W i m ys Hk → (J.stop i Hk ∧ Q (.ref D) Hk) ∨ (J.go i Hk ∧ ys.length < sizeLine ∧ ∀ x H', J.yld i Hk x H' → telt (some x :: capt σ js) H' fun y H2 => H2 D = some (.lst ys) ∧ ∃ m', m' < m ∧ W (i + 1) m' (ys ++ [y]) (upd H2 D (.lst (ys ++ [y]))))

section
variable {X : Cx} {wi : TI} {telt : TE} {N' : List Str} {js : List Nat} {cl : List (Str × Addr)}
theorem pe_listComp {elt iter : Expr} {x : Str} {px : Pos} {scope : Scope} {pos : Pos} (hc : X.calm = true) (hi : PI X (.Name x px) iter wi) (G : CompOk X N' js x scope cl)
    (he : ∀ C fp s2 H2, PE (compCx X N' scope cl C fp s2 H2) elt telt) (hs : ∀ x, foldedSetIterable iter X.env x = pure x := by intro _; rfl) :
    PE X (.ListComp elt [⟨.Name x px, iter, [], 0⟩] scope pos) (tLC wi js telt) := by
  intro pins s σ H Q I h
  rw [eval_ListComp]
  refine wpAny_comprehension_free (use := none) rfl hs G.clos G.kind G.names (thn (hi pins s σ H _ I h) fun v s1 h1 => thn h1 fun itv s2 h2 => ?_)
  obtain ⟨it, fp, tn, J, H2, rfl, I2, T, st2, f2, q⟩ := h2
  obtain ⟨W, ⟨m0, w0⟩, turn⟩ := q s2.heap.objs.size (I2.hok.fresh (Nat.le_refl _))
  refine wpAny_newObj_type (wpAny_newFunctionEnv G.cell (by intro y hy; simp at hy) (fun h₁ hns₁ hsb₁ => ?_) G.kind)
  dsimp only at hns₁ hsb₁ ⊢
  generalize hH3 : s2.heap.push { cls := .type "list", dict := none, data := .seq ([] : List Value).toArray } = H3 at hns₁ hsb₁ ⊢
  have hC : H3.objs.size = s2.heap.objs.size + 1 := by rw [← hH3, Heap.size_push]
  generalize hCe : H3.objs.size = C at hns₁ hsb₁ ⊢
  have hCs : C = s2.heap.objs.size + 1 := hCe.symm.trans hC
  have below : ∀ b, b < s2.heap.objs.size → b ≠ C ∧ b ≠ s2.heap.objs.size := fun b hb => ⟨by rw [hCs]; exact Nat.ne_of_lt (Nat.lt_succ_of_lt hb), Nat.ne_of_lt hb⟩
  have hDC : s2.heap.objs.size ≠ C := by rw [hCs]; exact Nat.ne_of_lt (Nat.lt_succ_self _)
  have old : ∀ b o, s2.heap.get? b = some o → h₁.get? b = some o := fun b o e => hsb₁.extBut b o (below b (Heap.lt_size e)).1 (Heap.get?_push_of_some _ (hH3 ▸ Heap.get?_push_of_some _ e))
  have hD : h₁.get? s2.heap.objs.size = some { cls := .type "list", dict := none, data := .seq ([] : List Value).toArray } := hsb₁.extBut _ _ hDC (Heap.get?_push_of_some _ (hH3 ▸ Heap.get?_push_size _ rfl))
  have fpLt : ∀ b ∈ fp, b < s2.heap.objs.size := fun b hb => let ⟨o, e, _⟩ := T.obj _ _ st2 b hb; Heap.lt_size e
  have hCn : H2 C = none := I2.hok.fresh (by rw [hCs]; exact Nat.le_succ _)
  have hfs : ∀ b ∈ fp, b ∉ frs X.stack := fun b hb z => (List.mem_cons.mp (I2.stkSub b z)).elim (f2 b hb).2.1 (f2 b hb).2.2.1
  -- the block's state at its start
  have I3 : Inv (compCx X N' scope cl C fp s2 H2) [] (none :: capt σ js) (upd H2 s2.heap.objs.size (.lst [])) { s2 with heap := h₁, toks := s2.toks + ([] : List (Str × Value)).length } := by
    refine ⟨⟨I2.ok.mod, G.kind, I2.ok.glob, I2.ok.blt, by show s2.heap.objs.size ≤ C; rw [hCs]; exact Nat.le_succ _, fun y z c h1 h2 => I2.ok.inj y z c (G.sub y c h1) (G.sub z c h2), fun y hy => ?_, fun y c hf => absurd hf Bool.false_ne_true, I2.ok.hd, I2.ok.frames, .inl rfl, fun b hb => ⟨(below b (fpLt b hb)).1, fun y c e => (f2 b hb).2.2.2.2.1 y c (G.sub y c e)⟩, I2.bs, Nat.le_trans I2.ok.bsz I2.sz, fun b o e hb => ?_, hfs, I2.stack, I2.stkFree⟩,
      rfl, I2.bare, Un.laid old (Nat.le_refl _) (I2.hok.fresh (Nat.le_refl _)), ⟨_, hns₁, fun i y v e1 e2 e3 => ?_⟩, fun y c e => ?_, ?_, fun y c e => ?_, fun p hp => absurd (show p ∈ ([] : List (Addr × Obj)) from hp) (by simp), I2.hok.laid old (Nat.le_refl _) ⟨Nat.zero_le _, [], 0, .nil, hD⟩, ?_⟩
    · rcases hy with hy | hy
      · exact G.has _ (PySem.mem_of_lookup hy) (.inl rfl)
      · exact G.has _ (PySem.mem_of_lookup hy) (.inr rfl)
    · obtain ⟨k1, k2, k3, k4, k5, k6⟩ := f2 b hb
      rcases k4 with k4 | k4
      · exact I2.ok.noex b o e k4
      · exact absurd (Nat.lt_of_lt_of_le (Heap.lt_size (I2.ok.bs b o e).1) k4) (Nat.lt_irrefl _)
    · cases i with
      | zero => cases e2
      | succ k =>
        obtain ⟨j, hj, hn, hv, hk, hr⟩ := G.cap k y e1
        have e4 : (capt σ js)[k]? = some (some v) := e2
        unfold capt at e4
        rw [List.getElem?_map, hj] at e4
        have e5 : (σ[j]?).join = some v := Option.some.inj e4
        have e6 : σ[j]? = some (some v) := by
          cases z : σ[j]? with
          | none => rw [z] at e5; cases e5
          | some o => rw [z] at e5; exact congrArg some e5
        obtain ⟨m, hm, hl⟩ := I2.loc
        obtain ⟨u, ru, lk⟩ := hl j y v hn e6 hv
        refine ⟨u, ru, .inr ⟨hr, ?_⟩⟩
        rcases lk with ⟨k1, _⟩ | ⟨k1, c, k2, k3⟩
        · exact absurd k1 hk
        · obtain ⟨c', hc'⟩ : ∃ c', cl.lookup y = some c' := by
            rcases hr with hr | hr
            · exact G.has _ (PySem.mem_of_lookup hr) (.inl rfl)
            · exact G.has _ (PySem.mem_of_lookup hr) (.inr rfl)
          have z := (G.sub y c' hc').symm.trans k2
          cases z
          obtain ⟨o, ho, hd⟩ := k3
          exact ⟨c, hc', o, old c o ho, hd⟩
    · obtain ⟨v, o, ho, hd⟩ := I2.cell y c (G.sub y c e)
      exact ⟨v, o, old c o ho, hd⟩
    · show upd H2 s2.heap.objs.size (.lst []) C = none
      rw [upd_ne (Ne.symm hDC)]
      exact hCn
    · obtain ⟨v, o, ho, hd⟩ := I2.cell y c (G.sub y c e)
      rw [upd_ne (below c (Heap.lt_size ho)).2]
      exact I2.freeC y c (G.sub y c e)
    · show (none :: capt σ js).length = N'.length
      unfold capt
      rw [List.length_cons, List.length_map, G.len]
  have stat : ∀ {Hk : Hp}, (∀ b ∈ fp, Hk b = none) → ∀ b ∈ fp, FpOk (compCx X N' scope cl C fp s2 H2) [] Hk b := fun hn b hb =>
    ⟨hn b hb, (below b (fpLt b hb)).1, hfs b hb, .inl hb, fun y c e => (f2 b hb).2.2.2.2.1 y c (G.sub y c e), fun p hp => absurd (show p ∈ ([] : List (Addr × Obj)) from hp) (by simp)⟩
  have fr0 : ∀ b ∈ fp, upd H2 s2.heap.objs.size (.lst []) b = none := fun b hb => by
    rw [upd_ne (below b (fpLt b hb)).2]
    exact (f2 b hb).1
  have tn0 : tn 0 h₁ := T.keep _ _ _ st2 fun b _ o e => old b o e
  -- behind the block
  have fin : ∀ {Hk : Hp} {s5 : Shared}, Inv (compCx X N' scope cl C fp s2 H2) [] (none :: capt σ js) Hk s5 → Q (.ref s2.heap.objs.size) Hk →
      compPost (model X.prog X.w) X.A X.xe none (EP X pins σ Q) (.ref s2.heap.objs.size) C (.ok .next) s5 := fun {Hk s5} I5 q => by
    obtain ⟨m, hm, _⟩ := I5.loc
    refine ⟨m, hm, fun h' sb => ?_⟩
    have u : Un (frs X.stack) fp H2 Hk s2.heap s5.heap := I5.base
    have ne : ∀ b o, s2.heap.get? b = some o → b ≠ C := fun b o e => (below b (Heap.lt_size e)).1
    have hCk : Hk C = none := I5.free
    have un : Un (frs X.stack) fp H2 Hk s2.heap h' := ⟨fun b o e n hf hx => (sb.2 b (ne b o e)).trans (u.keep b o e n hf hx), fun b o e n hf hx => let ⟨sl, e1⟩ := u.slot b o e n hf hx; ⟨sl, (sb.2 b (ne b o e)).trans e1⟩, u.free, fun b o e hx => let ⟨o', e1⟩ := u.there b o e hx; ⟨o', (sb.2 b (ne b o e)).trans e1⟩, u.tups, u.frzs, u.tbls⟩
    have hok : HOk X.prog X.w Hk h' := fun a o e => (I5.hok a o e).stay (fun b v hb z => (sb.2 b (fun z2 => by
      rw [z2] at hb
      rcases hb with hb | hb
      · rw [← hb, hCk] at e; cases e
      · rw [hCk] at hb; cases hb)).trans z) (fun _ z => z) fun _ _ z => z
    exact ⟨.ref _, Hk, I2.call' (s' := { s5 with heap := h' }) (ch := fp) I5.os un hok I5.bare fun b hb => ⟨(f2 b hb).2.2.2.1, (f2 b hb).2.1, (f2 b hb).2.2.2.2.1, (f2 b hb).2.2.2.2.2⟩, rfl, q⟩
  have loop : codeAny (model X.prog X.w) X.A (.compLoop (.ListComp elt [⟨.Name x px, iter, [], 0⟩] scope pos) 0 (.ref it) (.ref s2.heap.objs.size) (compEnvC scope cl C X.env))
      (compPost (model X.prog X.w) X.A X.xe none (EP X pins σ Q) (.ref s2.heap.objs.size) C) { s2 with heap := h₁, toks := s2.toks + ([] : List (Str × Value)).length } := by
    refine codeAny_loop rfl (fun n s' => ∃ i ys Hk, Inv (compCx X N' scope cl C fp s2 H2) [] (none :: capt σ js) Hk s' ∧ tn i s'.heap ∧ (∀ b ∈ fp, Hk b = none) ∧ W i n ys Hk) ?_ m0 ⟨0, [], _, I3, tn0, fr0, w0⟩
    rintro n s4 ⟨i, ys, Hk, I4, st4, fr4, w4⟩
    show wpAny _ X.A ((compTurn (.ListComp elt [⟨.Name x px, iter, [], 0⟩] scope pos) 0 (.ref it) (.ref s2.heap.objs.size) (compEnvC scope cl C X.env)).onRaise (fun x => do noteFrame x (compEnvC scope cl C X.env); theTreesLotGoes x)) _ _ s4
    refine wpAny_noted (wpAny_noRaise ?_)
    rw [compTurn_list1]
    refine wpAny_bind (wpAny_standAt (wpAny_bind ?_))
    rcases turn i n ys Hk w4 with ⟨stop, qn⟩ | ⟨go, hz, step⟩
    · refine thn (T.done (compCx X N' scope cl C fp s2 H2) rfl rfl rfl hc i [] s4 _ Hk _ I4 (stat fr4) st4 stop) fun r s5 ⟨hr, I5⟩ => ?_
      subst hr
      exact wpAny_pure (fin I5 qn)
    · refine thn (T.item (compCx X N' scope cl C fp s2 H2) rfl rfl rfl hc i [] s4 _ Hk _ I4 (stat fr4) st4 go) fun r s5 ⟨u, hr, h5⟩ => ?_
      subst hr
      refine wpAny_bind (thn h5 fun _ s6 ⟨x6, H6, I6, r6, y6, st6, fr6⟩ => ?_)
      have I6' := I6.pinned (stat fr6) (T.obj _ _ st6)
      refine wpAny_bind (thn (pg_name (X := compCx X N' scope cl C fp s2 H2) (i := 0) (x := x) G.nd G.x0 (.inl (lookup_relabel_local G.xl)) (.inr (lookup_relabel_local G.xl)) _ s6 _ H6 x6 u (fun σ2 H2' => σ2 = some x6 :: capt σ js ∧ H2' = H6) I6' r6 ⟨rfl, rfl⟩) fun _ s7 ⟨σ7, H7, I7, e7, e7'⟩ => ?_)
      subst e7 e7'
      refine wpAny_bind (wpAny_bind (thn (he C fp s2 H2 _ s7 _ H7 _ I7 (step x6 H7 y6)) fun w8 s8 ⟨y8, H8, I8, r8, q8⟩ => ?_))
      obtain ⟨q8, m', hm', w8'⟩ := q8
      refine wpAny_bind (thn (mt_append (X := compCx X N' scope cl C fp s2 H2) _ s8 _ H8 (.ref s2.heap.objs.size) [y8] (.ref s2.heap.objs.size) [w8] (fun v H' => H' = upd H8 s2.heap.objs.size (.lst (ys ++ [y8]))) I8 rfl (.cons r8 .nil) ⟨_, ys, y8, rfl, rfl, q8, hz, rfl⟩) fun _ s9 ⟨v9, H9, I9, r9, e9⟩ => ?_)
      subst e9
      refine wpAny_pure (wpAny_pure ⟨rfl, m', hm', i + 1, ys ++ [y8], _, I9.unpinned.weak rfl (fun k v e => ?_), T.keep _ _ _ st6 fun b hb o e => (I9.pin (b, o) (List.mem_append_right _ (List.mem_append_right _ (mem_pinsAt hb e)))).1, fun b hb => ?_, w8'⟩)
      · cases k with
        | zero => cases e
        | succ k => exact e
      · obtain ⟨o, e, d⟩ := T.obj _ _ st6 b hb
        exact (I9.pin (b, o) (List.mem_append_right _ (List.mem_append_right _ (mem_pinsAt hb e)))).2.1
  exact codeAny_compStart_list loop (T.self _ 0 _ _ _ tn0 loop)
end
end L2
/-! Errors of the program's own classes over the layer: raised, passed on, caught. -/
namespace L2
open PySem PySem.Spec PyProof.Rows

theorem ObjOk.there {P : Program} {w : World} {H : Hp} {h : Heap} {a : Addr} {o : HO} (x : ObjOk P w H h a o) : ∃ ob, h.get? a = some ob := by
  cases o with
  | lst xs => obtain ⟨_, _, _, _, e⟩ := x; exact ⟨_, e⟩
  | tup xs => obtain ⟨_, _, _, ob, e, _⟩ := x; exact ⟨_, e⟩
  | dK kvs => obtain ⟨_, _, _, _, o, _, _, e, _⟩ := x; exact ⟨_, e⟩
  | dT kvs => obtain ⟨_, _, _, _, o, _, _, e, _⟩ := x; exact ⟨_, e⟩
  | set S n => obtain ⟨o, _, _, _, e, _⟩ := x; exact ⟨_, e⟩
  | ins C dx fs => obtain ⟨_, _, _, e, _⟩ := x; exact ⟨_, e⟩
  | own y => exact x
  | xd fs => obtain ⟨_, ⟨_, _, _, e, _⟩, _⟩ := x; exact ⟨_, e⟩
  | rng lo hi => obtain ⟨_, _, _, e⟩ := x; exact ⟨_, e⟩
  | frz ob u => obtain ⟨e, _⟩ := x; exact ⟨_, e⟩
  | tbl ps => exact ⟨_, show h.get? a = some _ from x⟩
  | met f y => exact ⟨_, show h.get? a = some _ from x⟩
  | ext φ => obtain ⟨_, e, _⟩ := x; exact e
theorem HOk.noneAt {P : Program} {w : World} {H : Hp} {h : Heap} {a : Addr} (x : HOk P w H h) (e : h.get? a = none) : H a = none := by
  cases q : H a with
  | none => rfl
  | some o =>
    obtain ⟨ob, z⟩ := (x a o q).there
    rw [e] at z; cases z

/-- how an exception lies behind a call: B holds all that is no frame -/
def CXE (P : Program) (w : World) : CXT := fun outer H s E e s' =>
  ∃ (a t : Addr) (C : Value) (H' : Hp) (B : Heap), e = .ref a ∧ s'.os = s.os ∧ AllBare s'.gens ∧ Un (frs outer) [] H H' s.heap s'.heap ∧ HOk P w H' B ∧
    Heap.FlyingW B outer a C (.ref t) s'.heap ∧ (∀ b o, s.heap.get? b = some o → H b = none → b ∉ frs outer → B.get? b = some o) ∧
    (∀ b o, s.heap.get? b = some o → b ∉ frs outer → ∃ o', B.get? b = some o') ∧ s.heap.get? a = none ∧ E C none H'
theorem passF {P : Program} {w : World} {X : Cx} : Passes (CXE P w) X E0 := fun _ _ _ _ _ _ _ h => by
  obtain ⟨_, _, _, _, _, _, _, _, _, _, _, _, _, _, q⟩ := h
  exact q.elim

section
variable {P : Program} {w : World} {K : PySem.W.Frag} {mg : Str → Option Value} {base : Heap} {N : List Str} {qual : Str} {scope : Scope} {f : Addr} {cd : Value} {A : Around} {outer : List Env} {s₀ : Shared} {H₀ : Hp} {E : XK}
/-- out of the frame: an exception that came from a callee -/
theorem pass_on {E' : XK} (hE : ∀ C d H', E' C d H' → E C d H') : Passes (CXE P w) (cxOf (CXE P w) P w K mg base N qual scope f cd A outer s₀ H₀ E) E' := by
  intro pins σ H s e s' I h
  obtain ⟨a, t, C, H', B, rfl, os, bare, un, hokB, fly, keepB, thereB, new, q⟩ := h
  show wpAny _ _ (leaving _ (.ref a)) _ _ s'
  have u0 : Un (frs outer) [] H₀ H s₀.heap s.heap := I.base
  have neL : ∀ b o, s₀.heap.get? b = some o → b ∉ frs outer → b ∉ frs (envOfC qual scope s₀.heap.objs.size f cd :: outer) := fun b o e hb z => by
    rcases List.mem_cons.mp (show b ∈ s₀.heap.objs.size :: frs outer from z) with z | z
    · rw [z] at e; exact absurd (Heap.lt_size e) (Nat.lt_irrefl _)
    · exact hb z
  have nx : ∀ b : Addr, b ∉ ([] : List Addr) := fun b => by simp
  refine wpAny_leaves_onW I.ok.frames rfl fly fun h' fly' up => ?_
  have slot : ∀ b o, s₀.heap.get? b = some o → H₀ b = none → b ∈ frs outer → ∃ sl, h'.get? b = some { o with slots := sl } := fun b o e n hb => by
    obtain ⟨sl, e1⟩ := u0.slot b o e n hb (nx b)
    obtain ⟨sl2, e2⟩ := un.any e1 (u0.free b o e n (nx b)) (nx b)
    obtain ⟨_, o', e3, nf⟩ := I.ok.funs.mem (show b ∈ outer.filterMap (·.frame) from hb)
    have e4 : s₀.heap.get? b = some o' := e3
    rw [e] at e4; cases e4
    obtain ⟨sl3, e5⟩ := up b _ e2 nf
    exact ⟨sl3, e5⟩
  refine ⟨a, t, C, H', B, rfl, os.trans I.os, bare, ⟨fun b o e n hb hx => ?_, fun b o e n hb hx => slot b o e n hb, fun b o e n hx => ?_, fun b o e hx => ?_, fun b xs e => un.tups b xs (u0.tups b xs e), fun b o xs e => un.frzs b o xs (u0.frzs b o xs e), fun b ps e => ?_⟩, hokB, fly', fun b o e n hb => ?_, fun b o e hb => ?_, ?_, hE _ _ _ q⟩
  · exact fly'.1 b o (keepB b o (u0.keep b o e n hb hx) (u0.free b o e n hx) (neL b o e hb))
  · obtain ⟨o', e1⟩ := u0.there b o e hx
    exact un.free b o' e1 (u0.free b o e n hx) hx
  · by_cases hb : b ∈ frs outer
    · obtain ⟨sl, z⟩ := slot b o e (I.ok.frf b hb) hb
      exact ⟨_, z⟩
    · obtain ⟨o', e1⟩ := u0.there b o e hx
      obtain ⟨o2, e2⟩ := thereB b o' e1 (neL b o e hb)
      exact ⟨o2, fly'.1 b o2 e2⟩
  · obtain ⟨m1, e1⟩ := u0.tbls b ps e
    obtain ⟨m2, e2⟩ := un.tbls b _ e1
    exact ⟨m1 ++ m2, by rw [e2, Array.append_assoc]⟩
  · exact keepB b o (u0.keep b o e n hb (nx b)) (u0.free b o e n (nx b)) (neL b o e hb)
  · obtain ⟨o', e1⟩ := u0.there b o e (nx b)
    exact thereB b o' e1 (neL b o e hb)
  · cases z : s₀.heap.get? a with
    | none => rfl
    | some o =>
      obtain ⟨o', e1⟩ := u0.there a o z (nx a)
      rw [new] at e1; cases e1
/-- out of the frame: an exception that this body has made -/
theorem raise_leaves {pins : List (Addr × Obj)} {σ : St} {H : Hp} {s : Shared} {h' : Heap} {e : Addr} {C : Value} {vs : List Value} (I : Inv (cxOf (CXE P w) P w K mg base N qual scope f cd A outer s₀ H₀ E) pins σ H s)
    (hx : Heap.MadeExcOf s.heap h' e C vs) (q : E C none H) : (cxOf (CXE P w) P w K mg base N qual scope f cd A outer s₀ H₀ E).xe (.ref e) { s with heap := h' } := by
  show wpAny _ _ (leaving _ (.ref e)) _ _ { s with heap := h' }
  have u0 : Un (frs outer) [] H₀ H s₀.heap s.heap := I.base
  have neL : ∀ b o, s₀.heap.get? b = some o → b ∉ frs outer → b ∉ frs (envOfC qual scope s₀.heap.objs.size f cd :: outer) := fun b o e hb z => by
    rcases List.mem_cons.mp (show b ∈ s₀.heap.objs.size :: frs outer from z) with z | z
    · rw [z] at e; exact absurd (Heap.lt_size e) (Nat.lt_irrefl _)
    · exact hb z
  have nx : ∀ b : Addr, b ∉ ([] : List Addr) := fun b => by simp
  have frF : ∀ b ∈ frs (envOfC qual scope s₀.heap.objs.size f cd :: outer), H b = none := I.stkFree
  refine wpAny_leaves_madeW (base := PySem.W.hideAll s.heap (frs (envOfC qual scope s₀.heap.objs.size f cd :: outer))) I.ok.frames rfl (fun b o z => PySem.W.of_hideAll _ z)
    (PySem.W.funFrames_hide I.stack fun env he a ha => List.mem_filterMap.mpr ⟨env, he, ha⟩) hx fun h'' t fly tup tn up => ?_
  have slot : ∀ b o, s₀.heap.get? b = some o → H₀ b = none → b ∈ frs outer → ∃ sl, h''.get? b = some { o with slots := sl } := fun b o z n hb => by
    obtain ⟨sl, e1⟩ := u0.slot b o z n hb (nx b)
    obtain ⟨_, o', e3, nf⟩ := I.ok.funs.mem (show b ∈ outer.filterMap (·.frame) from hb)
    have e4 : s₀.heap.get? b = some o' := e3
    rw [z] at e4; cases e4
    obtain ⟨sl3, e5⟩ := up b _ (hx.keeps b _ e1) nf
    exact ⟨sl3, e5⟩
  refine ⟨e, t, C, H, _, rfl, I.os, I.bare, ⟨fun b o z n hb hx' => ?_, fun b o z n hb hx' => slot b o z n hb, fun b o z n hx' => u0.free b o z n hx', fun b o z hx' => ?_, u0.tups, u0.frzs, u0.tbls⟩, fun a o z => ?_, fly, fun b o z n hb => ?_, fun b o z hb => ?_, ?_, q⟩
  · exact fly.1 b o (PySem.W.hideAll_get _ (u0.keep b o z n hb hx') (neL b o z hb))
  · by_cases hb : b ∈ frs outer
    · obtain ⟨sl, z2⟩ := slot b o z (I.ok.frf b hb) hb
      exact ⟨_, z2⟩
    · obtain ⟨o', e1⟩ := u0.there b o z hx'
      exact ⟨o', fly.1 b o' (PySem.W.hideAll_get _ e1 (neL b o z hb))⟩
  · refine (I.hok a o z).stay (fun b u hb z2 => PySem.W.hideAll_get _ z2 fun z3 => ?_) (fun _ z2 => z2) fun _ _ z2 => z2
    have z4 := frF b z3
    rcases hb with hb | hb
    · rw [← hb, z4] at z; cases z
    · rw [z4] at hb; cases hb
  · exact PySem.W.hideAll_get _ (u0.keep b o z n hb (nx b)) (neL b o z hb)
  · obtain ⟨o', e1⟩ := u0.there b o z (nx b)
    exact ⟨o', PySem.W.hideAll_get _ e1 (neL b o z hb)⟩
  · cases z : s₀.heap.get? e with
    | none => rfl
    | some o =>
      obtain ⟨o', e1⟩ := u0.there e o z (nx e)
      rw [hx.new] at e1; cases e1
end

/-! ### statements and expressions that may raise -/
abbrev XQ := St → XK
/-- E: what is wanted of an exception that came out of a call; EM: of one that this very body made -/
def XP (X : Cx) (pins : List (Addr × Obj)) (E EM : XQ) (e : Value) (s' : Shared) : Prop :=
  ∃ σ H s, Inv X pins σ H s ∧ (CXE X.prog X.w X.stack H s (E σ) e s' ∨ ∃ a C vs h', e = .ref a ∧ s' = { s with heap := h' } ∧ Heap.MadeExcOf s.heap h' a C vs ∧ EM σ C none H)
abbrev TSX := Ends → XQ → XQ → St → Hp → Prop
abbrev TEX := St → Hp → VK → XK → Prop
def PEX (X : Cx) (e : Expr) (t : TEX) : Prop :=
  ∀ (pins : List (Addr × Obj)) (s : Shared) (σ : St) (H : Hp) (Q : VK) (E : XK), Inv X pins σ H s → t σ H Q E →
    wpAny (model X.prog X.w) X.A (eval e X.env) (EP X pins σ Q) (fun e s' => ∃ H s, Inv X pins σ H s ∧ CXE X.prog X.w X.stack H s E e s') s
def PSX (X : Cx) (st : Stmt) (t : TSX) : Prop :=
  ∀ (pins : List (Addr × Obj)) (s : Shared) (σ : St) (H : Hp) (D : Ends) (E EM : XQ), Inv X pins σ H s → t D E EM σ H → wpAny (model X.prog X.w) X.A (exec st X.env) (SP X pins D) (XP X pins E EM) s
def PSXs (X : Cx) (st : List Stmt) (t : TSX) : Prop :=
  ∀ (pins : List (Addr × Obj)) (s : Shared) (σ : St) (H : Hp) (D : Ends) (E EM : XQ), Inv X pins σ H s → t D E EM σ H → wpAny (model X.prog X.w) X.A (execs st X.env) (SP X pins D) (XP X pins E EM) s
section
variable {X : Cx} {st : Stmt} {rest : List Stmt} {t u : TSX} {e : Expr} {pos : Pos} {tx : TEX}
theorem PS.x {t : TS} (h : PS X.nox st t) : PSX X st (fun D _ _ σ H => t D σ H) := fun pins s σ H D E EM I hw =>
  wpAny_mono (h pins s σ H D (I.wish _) hw) (fun _ _ q => q.unwish) fun _ _ x => x.elim
theorem PE.x {t : TE} (h : PE X.nox e t) : PEX X e (fun σ H Q _ => t σ H Q) := fun pins s σ H Q E I hw =>
  wpAny_mono (h pins s σ H Q (I.wish _) hw) (fun _ _ ⟨v, H', I', r, q⟩ => ⟨v, H', I'.unwish, r, q⟩) fun _ _ x => x.elim
def xSeq (t u : TSX) : TSX := fun D E EM σ H => t { D with nx := fun σ' H' => u D E EM σ' H' } E EM σ H
theorem psx_nil : PSXs X [] (fun D _ _ σ H => D.nx σ H) := fun _ _ σ H _ _ _ I h => wpAny_execs_nil ⟨σ, H, I, h⟩
theorem psx_cons (h1 : PSX X st t) (h2 : PSXs X rest u) : PSXs X (st :: rest) (xSeq t u) := by
  intro pins s σ H D E EM I h
  refine wpAny_execs_cons (thn (h1 pins s σ H { D with nx := fun σ' H' => u D E EM σ' H' } E EM I h) fun f s1 q => ?_)
  cases f with
  | next =>
    obtain ⟨σ', H', I', q⟩ := q
    exact h2 pins s1 σ' H' D E EM I' q
  | ret v => exact q
  | brk => exact q
  | cont => exact q
theorem psx_one (h1 : PSX X st t) : PSXs X [st] t := by
  intro pins s σ H D E EM I h
  refine wpAny_execs_cons (thn (h1 pins s σ H D E EM I h) fun f s1 q => ?_)
  cases f with
  | next => exact wpAny_execs_nil q
  | ret v => exact q
  | brk => exact q
  | cont => exact q
def xIf (c : TT) (t u : TSX) : TSX := fun D E EM σ H => c σ H fun b H1 => if b = true then t D E EM σ H1 else u D E EM σ H1
theorem psx_if {c : Expr} {a b : List Stmt} {tc : TT} (hc : PT X.nox c tc) (ha : PSXs X a t) (hb : PSXs X b u) : PSX X (.If c a b pos) (xIf tc t u) := by
  intro pins s σ H D E EM I h
  refine wpAny_If (wpAny_mono (hc pins s σ H _ (I.wish _) h) (fun d s1 ⟨H1, I1, q1⟩ => ?_) fun _ _ x => x.elim)
  cases d with
  | true => exact ha pins s1 σ H1 D E EM I1.unwish q1
  | false => exact hb pins s1 σ H1 D E EM I1.unwish q1
theorem xp_of {pins : List (Addr × Obj)} {σ : St} {E EM : XQ} {v : Value} {s' : Shared} (h : ∃ H s, Inv X pins σ H s ∧ CXE X.prog X.w X.stack H s (E σ) v s') : XP X pins E EM v s' :=
  let ⟨H, s, I, q⟩ := h; ⟨σ, H, s, I, .inl q⟩
def xRet (tx : TEX) : TSX := fun D E _ σ H => tx σ H D.rt (E σ)
theorem psx_ret (he : PEX X e tx) : PSX X (.Return (some e) pos) (xRet tx) := by
  intro pins s σ H D E EM I h
  exact wpAny_Return_some (wpAny_mono (he pins s σ H _ _ I h) (fun v s1 ⟨x, H1, I1, r1, q1⟩ => ⟨x, σ, H1, I1, r1, q1⟩) fun _ _ q => xp_of q)
def xDrop (tx : TEX) : TSX := fun D E _ σ H => tx σ H (fun _ H1 => D.nx σ H1) (E σ)
theorem psx_expr (he : PEX X e tx) (hs : swapsWith e none pos.line X.env = pure false := by rfl) : PSX X (.Expr e pos) (xDrop tx) := by
  intro pins s σ H D E EM I h
  exact wpAny_Expr_any (wpAny_mono (he pins s σ H _ _ I h) (fun v s1 ⟨x, H1, I1, r1, q1⟩ => ⟨σ, H1, I1, q1⟩) fun _ _ q => xp_of q) I.quiet hs
def xSet (i : Nat) (tx : TEX) : TSX := fun D E _ σ H => tx σ H (fun v H1 => D.nx (σ.set i (some v)) H1) (E σ)
end
end L2
namespace L2
open PySem PySem.Spec PyProof.Rows

section
variable {X : Cx} {e : Expr} {pos : Pos} {tx : TEX}
theorem psx_set {i : Nat} {x : Str} {pos' : Pos} (hN : X.N.Nodup) (hi : X.N[i]? = some x) (hx : Loc X.env.scope x) (he : PEX X e tx) (hs : swapsWith e (some (.Name x pos')) pos.line X.env = pure false := by rfl)
    (hf : X.fn x = true ∨ X.env.scope.names.lookup x = some .local := by first | exact .inl rfl | exact .inr rfl | assumption) : PSX X (.Assign [.Name x pos'] e pos) (xSet i tx) := by
  intro pins s σ H D E EM I h
  refine wpAny_Assign_Name (wpAny_mono (he pins s σ H _ _ I h) (fun v s1 ⟨y, H1, I1, r1, q1⟩ => ?_) fun _ _ q => xp_of q) hs
  exact store_ok I1 hN hi hx r1 (fun s2 I2 => ⟨_, H1, I2, q1⟩) hf
def xCall (sp : Sp) (dvs : List V) (t : TA) : TEX := fun σ H Q E => t σ H fun vs H1 => sp (vs ++ dvs) H1 Q E
theorem pex_call {k : Nat} {f : Addr} {fd : FuncData} {ps : List Str} {sp : Sp} {dvs : List V} {ds : List Value} {x : Str} {p : Pos} {es : List Expr} {t : TA} (F : FnOk X.prog X.w X.K X.mg X.base (CXE X.prog X.w) k f fd ps sp) (hr : Room k X.A) (hg : Gl X x) (hm : X.mg x = some (.ref f))
    (hk : PySem.W.keepIn X.K (.ref f) = true) (hb : Binds X.K fd ps ds) (hd : Vals dvs ds) (ha : PA X.nox (e :: es) t) (hdb : (x == ("__debug__" : Str)) = false := by decide) (he : starEach (e :: es) X.env = (false, eval e X.env) :: starEach es X.env := by rfl)
    (hpl : (backTo pos (starEach es X.env)).any (·.1) = false := by rfl) : PEX X (.Call (.Name x p) (e :: es) [] pos) (xCall sp dvs t) := by
  intro pins s σ H Q E I h
  refine wpAny_Call_Name_kw (ld_glob I hg hm ?_ hdb)
  refine PySem.W.callWith_K (h₀ := X.base) I.ok.mod.kin hk (wpAny_mono (ha pos pins s σ H _ (I.wish _) h) (fun us s1 ⟨vs, H1, I1', r, q⟩ => ?_) fun _ _ z => z.elim) he hpl
  have I1 := I1'.unwish
  refine ⟨I1.kIn, ?_⟩
  have r2 : Vals (vs ++ dvs) (us ++ ds) := r.append hd
  have hl : (us ++ ds).length = ps.length := by rw [← r2.length]; exact F.len _ _ _ _ q
  refine wpAny_call (codeAny_mono (F.run X.A X.stack s1 H1 ⟨us, []⟩ (us ++ ds) (vs ++ dvs) Q E hr I1.env0 (hb s1 us I1.kIn hl) r2 q) fun r s' hq => ?_)
  cases r with
  | error e => exact ⟨H1, s1, I1, hq⟩
  | ok fl =>
    cases fl with
    | ret u => exact I1.after hq
    | next => exact False.elim hq
    | brk => exact False.elim hq
    | cont => exact False.elim hq
end

/-- the own error class at C, as the fragment holds it -/
theorem exc_obj {K : PySem.W.Frag} {C : Addr} {bmB : List Value} {newId : String} (q : PySem.W.excIn K C bmB newId = true) :
    ∃ bm N nm qn bs hdct sn sub ab col dd k0 k1 k2 k3 k5, K.lookup C = some (excClassObj nm qn C N bs bm hdct sn sub ab col dd k0 k1 k2 k3 k5 newId) ∧ PySem.W.tailIn K bmB bm = true ∧ PySem.W.nsOkIn K N = true ∧ PySem.W.nsIn K N "__init__" = some none := by
  unfold PySem.W.excIn at q
  cases lk : K.lookup C with
  | none => rw [lk] at q; cases q
  | some ob =>
    obtain ⟨c0, dd, da, sl⟩ := ob
    rw [lk] at q
    split at q
    · rename_i dd' cd' sl' ho
      cases ho
      split at q
      · rename_i C' bm k0 k1 k2 k3 n k5 hm hs
        simp only [Bool.and_eq_true, beq_iff_eq, Bool.not_eq_true'] at q
        obtain ⟨⟨⟨⟨⟨h1, h2⟩, h3⟩, h4⟩, h5⟩, h6⟩ := q
        obtain ⟨nm, bs, mro, ns, qn, hd, sn, sub, ab, col, del⟩ := cd'
        dsimp only at hm h3 h5 h6
        subst h1 h2 hm h3
        have z : sl = #[k0, k1, k2, k3, some (.builtin n), k5] := by
          cases sl
          simp only at hs
          rw [hs]
        subst z
        exact ⟨bm, ns, nm, qn, bs, hd, sn, sub, ab, col, dd, k0, k1, k2, k3, k5, rfl, h4, h5, h6⟩
      · cases q
    · cases q

section
variable {X : Cx}
def xRaise (C : Addr) (ta : TA) : TSX := fun _ _ EM σ H => ta σ H fun vs H1 => vs.length ≤ sizeLine ∧ EM σ (.ref C) none H1
/-- raise C(e, ..), C an own error class -/
theorem psx_raise {x : Str} {C : Addr} {np cpos pos : Pos} {e₀ : Expr} {rest : List Expr} {ta : TA} {bmB : List Value} {B newId initId : String} (hc : X.calm = true) (hg : Gl X x) (hm : X.mg x = some (.ref C)) (ec : PySem.W.excIn X.K C bmB newId = true)
    (FB : ExcBaseFacts B newId initId bmB) (ha : PA X.nox (e₀ :: rest) ta) (hd : (x == ("__debug__" : Str)) = false := by decide) (he : starEach (e₀ :: rest) X.env = (false, eval e₀ X.env) :: starEach rest X.env := by rfl)
    (hpl : (backTo cpos (starEach rest X.env)).any (·.1) = false := by rfl) : PSX X (.Raise (some (.Call (.Name x np) (e₀ :: rest) [] cpos)) none pos) (xRaise C ta) := by
  intro pins s σ H D E EM I h
  obtain ⟨bm, N, nm, qn, bs, hdct, sn, sub, ab, col, dd, k0, k1, k2, k3, k5, lk, tl, ok, ni⟩ := exc_obj ec
  have KB := I.mod.kin
  have hN : X.base.Ns N (X.base.nsMap N) := .of_isNs (PySem.W.isNs_of_in KB ok)
  refine wpAny_Raise_call_subT (C := C) (nm := nm) (q := qn) (N := N) (bs := bs) (bm := bm) (hdct := hdct) (sn := sn) (sub := sub) (ab := ab) (col := col) (dd := dd) (k0 := k0) (k1 := k1) (k2 := k2) (k3 := k3) (k5 := k5)
    FB (mN := X.base.nsMap N) ((PySem.W.tail_of_in KB tl).hasType FB.hasBase) (I.ok.hd hc) (by rw [he]; show (false || (backTo cpos (starEach rest X.env)).any (·.1)) = false; rw [hpl]; rfl) (PySem.W.nsMap_none_of_in KB ok ni) (ld_glob I hg hm ⟨rfl, ?_⟩ hd)
  have hA := ha cpos pins s σ H _ (I.wish _) h
  rw [show starEach (e₀ :: rest) X.nox.env = starEach (e₀ :: rest) X.env from rfl, he] at hA
  rw [he]
  refine Calls.evalArgs_plain (wpAny_mono hA (fun vs s2 ⟨ws, H2, I2', r2, hz, q2⟩ => ?_) fun _ _ z => z.elim)
  have I2 := I2'.unwish
  refine ⟨rfl, by rw [← r2.length]; exact hz, I2.bk _ _ (KB _ _ lk), hN.keeps I2.bk, (PySem.W.tail_of_in KB tl).keeps I2.bk, fun h' a hm' => ?_⟩
  exact ⟨σ, H2, s2, I2, .inr ⟨a, .ref C, vs, h', rfl, rfl, hm', q2⟩⟩
end

section
variable {P : Program} {w : World} {K : PySem.W.Frag} {mg : Str → Option Value} {base : Heap}
/-- a def that may raise, by its body -/
theorem Fun.okX {x qual : Str} {st : Stmt} {f : Addr} {fd : FuncData} {N ps : List Str} {k : Nat} {sp : Sp} (F : Fun K x qual st f fd) (S : FnScope N ps (defScope st)) (len : ∀ vs H Q E, sp vs H Q E → vs.length = ps.length)
    (hbody : ∀ (cdv : Value) (A : Around) (outer : List Env) (s : Shared) (H : Hp) (vs : List V) (Q : VK) (E : XK), Room k (A.deeper (envOfC qual (defScope st) s.heap.objs.size f cdv)) → sp vs H Q E →
      ∃ t, PSXs (cxOf (CXE P w) P w K mg base N qual (defScope st) f cdv A outer s H E) (defBody st) t ∧ t { nx := fun _ H' => Q .non H', rt := Q } (fun _ => E) (fun _ => E) (start N vs) H) : FnOk P w K mg base (CXE P w) (k + 1) f fd ps sp := by
  obtain ⟨oc, od, kV, doc, pm, an, cdv, ct, osl, rfl, lk, hcd⟩ := F.ex
  refine fn_of lk hcd S len fun A outer s H vs Q E hr hsp => ?_
  obtain ⟨t, h, q⟩ := hbody cdv A outer s H vs Q E hr hsp
  refine ⟨fun D σ H' => t D (fun _ => E) (fun _ => E) σ H', fun pins s1 σ H1 D I hw => ?_, q⟩
  refine wpAny_mono (h pins s1 σ H1 D _ _ I hw) (fun _ _ z => z) fun e s' ⟨σ2, H2, s2, I2, hx⟩ => ?_
  rcases hx with hx | ⟨a, C, vs', h', rfl, rfl, hm, q'⟩
  · exact pass_on (fun _ _ _ z => z) pins σ2 H2 s2 e s' I2 hx
  · exact raise_leaves I2 hm q'
/-- a def that never raises may be called where some do -/
theorem FnOk.toX {k : Nat} {f : Addr} {fd : FuncData} {ps : List Str} {sp : Sp} (F : FnOk P w K mg base CX0 k f fd ps sp) : FnOk P w K mg base (CXE P w) k f fd ps sp :=
  ⟨F.len, fun A outer s H args us vs Q E hr he hb hv hs => codeAny_mono (F.run A outer s H args us vs Q E hr he hb hv hs) fun r s' q => by
    cases r with
    | error e => exact False.elim q
    | ok fl => cases fl <;> exact q⟩
end

/-! ### try .. except C: -/
theorem un_fly {l : List Env} {H H' : Hp} {h h1 h2 B : Heap} (un : Un (frs l) [] H H' h h1) (st : B.StaysIn h2) (keepB : ∀ b o, h.get? b = some o → H b = none → b ∉ frs l → B.get? b = some o) (thereB : ∀ b o, h.get? b = some o → b ∉ frs l → ∃ o', B.get? b = some o')
    (up : h1.UpToSlots h2) (nf : ∀ b ∈ frs l, ∀ o, h.get? b = some o → ∀ vs, o.data ≠ .fields vs) (fr : ∀ b ∈ frs l, H b = none) : Un (frs l) [] H H' h h2 := by
  have slot : ∀ b o, h.get? b = some o → H b = none → b ∈ frs l → ∃ sl, h2.get? b = some { o with slots := sl } := fun b o e n hb => by
    obtain ⟨sl, e1⟩ := un.slot b o e n hb (by simp)
    obtain ⟨sl2, e2⟩ := up b _ e1 (nf b hb o e)
    exact ⟨sl2, e2⟩
  refine ⟨fun b o e n hb hx => st b o (keepB b o e n hb), fun b o e n hb hx => slot b o e n hb, un.free, fun b o e hx => ?_, un.tups, un.frzs, un.tbls⟩
  by_cases hb : b ∈ frs l
  · obtain ⟨sl, z⟩ := slot b o e (fr b hb) hb
    exact ⟨_, z⟩
  · obtain ⟨o', z⟩ := thereB b o e hb
    exact ⟨o', st b o' z⟩
/-- within an except suite -/
def hCx (X : Cx) (a : Addr) : Cx := { X with A := X.A.mark (some (.ref a)), calm := false, xe := fun _ _ => False }
/-- an error object, by its class -/
def ExcAt (a : Addr) (C : Value) : Heap → Prop := fun h => ∃ oe vs, h.get? a = some oe ∧ oe.cls = C ∧ oe.data = .fields vs
/-- the class named behind except, as the fragment holds it -/
structure CatchCls (K : PySem.W.Frag) (C : Addr) : Prop where
  cl : (PySem.W.clsIn K C).isSome = true
  ty : PySem.W.typeIn K (.ref C) = some (.type "type")
  be : PySem.W.subIn K (.ref C) (.type "BaseException") = some true
def Caught (K : PySem.W.Frag) (C' : Addr) (C : Value) : Prop := ∃ Ce, C = .ref Ce ∧ PySem.W.subIn K (.ref Ce) (.ref C') = some true

section
variable {X : Cx} {pins : List (Addr × Obj)} {σ : St} {H : Hp} {s : Shared} {a : Addr}
theorem Inv.held (I : Inv X pins σ H s) (a : Addr) : Inv (hCx X a) pins σ H s :=
  ⟨⟨I.ok.mod, I.ok.kind, I.ok.glob, I.ok.blt, I.ok.above, I.ok.inj, I.ok.has, I.ok.cab, fun z => absurd z Bool.false_ne_true, I.ok.frames, I.ok.stk, I.ok.exf, I.ok.bs, I.ok.bsz, I.ok.noex, I.ok.exfs, I.ok.funs, I.ok.frf⟩, I.os, I.bare, I.base, I.loc, I.cell, I.free, I.freeC, I.pin, I.hok, I.len⟩
theorem Inv.back (ok : X.Ok) (I : Inv (hCx X a) pins σ H s) : Inv X pins σ H s := ⟨ok, I.os, I.bare, I.base, I.loc, I.cell, I.free, I.freeC, I.pin, I.hok, I.len⟩
theorem SP.back {D : Ends} {f : Flow} (ok : X.Ok) (h : SP (hCx X a) pins D f s) : SP X pins D f s := by
  cases f with
  | next => obtain ⟨σ', H', I, q⟩ := h; exact ⟨σ', H', I.back ok, q⟩
  | brk => obtain ⟨σ', H', I, q⟩ := h; exact ⟨σ', H', I.back ok, q⟩
  | cont => obtain ⟨σ', H', I, q⟩ := h; exact ⟨σ', H', I.back ok, q⟩
  | ret u => obtain ⟨v, σ', H', I, r, q⟩ := h; exact ⟨v, σ', H', I.back ok, r, q⟩

theorem CatchCls.obj {K : PySem.W.Frag} {C : Addr} (c : CatchCls K C) : ∃ dd cd sl, K.lookup C = some ⟨.type "type", dd, .cls cd, sl⟩ := by
  have z := c.cl
  have y := c.ty
  unfold PySem.W.clsIn at z
  split at z
  · rename_i c' d' cd' sl' ho
    have y2 : (K.lookup C).map (·.cls) = some (.type "type") := y
    rw [ho] at y2
    have y3 : c' = .type "type" := Option.some.inj y2
    rw [y3] at ho
    exact ⟨_, _, _, ho⟩
  · cases z
theorem excMatches_own {M : Model} {A : Around} {E : Value → Shared → Prop} {K : PySem.W.Frag} {C' Ce : Addr} {Q : Bool → Shared → Prop} (KX : K.In s.heap) (cc : CatchCls K C') (hsub : PySem.W.subIn K (.ref Ce) (.ref C') = some true)
    (ha : ∃ oe, s.heap.get? a = some oe ∧ oe.cls = .ref Ce) (h : Q true s) : wpAny M A (excMatches (.ref a) (.ref C')) Q E s := by
  obtain ⟨hh, g, d, tk, os⟩ := s
  obtain ⟨oe, he, hc⟩ := ha
  have L2 : PySem.W.Looks M hh (isSubtype (.ref C') (.type "BaseException")) true := PySem.W.looks_subIn KX cc.be
  have L3 : PySem.W.Looks M hh (isSubtype (.ref Ce) (.ref C')) true := PySem.W.looks_subIn KX hsub
  obtain ⟨dd, cd, sl, lk⟩ := cc.obj
  have hC : hh.get? C' = some ⟨.type "type", dd, .cls cd, sl⟩ := KX _ _ lk
  have f := tc_notTuple
  unfold excMatches
  repeat (first | (with_reducible refine wpAny_loadPart_at he ?_; rw [hc]) | with_reducible refine wpAny_loadPart_at hC ?_ | with_reducible refine L2.at ?_ | with_reducible refine L3.at ?_ | wp_step)
  exact h

/-- the state behind the landing: what the callee left, the frames' slots apart -/
theorem Inv.landed {H' : Hp} {h1 h2 B : Heap} {s1 : Shared} (I : Inv X pins σ H s) (os : s1.os = s.os) (bare : AllBare s1.gens) (un : Un (frs X.stack) [] H H' s.heap s1.heap) (hokB : HOk X.prog X.w H' B) (st : B.StaysIn h2)
    (keepB : ∀ b o, s.heap.get? b = some o → H b = none → b ∉ frs X.stack → B.get? b = some o) (thereB : ∀ b o, s.heap.get? b = some o → b ∉ frs X.stack → ∃ o', B.get? b = some o') (up : s1.heap.UpToSlots h2) : Inv X pins σ H' { s1 with heap := h2 } :=
  I.call' (s' := { s1 with heap := h2 }) (ch := []) os (un_fly un st keepB thereB up (fun b hb o e => by
    obtain ⟨_, o', e', nf⟩ := I.stack.mem (show b ∈ X.stack.filterMap (·.frame) from hb)
    rw [e] at e'; cases e'; exact nf) I.stkFree) (hokB.kept st) bare fun b z => absurd z (by simp)
end

section
variable {X : Cx} {body suite : List Stmt} {b₀ : Stmt} {x : Str} {C' : Addr} {np hpos pos : Pos} {tb : TSX} {th : Addr → TS}
def tTry (K : PySem.W.Frag) (C' : Addr) (tb : TSX) (th : Addr → TS) : TS := fun D σ H => tb D (fun σ1 C _ H1 => Caught K C' C ∧ ∀ a, th a D σ1 H1) (fun _ _ _ _ => False) σ H
/-- try: .. except C: .. , every error that comes is one of C's -/
theorem ps_try (hstk : X.stack = X.env :: X.outer) (hfr : X.env.frame = some X.env.locals) (hb : PSXs X body tb) (hg : Gl X x) (hm : X.mg x = some (.ref C')) (cc : CatchCls X.K C') (hs : ∀ a, PSs (hCx X a) (b₀ :: suite) (th a))
    (hd : (x == ("__debug__" : Str)) = false := by decide) : PS X (.Try body [.ExceptHandler (some (.Name x np)) none (b₀ :: suite) hpos] [] [] pos) (tTry X.K C' tb th) := by
  intro pins s σ H D I h
  refine wpAny_Try_except (wpAny_mono (hb pins s σ H D _ _ I h) (fun f s1 q => ?_) fun e s1 q => ?_)
  · cases f with
    | next => exact wpAny_execs_nil q
    | ret v => exact q
    | brk => exact q
    | cont => exact q
  · obtain ⟨σ1, H1, s2, I2, hx⟩ := q
    rcases hx with hx | ⟨_, _, _, _, _, _, _, z⟩
    · obtain ⟨a, t, C, H', B, rfl, os, bare, un, hokB, fly, keepB, thereB, new, ⟨Ce, rfl, hsub⟩, q⟩ := hx
      have fly' := fly
      rw [hstk] at fly'
      refine wpAny_looks_onW (I2.ok.frames.trans (congrArg some hstk)) hfr fly' fun h4 held4 up4 => ?_
      refine wpAny_landsW held4 fun h5 fly5 up5 => ?_
      have I5 : Inv X pins σ1 H' { s1 with heap := h5 } := I2.landed (h1 := h4) os bare un hokB fly5.1 keepB thereB (up4.trans up5)
      refine wpAny_handleBy_cons (codeAny_handlers_test (ld_glob (X := hCx X a) (I5.held a) hg hm ?_ hd)) (by intro z; cases z)
      refine excMatches_own (s := { s1 with heap := h5 }) I5.kIn cc hsub fly5.there ?_
      refine codeAny_handlers_suite ?_
      refine lands_againW fly5 fun h6 fly6 up6 => ?_
      have I6 : Inv X pins σ1 H' { s1 with heap := h6 } := I2.landed (h1 := h4) os bare un hokB fly6.1 keepB thereB ((up4.trans up5).trans up6)
      exact wpAny_mono (hs a pins _ σ1 H' D (I6.held a) (q a)) (fun f s' q' => q'.back I6.ok) fun _ _ z => z.elim
    · exact z.elim

/-- a name is forgotten -/
theorem Inv.forget {pins : List (Addr × Obj)} {σ : St} {H : Hp} {s : Shared} {n : Str} {i : Nat} {h' : Heap} {v : Option Value} {tk : Nat} (I : Inv X pins σ H s) (hN : X.N.Nodup) (hi : X.N[i]? = some n) (m : Str → Option Value)
    (hm : s.heap.Ns X.env.locals m) (hl : ∀ (j : Nat) (y : Str) (w : V), X.N[j]? = some y → σ[j]? = some (some w) → Vis X.env.scope y → ∃ u, RelV w u ∧ Look X.env s.heap m y u)
    (hn : h'.Ns X.env.locals (fun y => if y = n then v else m y)) (sb : Heap.SameBut X.env.locals s.heap h') : Inv X pins (σ.set i none) H { s with heap := h', toks := tk } := by
  have ne0 : ∀ b o, X.s₀.heap.get? b = some o → b ≠ X.env.locals := fun b o e => Nat.ne_of_lt (Nat.lt_of_lt_of_le (Heap.lt_size e) I.ok.above)
  have u := I.base
  have cellK : ∀ y c, X.env.cells.lookup y = some c → ∀ w, s.heap.IsCell c w → h'.IsCell c w := fun y c e w ⟨o, ho, hd⟩ => ⟨o, (sb.2 c (I.cne y c e)).trans ho, hd⟩
  refine ⟨I.ok, I.os, I.bare, ⟨fun b o e n hf hx => (sb.2 b (ne0 b o e)).trans (u.keep b o e n hf hx), fun b o e n hf hx => let ⟨sl, e1⟩ := u.slot b o e n hf hx; ⟨sl, (sb.2 b (ne0 b o e)).trans e1⟩, u.free, fun b o e hx => let ⟨o', e1⟩ := u.there b o e hx; ⟨o', (sb.2 b (ne0 b o e)).trans e1⟩, u.tups, u.frzs, u.tbls⟩,
    ⟨_, hn, fun j y w e1 e2 e3 => ?_⟩, fun y c e => let ⟨w, z⟩ := I.cell y c e; ⟨w, cellK y c e w z⟩, I.free, I.freeC, fun p hp => ?_, fun a o e => ?_, ?_⟩
  · have hj : j ≠ i := fun z => by
      rw [z, List.getElem?_set_self'] at e2
      cases q : σ[i]? with
      | none => rw [q] at e2; cases e2
      | some o => rw [q] at e2; cases e2
    rw [List.getElem?_set_ne (Ne.symm hj)] at e2
    obtain ⟨w', r, lk⟩ := hl j y w e1 e2 e3
    have hy : y ≠ n := fun z => hj (nodup_ix hN e1 (z ▸ hi))
    refine ⟨w', r, ?_⟩
    rcases lk with ⟨k1, k2⟩ | ⟨k1, c, k2, k3⟩
    · exact .inl ⟨k1, by show (if y = n then v else m y) = some w'; rw [if_neg hy]; exact k2⟩
    · exact .inr ⟨k1, c, k2, cellK y c k2 _ k3⟩
  · obtain ⟨e, n, ne, nf, d⟩ := I.pin p hp
    exact ⟨(sb.2 p.1 ne).trans e, n, ne, nf, d⟩
  · refine (I.hok a o e).stay (fun b w hb z => (sb.2 b fun z2 => ?_).trans z) (fun _ z => z) fun _ _ z => z
    rw [z2] at hb
    rcases hb with hb | hb
    · rw [← hb, I.free] at e; cases e
    · rw [I.free] at hb; cases hb
  · rw [List.length_set]
    exact I.len
/-- the error under its name e (slot i), tracked at its address; behind the suite the name is gone -/
def offName (i : Nat) (D : Ends) : Ends := { nx := fun σ H => D.nx (σ.set i none) H, rt := D.rt, bk := fun σ H => D.bk (σ.set i none) H, ct := fun σ H => D.ct (σ.set i none) H }
def tTryAs (K : PySem.W.Frag) (C' : Addr) (i : Nat) (tb : TSX) (th : Addr → TS) : TS := fun D σ H => tb D (fun σ1 C _ H1 => Caught K C' C ∧ ∀ a, H1 a = none → th a (offName i D) (σ1.set i (some (.ref a))) (upd H1 a (.ext (ExcAt a C)))) (fun _ _ _ _ => False) σ H
theorem ps_tryAs {n : Str} {i : Nat} (hstk : X.stack = X.env :: X.outer) (hfr : X.env.frame = some X.env.locals) (hN : X.N.Nodup) (hi : X.N[i]? = some n) (hln : X.env.scope.names.lookup n = some .local) (hb : PSXs X body tb) (hg : Gl X x) (hm : X.mg x = some (.ref C')) (cc : CatchCls X.K C')
    (hs : ∀ a, PSs (hCx X a) (b₀ :: suite) (th a)) (hd : (x == ("__debug__" : Str)) = false := by decide) : PS X (.Try body [.ExceptHandler (some (.Name x np)) (some n) (b₀ :: suite) hpos] [] [] pos) (tTryAs X.K C' i tb th) := by
  intro pins s σ H D I h
  refine wpAny_Try_except (wpAny_mono (hb pins s σ H D _ _ I h) (fun f s1 q => ?_) fun e s1 q => ?_)
  · cases f with
    | next => exact wpAny_execs_nil q
    | ret v => exact q
    | brk => exact q
    | cont => exact q
  · obtain ⟨σ1, H1, s2, I2, hx⟩ := q
    rcases hx with hx | ⟨_, _, _, _, _, _, _, z⟩
    · obtain ⟨a, t, C, H', B, rfl, os, bare, un, hokB, fly, keepB, thereB, new, ⟨Ce, rfl, hsub⟩, q⟩ := hx
      have fly' := fly
      rw [hstk] at fly'
      have han : H' a = none := hokB.noneAt fly.2.1
      refine wpAny_looks_onW (I2.ok.frames.trans (congrArg some hstk)) hfr fly' fun h4 held4 up4 => ?_
      refine wpAny_landsW held4 fun h5 fly5 up5 => ?_
      have I5 : Inv X pins σ1 H' { s1 with heap := h5 } := I2.landed (h1 := h4) os bare un hokB fly5.1 keepB thereB (up4.trans up5)
      refine wpAny_handleBy_cons (codeAny_handlers_test (ld_glob (X := hCx X a) (I5.held a) hg hm ?_ hd)) (by intro z; cases z)
      refine excMatches_own (s := { s1 with heap := h5 }) I5.kIn cc hsub fly5.there ?_
      refine codeAny_handlers_suite_as ?_
      refine lands_againW fly5 fun h6 fly6 up6 => ?_
      have up' := (up4.trans up5).trans up6
      have nf : ∀ b ∈ frs X.stack, ∀ o, s2.heap.get? b = some o → ∀ vs, o.data ≠ .fields vs := fun b hb o e => by
        obtain ⟨_, o', e', nf⟩ := I2.stack.mem (show b ∈ X.stack.filterMap (·.frame) from hb)
        rw [e] at e'; cases e'; exact nf
      have un6 := un_fly un fly6.1 keepB thereB up' nf I2.stkFree
      have hok6 : HOk X.prog X.w H' h6 := hokB.kept fly6.1
      obtain ⟨oe, ws, hoe, hoec, hoed, _⟩ := fly6.first
      have neA : ∀ b o, s2.heap.get? b = some o → b ≠ a := fun b o e z => by rw [z, new] at e; cases e
      have neT : ∀ {b : Addr} {o : HO}, H' b = some o → b ≠ a := fun e => ne_of_none e han
      have un7 : Un (frs X.stack) [] H1 (upd H' a (.ext (ExcAt a (.ref Ce)))) s2.heap h6 := ⟨un6.keep, un6.slot, fun b o e n hx => by rw [upd_ne (neA b o e)]; exact un6.free b o e n hx, un6.there, fun b xs e => by rw [upd_ne (neT (un6.tups b xs e))]; exact un6.tups b xs e,
        fun b o xs e => by rw [upd_ne (neT (un6.frzs b o xs e))]; exact un6.frzs b o xs e, fun b ps e => let ⟨m, z⟩ := un6.tbls b ps e; ⟨m, by rw [upd_ne (neT z)]; exact z⟩⟩
      have hok7 : HOk X.prog X.w (upd H' a (.ext (ExcAt a (.ref Ce)))) h6 := fun b o e => by
        by_cases hb : b = a
        · rw [hb, upd_same] at e
          cases e
          rw [hb]
          exact ⟨⟨oe, ws, hoe, hoec, hoed⟩, ⟨oe, hoe⟩, fun g1 g2 ⟨oe', ws', z1, z2, z3⟩ k => ⟨oe', ws', k oe' z1, z2, z3⟩⟩
        · rw [upd_ne hb] at e
          exact (hok6 b o e).stay (fun _ _ _ z => z) (fun c z => by rw [upd_ne (neT z)]; exact z) fun c xs z => by rw [upd_ne (neT z)]; exact z
      have I7 : Inv X pins σ1 (upd H' a (.ext (ExcAt a (.ref Ce)))) { s1 with heap := h6 } := I2.call' (s' := { s1 with heap := h6 }) (ch := []) os un7 hok7 bare fun b z => absurd z (by simp)
      refine store_ok (X := hCx X a) (I7.held a) hN hi (.inl hln) (v := .ref a) rfl (fun s8 I8 => ?_) (.inr hln)
      refine wpAny_mono (hs a pins s8 _ _ (offName i D) I8 (q a han)) (fun f s9 q9 => ?_) fun _ _ z => z.elim
      have ok := I7.ok
      have fg : ∀ {σ' : St} {Hk : Hp} {Q' : Unit → Shared → Prop}, Inv X pins σ' Hk s9 → (∀ s', Inv X pins (σ'.set i none) Hk s' → Q' () s') → wpAny (model X.prog X.w) X.A (do bindName X.env n .none; unbindBehindTheSuite X.env n hpos) Q' X.xe s9 := fun {σ' Hk Q'} J k => by
        obtain ⟨m, hm', hl'⟩ := J.loc
        refine wpAny_nameGoes_keeps hln hm' (by rw [J.ok.kind]; rfl) fun h' v hn' sb => k _ (J.forget hN hi m hm' hl' hn' sb)
      have q9' : SP X pins (offName i D) f s9 := q9.back ok
      cases f with
      | next => obtain ⟨σ', Hk, J, q⟩ := q9'; exact fg J fun s' J' => ⟨_, _, J', q⟩
      | brk => obtain ⟨σ', Hk, J, q⟩ := q9'; exact fg J fun s' J' => ⟨_, _, J', q⟩
      | cont => obtain ⟨σ', Hk, J, q⟩ := q9'; exact fg J fun s' J' => ⟨_, _, J', q⟩
      | ret u => obtain ⟨v, σ', Hk, J, r, q⟩ := q9'; exact fg J fun s' J' => ⟨v, _, _, J', r, q⟩
    · exact z.elim
end
end L2
namespace L2
open PySem PySem.Spec PyProof.Rows

/-! ### isinstance -/
def cOf : V → Option Value
  | .ty n => some (.type n)
  | .ref a => some (.ref a)
  | _ => none
theorem cOf_rel {c : V} {u cv : Value} (r : RelV c u) (h : cOf c = some cv) : u = cv := by
  cases c <;> first | (cases h; exact r) | cases h
def rIsi (K : PySem.W.Frag) : List V → Hp → VK → Prop := fun xs H Q => ∃ x c cv t b, xs = [x, c] ∧ cOf c = some cv ∧ TyOf K H x t ∧ PySem.W.kitOne K t cv = some b ∧ Q (.bl b) H
section
variable {X : Cx}
theorem call_isi : CallR X (.builtin "isinstance") (rIsi X.K) := by
  intro pins s σ H xs us Q I r h
  obtain ⟨x, c, cv, t, b, rfl, hc, ty, e, q⟩ := h
  obtain ⟨u, u', rfl, rx, rc⟩ := vals2 r
  rw [cOf_rel rc hc]
  exact isinst_ok I rx ty e fun tk => ⟨.bl b, H, I.tok tk, rfl, q⟩

/-! ### an own error's class -/
structure ExcKit (K : PySem.W.Frag) (C : Addr) : Prop where
  cl : (PySem.W.clsIn K C).isSome = true
  ga : PySem.W.findIn K (.ref C) "__getattribute__" = some (some (.builtin "BaseException.__getattribute__"))
  gt : PySem.W.findIn K (.ref C) "__getattr__" = some none
  ac : PySem.W.findIn K (.ref C) "__class__" = some (some (.builtin "object.__class__"))
  ob : PySem.W.subIn K (.ref C) (.type "object") = some true
  be : PySem.W.subIn K (.ref C) (.type "BaseException") = some true
section
variable {prog : Program} {w : World} {A : Around} {E : Value → Shared → Prop} {h : Heap} {g : Array GenState} {d : Drawn} {t : Nat} {os : OsState} {a C : Addr} {o : Obj} {K : PySem.W.Frag}
theorem xc_get {R : Result → Shared → Prop} (KX : K.In h) (k : ExcKit K C) (hx : h.get? a = some o) (hc : o.cls = .ref C) (hq : R (.ok (.ret (.ref C))) ⟨h, g, d, t, os⟩) :
    codeAny (model prog w) A (.call (.builtin "getset_descriptor.__get__") ⟨[.builtin "object.__class__", .ref a, .ref C], []⟩) R ⟨h, g, d, t, os⟩ := by
  have hT5 : (⟨h, g, d, t, os⟩ : Shared).TypeIs (.builtin "object.__class__") "getset_descriptor" := F.typeOf_object_class
  have LO : PySem.W.Looks (model prog w) h (isSubtype (.ref C) (.type (".".intercalate ("object.__class__".cutAt '.').dropLast))) true := by
    rw [F.owner_object_class]
    exact PySem.W.looks_subIn KX k.ob
  refine codeAny_call_builtin F.slot_gs_get.plain F.entry_gs_get (F.slot_gs_get.check _ _ _ _ _ _ _ _ hT5 (F.args_gs_get _ _ _) ?_)
  repeat (any_goals (first | assumption | (with_reducible refine wpAny_loadPart_at hx ?_; rw [hc]) | with_reducible refine LO.at ?_ | wp_step))
  refine ⟨Code.quiet_builtin _ (by decide +kernel), codeAny_builtin F.entry_object_class ?_⟩
  repeat (any_goals (first | assumption | (with_reducible refine wpAny_loadPart_at hx ?_; rw [hc]) | wp_step))
theorem xc_check {M : Model} {nameV : Value} {Q : Unit → Shared → Prop} (KX : K.In h) (k : ExcKit K C) (hx : h.get? a = some o) (hc : o.cls = .ref C) (hq : Q () ⟨h, g, d, t, os⟩) :
    wpAny M A (checkBuiltinCall "BaseException.__getattribute__" ⟨[.ref a, nameV], []⟩) Q E ⟨h, g, d, t, os⟩ := by
  have hk : builtinKind "BaseException.__getattribute__" = some .slot := by decide +kernel
  have hsplit : splitId "BaseException.__getattribute__" = some ("BaseException", "__getattribute__") := by decide +kernel
  have LB : PySem.W.Looks M h (isSubtype (.ref C) (.type "BaseException")) true := PySem.W.looks_subIn KX k.be
  have ha := F.args_bexc_ga (.ref a) nameV
  simp only [checkBuiltinCall, hk, hsplit]
  refine wpAny_bind ?_
  unfold isInstance
  repeat (first | (with_reducible refine wpAny_loadPart_at hx ?_; rw [hc]) | with_reducible refine LB.at ?_ | wp_step)
  exact hq
theorem xc_entry {tk : Tok} {Q : Fin → Shared → Prop} (KX : K.In h) (k : ExcKit K C) (hx : h.get? a = some o) (hc : o.cls = .ref C) (hq : Q (.done (.ret (.ref C))) ⟨h, g, d, t, os⟩) :
    wpAny (model prog w) A (Builtin.«object.__getattribute__» ⟨[.ref a, .str "__class__" tk], []⟩) Q E ⟨h, g, d, t, os⟩ := by
  have hT5 : (⟨h, g, d, t, os⟩ : Shared).TypeIs (.builtin "object.__class__") "getset_descriptor" := F.typeOf_object_class
  have f5 := F.typeOf_object_class
  have f6 := F.slot_gs_get.lookup
  have f7 := F.slot_gs_set.lookup
  have LA : PySem.W.Looks (model prog w) h (typeLookup (.ref C) "__class__") (some (.builtin "object.__class__")) := PySem.W.looks_findIn KX k.ac
  repeat (any_goals (first | assumption | (with_reducible refine wpAny_loadPart_at hx ?_; rw [hc]) | with_reducible refine LA.at ?_ | wp_step))
  refine xc_get KX k hx hc ?_
  repeat (any_goals (first | assumption | wp_step))
theorem xc_by {tk : Tok} {fill expr : Bool} {Q : Value → Shared → Prop} (KX : K.In h) (k : ExcKit K C) (hx : h.get? a = some o) (hc : o.cls = .ref C) (hq : Q (.ref C) ⟨h, g, d, t, os⟩) :
    wpAny (model prog w) A (getAttrBy (.ref a) (.str "__class__" tk) fill expr) Q E ⟨h, g, d, t, os⟩ := by
  have f3 := F.excAttr_ValueError.ga.bind (.ref a)
  have hx0 : (expr && onTheHeap (Value.builtin "BaseException.__getattribute__")) = false := by cases expr <;> rfl
  have hx2 : (Value.builtin "BaseException.__getattribute__" == Value.builtin "object.__getattribute__") = false := by decide +kernel
  have hx1 : (onTheHeap (Value.ref C) && Value.builtin "BaseException.__getattribute__" == Value.builtin "object.__getattribute__") = false := by rw [hx2]; rfl
  have LG : PySem.W.Looks (model prog w) h (typeLookup (.ref C) "__getattribute__") (some (.builtin "BaseException.__getattribute__")) := PySem.W.looks_findIn KX k.ga
  have LT : PySem.W.Looks (model prog w) h (typeLookup (.ref C) "__getattr__") none := PySem.W.looks_findIn KX k.gt
  repeat (any_goals (first | assumption | (with_reducible refine wpAny_loadPart_at hx ?_; rw [hc]) | with_reducible refine LG.at ?_ | with_reducible refine LT.at ?_ | wp_step))
  refine codeAny_call_builtin F.excAttr_ValueError.ga.plain F.entry_bexc_ga (xc_check KX k hx hc (xc_entry KX k hx hc ?_))
  repeat (any_goals (first | assumption | wp_step))
theorem xc_attr {Q : Option Value → Shared → Prop} (KX : K.In h) (k : ExcKit K C) (hx : h.get? a = some o) (hc : o.cls = .ref C) (hq : Q (some (.ref C)) ⟨h, g, d, t + 1, os⟩) : wpAny (model prog w) A (getAttr? (.ref a) "__class__") Q E ⟨h, g, d, t, os⟩ := by
  unfold getAttr? getAttrBy?
  repeat (any_goals (first | assumption | with_reducible apply xc_by KX k hx hc | wp_step))
theorem kitx_exc (k : ExcKit K C) : PySem.W.KitX K (.ref a) (.ref C) (ExcAt a (.ref C)) where
  ty := fun M h _ ⟨oe, vs, e, c, _⟩ => c ▸ (PySem.W.Looks.ld e).andThen .now
  it := fun M h KX _ => by
    have z := k.cl
    unfold PySem.W.clsIn at z
    split at z
    · rename_i c' d' cd' sl' ho
      intro A' Q' E' s' k q
      unfold isType loadHead
      exact wpAny_bind (wpAny_loadPart (k _ _ (KX _ _ ho)) (wpAny_pure q))
    · cases z
  ne := fun h tp dd its n sl KX htp => by
    have z := k.cl
    refine Bool.eq_false_iff.mpr fun q => ?_
    have e : C = tp := Value.ref.inj (beq_iff_eq.mp q)
    subst e
    unfold PySem.W.clsIn at z
    split at z
    · rename_i c' d' cd' sl' ho
      have z2 := (KX _ _ ho).symm.trans htp
      cases z2
    · cases z
  ca := fun {prog w A E Q s} KX p q => by
    obtain ⟨oe, vs, e, c, _⟩ := p
    obtain ⟨h, g, d, t, os⟩ := s
    exact xc_attr KX k e c q
end
def rIsiX (K : PySem.W.Frag) : List V → Hp → VK → Prop := fun xs H Q => ∃ a C c cv b, xs = [.ref a, c] ∧ cOf c = some cv ∧ H a = some (.ext (ExcAt a (.ref C))) ∧ ExcKit K C ∧ PySem.W.kitOne K (.ref C) cv = some b ∧ Q (.bl b) H
theorem call_isiX : CallR X (.builtin "isinstance") (rIsiX X.K) := by
  intro pins s σ H xs us Q I r h
  obtain ⟨a, C, c, cv, b, rfl, hc, he, k, e, q⟩ := h
  obtain ⟨u, u', rfl, rx, rc⟩ := vals2 r
  rw [cOf_rel rc hc]
  cases rx
  obtain ⟨p, _, _⟩ := (show ObjOk X.prog X.w H s.heap a (.ext (ExcAt a (.ref C))) from I.hok a _ he)
  exact PySem.W.kia_one (kitx_exc k) I.kIn p e (fun z => nomatch z) fun tk => ⟨.bl b, H, I.tok tk, rfl, q⟩

/-! ### f'words {x!r}' -/
def Small (z : Str) : Prop := z.length ≤ 100000 ∧ ∀ c ∈ z.cps.toList, c < 16 ^ 8
theorem repr_fits {z : Str} (h : Small z) : (reprText z).length ≤ 1000002 := by
  have := StrLaws.reprText_len z h.2
  have := h.1
  omega
def tFmtR (a : Str) (te : TE) : TE := fun σ H Q => te σ H fun v H1 => ∃ z, v = .str z ∧ Small z ∧ Q (.str (Str.empty ++ a ++ reprText z)) H1
theorem pe_fmtR {a : Str} {j : Nat} {e : Expr} {te : TE} {p1 p3 pos : Pos} (ha : a.length ≤ 1000) (he : PE X e te) : PE X (.JoinedStr [.Constant (.str a) j p1, .FormattedValue e 114 none p3] pos) (tFmtR a te) := by
  intro pins s σ H Q I h
  have hz : (1001002 : Nat) ≤ sizeLine := by rw [sizeLine_eq]; decide
  have l0 : (Str.empty ++ a).length ≤ sizeLine := by
    rw [Str.length_append]
    have : Str.empty.length = 0 := rfl
    omega
  refine wpAny_JoinedStr ?_
  show wpAny _ _ (eval (.Constant (.str a) j p1) X.env) _ _ s
  refine Calls.Constant_str ⟨a, _, rfl, l0, ?_⟩
  show wpAny _ _ (eval (.FormattedValue e 114 none p3) X.env) _ _ _
  refine wpAny_FormattedValue_repr (thn (he pins _ σ H _ (I.tok _) h) fun u s1 ⟨v, H1, I1, r1, q1⟩ => ?_)
  obtain ⟨z, rfl, sm, q⟩ := q1
  obtain ⟨t, rfl⟩ := r1
  have rl := repr_fits sm
  have l1 : (Str.empty ++ a ++ reprText z).length ≤ sizeLine := by
    rw [Str.length_append, Str.length_append]
    have : Str.empty.length = 0 := rfl
    omega
  refine pyReprObj_str ?_ (by omega)
  have fin : ∀ t' k, ∃ y u, (Value.str (reprText z) t') = .str y u ∧ (Str.empty ++ a ++ y).length ≤ sizeLine ∧ Joins (model X.prog X.w) X.A X.xe [] (Str.empty ++ a ++ y) (fun out s₁ => out.length ≤ sizeLine ∧ EP X pins σ Q (.str out s₁.toks) { s₁ with toks := s₁.toks + 1 }) { s1 with toks := k } :=
    fun t' k => ⟨_, _, rfl, l1, l1, ⟨.str _, H1, (I1.tok k).tok _, ⟨_, rfl⟩, q⟩⟩
  exact wpAny_formatField_str (fin _ _) (fin _ _) (by omega)
end
end L2
/-! Numbers and their texts: the mathematics. -/
namespace Fig
open PySem PySem.NumText

/-- the codes of n's figures -/
def dig (n : Nat) : List Nat := (Nat.toDigits 10 n).map Char.toNat
/-- the last k figures of r -/
def digs : Nat → Nat → List Nat
  | 0, _ => []
  | k + 1, r => digs k (r / 10) ++ [48 + r % 10]

theorem digChar : ∀ d : Nat, d < 10 → (Nat.digitChar d).toNat = 48 + d := by decide
theorem dig_lt {n : Nat} (h : n < 10) : dig n = [48 + n] := by
  unfold dig
  rw [Nat.toDigits_of_lt_base h]
  show [(Nat.digitChar n).toNat] = _
  rw [digChar n h]
theorem dig_ge {n : Nat} (h : 10 ≤ n) : dig n = dig (n / 10) ++ [48 + n % 10] := by
  have hm : n % 10 < 10 := by omega
  have t : Nat.toDigits 10 (n / 10) ++ Nat.toDigits 10 (n % 10) = Nat.toDigits 10 (10 * (n / 10) + n % 10) := Nat.toDigits_append_toDigits (by decide) (by omega) hm
  rw [Nat.div_add_mod] at t
  unfold dig
  rw [← t, List.map_append, Nat.toDigits_of_lt_base hm]
  show _ ++ [(Nat.digitChar (n % 10)).toNat] = _
  rw [digChar _ hm]
theorem dig_val (n : Nat) : digitsVal (dig n) = n := PySem.W.KIN.val_back n
theorem dig_digits (n : Nat) : AllDigits (dig n) := by
  induction n using Nat.strongRecOn with
  | ind n ih =>
    by_cases h : n < 10
    · rw [dig_lt h]
      intro c hc
      have : c = 48 + n := by simpa using hc
      omega
    · rw [dig_ge (by omega)]
      intro c hc
      rcases List.mem_append.mp hc with z | z
      · exact ih (n / 10) (by omega) c z
      · have : c = 48 + n % 10 := by simpa using z
        omega
theorem dig_head (n : Nat) : ∃ c r, dig n = c :: r ∧ (0 < n → 49 ≤ c) := by
  induction n using Nat.strongRecOn with
  | ind n ih =>
    by_cases h : n < 10
    · exact ⟨48 + n, [], dig_lt h, fun z => by omega⟩
    · obtain ⟨c, r, e, k⟩ := ih (n / 10) (by omega)
      exact ⟨c, r ++ [48 + n % 10], by rw [dig_ge (by omega), e]; rfl, fun _ => k (by omega)⟩
theorem dig_ne (n : Nat) : dig n ≠ [] := by
  obtain ⟨c, r, e, _⟩ := dig_head n
  rw [e]
  exact List.cons_ne_nil _ _
theorem dig_len_pos (n : Nat) : 1 ≤ (dig n).length := by
  obtain ⟨c, r, e, _⟩ := dig_head n
  rw [e]
  exact Nat.succ_le_succ (Nat.zero_le _)
theorem digs_length (k r : Nat) : (digs k r).length = k := by
  induction k generalizing r with
  | zero => rfl
  | succ k ih =>
    unfold digs
    rw [List.length_append, ih]
    rfl
theorem digs_digits (k r : Nat) : AllDigits (digs k r) := by
  induction k generalizing r with
  | zero => intro c hc; exact absurd hc (by unfold digs; simp)
  | succ k ih =>
    unfold digs
    intro c hc
    rcases List.mem_append.mp hc with z | z
    · exact ih _ c z
    · have : c = 48 + r % 10 := by simpa using z
      omega
theorem digs_zero (k : Nat) : digs k 0 = List.replicate k 48 := by
  induction k with
  | zero => rfl
  | succ k ih =>
    unfold digs
    rw [show 0 / 10 = 0 from rfl, ih]
    show List.replicate k 48 ++ [48] = _
    rw [List.replicate_succ']
/-- the figures of 10^k * q + r -/
theorem dig_pad (k : Nat) : ∀ q r : Nat, 0 < q → r < 10 ^ k → dig (10 ^ k * q + r) = dig q ++ digs k r := by
  induction k with
  | zero =>
    intro q r hq hr
    have : r = 0 := by simpa using hr
    subst this
    rw [Nat.pow_zero, Nat.one_mul, Nat.add_zero]
    show _ = dig q ++ []
    rw [List.append_nil]
  | succ k ih =>
    intro q r hq hr
    have h10 : (10 : Nat) ^ (k + 1) = 10 * 10 ^ k := by rw [Nat.pow_succ, Nat.mul_comm]
    have hp : 0 < (10 : Nat) ^ k := Nat.pow_pos (by decide)
    have e0 : 10 ^ (k + 1) * q + r = 10 * (10 ^ k * q + r / 10) + r % 10 := by
      rw [h10, Nat.mul_add, Nat.mul_assoc]
      omega
    have big : 1 ≤ 10 ^ k * q := Nat.mul_pos hp hq
    have hr' : r / 10 < 10 ^ k := by rw [h10] at hr; omega
    rw [e0, dig_ge (by omega)]
    have e1 : (10 * (10 ^ k * q + r / 10) + r % 10) / 10 = 10 ^ k * q + r / 10 := by omega
    have e2 : (10 * (10 ^ k * q + r / 10) + r % 10) % 10 = r % 10 := by omega
    rw [e1, e2, ih q (r / 10) hq hr', List.append_assoc]
    rfl
/-- str(r).zfill(k) -/
theorem pad_eq (k : Nat) : ∀ r : Nat, 0 < k → r < 10 ^ k → (dig r).length ≤ k ∧ List.replicate (k - (dig r).length) 48 ++ dig r = digs k r := by
  induction k with
  | zero => intro r hk; exact absurd hk (by decide)
  | succ k ih =>
    intro r _ hr
    have h10 : (10 : Nat) ^ (k + 1) = 10 * 10 ^ k := by rw [Nat.pow_succ, Nat.mul_comm]
    by_cases h : r < 10
    · rw [dig_lt h]
      have e1 : r / 10 = 0 := by omega
      have e2 : r % 10 = r := by omega
      refine ⟨by simp, ?_⟩
      show List.replicate (k + 1 - 1) 48 ++ [48 + r] = digs k (r / 10) ++ [48 + r % 10]
      rw [e1, e2, digs_zero]
      rfl
    · by_cases hk : k = 0
      · subst hk
        rw [Nat.pow_succ, Nat.pow_zero] at hr
        omega
      · obtain ⟨i1, i2⟩ := ih (r / 10) (by omega) (by rw [h10] at hr; omega)
        rw [dig_ge (by omega), List.length_append]
        refine ⟨by simp; omega, ?_⟩
        have e : k + 1 - ((dig (r / 10)).length + [48 + r % 10].length) = k - (dig (r / 10)).length := by simp
        rw [e, ← List.append_assoc, i2]
        rfl
theorem val_from (cs : List Nat) : ∀ a : Nat, cs.foldl (fun acc c => acc * 10 + (c - 48)) a = a * 10 ^ cs.length + digitsVal cs := by
  induction cs with
  | nil => intro a; show a = a * 10 ^ 0 + 0; rw [Nat.pow_zero]; omega
  | cons c r ih =>
    intro a
    show r.foldl _ (a * 10 + (c - 48)) = _
    rw [ih]
    have e : digitsVal (c :: r) = r.foldl (fun acc c => acc * 10 + (c - 48)) (0 * 10 + (c - 48)) := rfl
    rw [e, ih, List.length_cons, Nat.pow_succ, Nat.zero_mul, Nat.zero_add, Nat.add_mul, Nat.mul_comm (10 ^ r.length) 10, ← Nat.mul_assoc]
    omega
theorem val_app (a b : List Nat) : digitsVal (a ++ b) = digitsVal a * 10 ^ b.length + digitsVal b := by
  unfold digitsVal
  rw [List.foldl_append, val_from b]
  rfl
theorem val_lt {cs : List Nat} (h : AllDigits cs) : digitsVal cs < 10 ^ cs.length := by
  induction cs with
  | nil => decide
  | cons c r ih =>
    have hc := h.head
    have hr := ih h.tail
    have e : digitsVal (c :: r) = (0 * 10 + (c - 48)) * 10 ^ r.length + digitsVal r := val_from r _
    rw [e, List.length_cons, Nat.pow_succ, Nat.zero_mul, Nat.zero_add, Nat.mul_comm (10 ^ r.length) 10]
    have : (c - 48) * 10 ^ r.length ≤ 9 * 10 ^ r.length := Nat.mul_le_mul_right _ (by omega)
    omega

/-! ### the texts that write a number (point 2) -/
def allDig (cs : List Nat) : Bool := cs.all fun c => decide (48 ≤ c) && decide (c ≤ 57)
theorem allDig_iff {cs : List Nat} : allDig cs = true ↔ AllDigits cs := by
  unfold allDig AllDigits
  rw [List.all_eq_true]
  constructor
  · intro h c hc
    have := h c hc
    simpa using this
  · intro h c hc
    have := h c hc
    simpa using this
def figs (cs : List Nat) : List Nat := if cs.head? = some 45 then cs.tail else cs
def isNum (cs : List Nat) : Bool := decide (cs = [48]) || (!decide (figs cs = []) && !decide ((figs cs).head? = some 48) && allDig (figs cs))
def valOf (cs : List Nat) : Int := if cs.head? = some 45 then -((digitsVal cs.tail : Nat) : Int) else ((digitsVal cs : Nat) : Int)
def numIn (cs : List Nat) : Option Int := if isNum cs = true then some (valOf cs) else none
/-- the codes of n's text -/
def codesOf (n : Int) : List Nat := if n < 0 then 45 :: dig (-n).toNat else dig n.toNat
theorem codesOf_num (n : Int) : isNum (codesOf n) = true ∧ valOf (codesOf n) = n := by
  unfold codesOf
  by_cases h : n < 0
  · rw [if_pos h]
    obtain ⟨c, r, e, k⟩ := dig_head (-n).toNat
    have k' := k (by omega)
    have hd := dig_digits (-n).toNat
    have f : figs (45 :: dig (-n).toNat) = dig (-n).toNat := rfl
    refine ⟨?_, ?_⟩
    · unfold isNum
      rw [f, allDig_iff.mpr hd, e]
      have h1 : ¬ (c :: r : List Nat) = [] := List.cons_ne_nil _ _
      have h2 : ¬ (c :: r : List Nat).head? = some 48 := by
        intro z
        have : c = 48 := by simpa using z
        omega
      rw [decide_eq_false h1, decide_eq_false h2]
      simp
    · unfold valOf
      rw [if_pos (show (45 :: dig (-n).toNat).head? = some 45 from rfl)]
      show -((digitsVal (dig (-n).toNat) : Nat) : Int) = n
      rw [dig_val]
      omega
  · rw [if_neg h]
    obtain ⟨c, r, e, k⟩ := dig_head n.toNat
    have hd := dig_digits n.toNat
    have hc := hd c (by rw [e]; exact List.mem_cons_self)
    have h45 : ¬ (dig n.toNat).head? = some 45 := by
      rw [e]
      intro z
      have : c = 45 := by simpa using z
      omega
    have f : figs (dig n.toNat) = dig n.toNat := if_neg h45
    refine ⟨?_, ?_⟩
    · by_cases hz : n = 0
      · subst hz
        have e0 : dig (0 : Int).toNat = [48] := dig_lt (by decide)
        unfold isNum
        rw [e0]
        rfl
      · have k' := k (by omega)
        unfold isNum
        rw [f, allDig_iff.mpr hd, e]
        have h1 : ¬ (c :: r : List Nat) = [] := List.cons_ne_nil _ _
        have h2 : ¬ (c :: r : List Nat).head? = some 48 := by
          intro z
          have : c = 48 := by simpa using z
          omega
        rw [decide_eq_false h1, decide_eq_false h2]
        simp
    · unfold valOf
      rw [if_neg h45, dig_val]
      omega

/-! ### group by group -/
theorem take_more (cs : List Nat) (a : Nat) (h : a + 9 ≤ cs.length) : digitsVal (cs.take (a + 9)) = digitsVal (cs.take a) * 1000000000 + digitsVal ((cs.drop a).take 9) := by
  rw [List.take_add, val_app, List.length_take, List.length_drop]
  have e : min 9 (cs.length - a) = 9 := by omega
  rw [e]
theorem group_count (n : Nat) : ((((n : Int) - ((n % 9 : Nat) : Int) - 1) / 9 + 1).toNat = n / 9 ∨ n % 9 = n) ∧ n % 9 + 9 * (n / 9) = n := by
  refine ⟨?_, by omega⟩
  by_cases h : n / 9 = 0
  · exact .inr (by omega)
  · refine .inl ?_
    omega
/-- number // GROUP, number % GROUP -/
theorem dig_group {n : Int} (h : 1000000000 ≤ n) : dig n.toNat = dig (n / 1000000000).toNat ++ digs 9 (n % 1000000000).toNat := by
  have e : n.toNat = 10 ^ 9 * (n / 1000000000).toNat + (n % 1000000000).toNat := by
    have : (10 : Nat) ^ 9 = 1000000000 := by decide
    rw [this]
    omega
  rw [e]
  have h2 : (10 : Nat) ^ 9 = 1000000000 := by decide
  exact dig_pad 9 _ _ (by omega) (by rw [h2]; omega)
theorem dig_len_le {n : Nat} (k : Nat) (hk : 0 < k) (h : n < 10 ^ k) : (dig n).length ≤ k := (pad_eq k n hk h).1
end Fig
namespace L2
open PySem PySem.Spec PyProof.Rows
section
variable {X : Cx}
theorem ints_are : ∀ {ns : List Int} {us : List Value}, Vals (ns.map V.int) us → IntsAre us ns
  | [], _, .nil => .nil
  | n :: ns, _, .cons r t => by
    obtain ⟨k, rfl⟩ := r
    exact .cons n k (ints_are t)
/-- two lists of ints compared -/
theorem op_eqL (hu : X.A.units + 64 < cLine) : OpR X (compareOp .Eq) (fun x y H Q => ∃ (a b : Addr) (ns ms : List Int), x = .ref a ∧ y = .ref b ∧ SqL X.K H a (ns.map V.int) ∧ SqL X.K H b (ms.map V.int) ∧ Q (.bl (decide (ns = ms))) H) := by
  intro pins s σ H x y v u Q I rx ry h
  obtain ⟨a, b, ns, ms, rfl, rfl, ha, hb, q⟩ := h
  cases rx
  cases ry
  obtain ⟨its, r, pl, hz⟩ := I.list ha
  obtain ⟨its2, r2, pl2, hz2⟩ := I.list hb
  exact PySem.W.ke_eq_ints pl.isList pl2.isList (ints_are r) (ints_are r2) hu ⟨.bl _, H, I, rfl, q⟩
theorem op_neL (hu : X.A.units + 64 < cLine) : OpR X (compareOp .NotEq) (fun x y H Q => ∃ (a b : Addr) (ns ms : List Int), x = .ref a ∧ y = .ref b ∧ SqL X.K H a (ns.map V.int) ∧ SqL X.K H b (ms.map V.int) ∧ Q (.bl (!decide (ns = ms))) H) := by
  intro pins s σ H x y v u Q I rx ry h
  obtain ⟨a, b, ns, ms, rfl, rfl, ha, hb, q⟩ := h
  cases rx
  cases ry
  obtain ⟨its, r, pl, hz⟩ := I.list ha
  obtain ⟨its2, r2, pl2, hz2⟩ := I.list hb
  exact PySem.W.ke_ne_ints pl.isList pl2.isList (ints_are r) (ints_are r2) hu ⟨.bl _, H, I, rfl, q⟩
theorem op_mulB : OpR X (binaryOp .Mult) (rI IntMulOk fun i j => .int (i * j)) := opI fun _ _ _ _ _ _ _ hc q => mul_int q hc
end
/-- an if whose test is known by R -/
theorem ifS {t : TT} {a b : TS} {D : Ends} {σ : St} {H : Hp} (R : Bool → Hp → Prop) (h : ∀ Q' : Bool → Hp → Prop, (∀ c H', R c H' → Q' c H') → t σ H Q') (ha : ∀ H', R true H' → a D σ H') (hb : ∀ H', R false H' → b D σ H') : tIfS t a b D σ H := by
  refine h _ fun c H' r => ?_
  cases c with
  | true => exact iteT (ha H' r)
  | false => exact iteF (hb H' r)
/-- while, by a word, a measure, and what the test tells -/
theorem while_t {c : TT} {tb : TS} {D : Ends} {σ : St} {H : Hp} (Pv : St → Hp → Prop) (μ : St → Hp → Nat) (R : St → Hp → Bool → Hp → Prop) (h0 : Pv σ H)
    (ht : ∀ σ H, Pv σ H → ∀ Q' : Bool → Hp → Prop, (∀ b H1, R σ H b H1 → Q' b H1) → c σ H Q')
    (hb : ∀ σ H H1, Pv σ H → R σ H true H1 → tb { D with nx := fun σ' H' => Pv σ' H' ∧ μ σ' H' < μ σ H, ct := fun σ' H' => Pv σ' H' ∧ μ σ' H' < μ σ H, bk := D.nx } σ H1)
    (he : ∀ σ H H1, Pv σ H → R σ H false H1 → D.nx σ H1) : tWhile c tb D σ H := by
  refine ⟨fun m σ H => m = μ σ H ∧ Pv σ H, ⟨_, rfl, h0⟩, ?_⟩
  rintro m σ H ⟨rfl, p⟩
  refine ht σ H p _ fun b H1 r => ?_
  cases b with
  | true => exact ⟨_, fun σ' H' ⟨p', l⟩ => ⟨_, l, rfl, p'⟩, hb σ H H1 p r⟩
  | false => exact he σ H H1 p r
end L2
namespace L2
open PySem PySem.Spec PyProof.Rows
/-! ### a comprehension without names from around; pure elements -/
def plainScope (scope : Scope) (x : Str) : Bool := scope.kind == .function && scope.names.all (fun y => y.2 != .free && y.2 != .cell && (y.2 != .local || scope.names.lookup y.1 == some .local)) && scope.names.lookup x == some .local
theorem relabel_free {scope : Scope} {env : Env} (h : ∀ y ∈ scope.names, y.2 ≠ .free) : (relabel scope env).names = scope.names := by
  unfold relabel
  exact map_eq_self fun x hx => by
    obtain ⟨n, k⟩ := x
    have : (k == NameKind.free) = false := by simpa using h _ hx
    simp [this]
theorem compOk0 {X : Cx} {scope : Scope} {x : Str} (h : plainScope scope x = true) : CompOk X [x] [] x scope [] := by
  unfold plainScope at h
  rw [Bool.and_eq_true, Bool.and_eq_true] at h
  obtain ⟨⟨h1, h2⟩, h3⟩ := h
  have al := List.all_eq_true.mp h2
  have fr : ∀ y ∈ scope.names, y.2 ≠ .free := fun y hy z => by
    have := al y hy
    rw [z] at this
    simp at this
  have ce : ∀ y ∈ scope.names, y.2 ≠ .cell := fun y hy z => by
    have := al y hy
    rw [z] at this
    simp at this
  refine ⟨closureFor_none fr, (by simpa using h1), ce, fun y hy z => ?_, (by simpa using h3), fun y c e => (nomatch e), fun p hp z => ?_, (by simp), rfl, fun k y e => ?_, rfl⟩
  · have := al y hy
    rw [z] at this
    simpa using this
  · rw [relabel_free fr] at hp
    rcases z with z | z
    · exact absurd z (ce p hp)
    · exact absurd z (fr p hp)
  · simp at e
/-- x if c else y, where both ways give v -/
theorem tIf_val {t : TT} {ta tb : TE} {σ : St} {H : Hp} {Q : VK} (v : V) (c : Bool) (ht : ∀ Q' : Bool → Hp → Prop, Q' c H → t σ H Q') (h1 : c = true → ∀ Q' : VK, Q' v H → ta σ H Q') (h2 : c = false → ∀ Q' : VK, Q' v H → tb σ H Q') (q : Q v H) : tIf t ta tb σ H Q := by
  refine ht _ ?_
  cases c with
  | true => exact h1 rfl Q q
  | false => exact h2 rfl Q q
theorem lc_vals {n : Nat} {f : Nat → V} {js : List Nat} {telt : TE} {σ : St} {H : Hp} {Q : VK} {D : Addr} (g : Nat → V) (hn : n ≤ sizeLine)
    (step : ∀ i H' (Q' : VK), i < n → Q' (g i) H' → telt (some (f i) :: capt σ js) H' Q') (q : Q (.ref D) (upd H D (.lst ((List.range n).map g)))) :
    ∃ W : Nat → Nat → List V → Hp → Prop, (∃ m, W 0 m [] (upd H D (.lst []))) ∧
      ∀ i m ys Hk, W i m ys Hk → ((Itv n f).stop i Hk ∧ Q (.ref D) Hk) ∨ ((Itv n f).go i Hk ∧ ys.length < sizeLine ∧ ∀ x H', (Itv n f).yld i Hk x H' → telt (some x :: capt σ js) H' fun y H2 => H2 D = some (.lst ys) ∧ ∃ m', m' < m ∧ W (i + 1) m' (ys ++ [y]) (upd H2 D (.lst (ys ++ [y])))) := by
  refine ⟨fun i m ys Hk => m = n - i ∧ i ≤ n ∧ ys = (List.range i).map g ∧ Hk = upd H D (.lst ys), ⟨n, rfl, Nat.zero_le _, rfl, rfl⟩, ?_⟩
  rintro i m ys Hk ⟨rfl, hi, rfl, rfl⟩
  by_cases hlt : i < n
  · refine .inr ⟨hlt, by rw [List.length_map, List.length_range]; omega, fun x H' y => ?_⟩
    obtain ⟨rfl, rfl⟩ := y
    refine step i _ _ hlt ⟨upd_same, n - (i + 1), by omega, rfl, hlt, ?_, by rw [upd_upd]⟩
    rw [List.range_succ, List.map_append]
    rfl
  · have e : i = n := by omega
    subst e
    exact .inl ⟨Nat.le_refl _, q⟩
theorem lc_list {K : PySem.W.Frag} {a : Addr} {xs : List V} {js : List Nat} {telt : TE} {σ : St} {H : Hp} {Q : VK} {D : Addr} (g : V → V) (hD : H D = none) (hS : SqL K H a xs) (hn : xs.length ≤ sizeLine)
    (step : ∀ x H' (Q' : VK), x ∈ xs → Q' (g x) H' → telt (some x :: capt σ js) H' Q') (q : Q (.ref D) (upd H D (.lst (xs.map g)))) :
    ∃ W : Nat → Nat → List V → Hp → Prop, (∃ m, W 0 m [] (upd H D (.lst []))) ∧
      ∀ i m ys Hk, W i m ys Hk → ((Itl K a).stop i Hk ∧ Q (.ref D) Hk) ∨ ((Itl K a).go i Hk ∧ ys.length < sizeLine ∧ ∀ x H', (Itl K a).yld i Hk x H' → telt (some x :: capt σ js) H' fun y H2 => H2 D = some (.lst ys) ∧ ∃ m', m' < m ∧ W (i + 1) m' (ys ++ [y]) (upd H2 D (.lst (ys ++ [y])))) := by
  have keep : ∀ zs, SqL K (upd H D (.lst zs)) a xs := fun zs => by
    rcases hS with (h | ⟨o, h⟩) | h
    · exact .inl (.inl (by rw [upd_ne (ne_of_none h hD)]; exact h))
    · exact .inl (.inr ⟨o, by rw [upd_ne (ne_of_none h hD)]; exact h⟩)
    · exact .inr h
  refine ⟨fun i m ys Hk => m = xs.length - i ∧ i ≤ xs.length ∧ ys = (xs.take i).map g ∧ Hk = upd H D (.lst ys), ⟨xs.length, rfl, Nat.zero_le _, by simp, rfl⟩, ?_⟩
  rintro i m ys Hk ⟨rfl, hi, rfl, rfl⟩
  by_cases hlt : i < xs.length
  · refine .inr ⟨⟨xs, xs[i], keep _, by simp [hlt]⟩, by rw [List.length_map, List.length_take]; omega, fun x H' y => ?_⟩
    obtain ⟨rfl, y⟩ := y
    have hx := y xs (keep _)
    have hm : x ∈ xs := List.mem_of_getElem? hx
    refine step x _ _ hm ⟨upd_same, xs.length - (i + 1), by omega, rfl, hlt, ?_, by rw [upd_upd]⟩
    rw [List.take_add_one, hx, List.map_append]
    rfl
  · have e : i = xs.length := by omega
    subst e
    rw [List.take_length]
    exact .inl ⟨⟨xs, keep _, Nat.le_refl _⟩, q⟩
theorem tLC_str {tl telt : TE} {js : List Nat} {σ : St} {H : Hp} {Q : VK} (z : Str) (g : Nat → V) (hv : ∀ Q' : VK, Q' (.str z) H → tl σ H Q') (hn : z.cps.size ≤ sizeLine)
    (step : ∀ i H' (Q' : VK), i < z.cps.size → Q' (g i) H' → telt (some (signV z i) :: capt σ js) H' Q') (q : ∀ D, H D = none → Q (.ref D) (upd H D (.lst ((List.range z.cps.size).map g)))) : tLC (iStr tl) js telt σ H Q :=
  hv _ ⟨z, rfl, fun D hD => lc_vals (Q := Q) g hn step (q D hD)⟩
theorem tLC_list {K : PySem.W.Frag} {tl telt : TE} {js : List Nat} {σ : St} {H : Hp} {Q : VK} (a : Addr) (xs : List V) (g : V → V) (hv : ∀ Q' : VK, Q' (.ref a) H → tl σ H Q') (hS : SqL K H a xs) (hn : xs.length ≤ sizeLine)
    (step : ∀ x H' (Q' : VK), x ∈ xs → Q' (g x) H' → telt (some x :: capt σ js) H' Q') (q : ∀ D, H D = none → Q (.ref D) (upd H D (.lst (xs.map g)))) : tLC (iList K tl) js telt σ H Q :=
  hv _ ⟨a, rfl, ⟨xs, hS⟩, fun D hD => lc_list (Q := Q) g hD hS hn step (q D hD)⟩
end L2
namespace L2
open PySem PySem.Spec PyProof.Rows
/-- one statement, then the rest: R is what holds between -/
theorem seq {t u : TS} {D : Ends} {σ : St} {H : Hp} (R : St → Hp → Prop) (h : ∀ D' : Ends, D'.rt = D.rt → (∀ σ' H', R σ' H' → D'.nx σ' H') → t D' σ H) (q : ∀ σ' H', R σ' H' → u D σ' H') : tSeq t u D σ H := h { D with nx := u D } rfl q
end L2
namespace L2
open PySem PySem.Spec PyProof.Rows
/-- a def of the text at its global name -/
def DefAt (K : PySem.W.Frag) (x : Str) (st : Stmt) : Prop := ∃ f fd, Fun K x x st f fd ∧ PySem.W.nsIn K mainGlobals x = some (some (.ref f))
theorem def_mk {K : PySem.W.Frag} {x : Str} {st : Stmt} {f : Addr} {oc : Value} {od an : Option Addr} {osl : Array (Option Value)} {kV doc pm cdv ct : Value} (a : PySem.W.nsIn K mainGlobals x = some (some (.ref f)))
    (l : K.lookup f = some ⟨oc, od, .func (PySem.W.fnOf x x (defArgs st) (defBody st) (defScope st) .none kV doc pm an cdv ct), osl⟩) (c : PySem.W.codeIn K cdv x = true) (k : PySem.W.keepIn K (.ref f) = true) : DefAt K x st :=
  ⟨f, _, fun_mk (st := st) l c k, a⟩
theorem catch_mk {K : PySem.W.Frag} {C : Addr} {cd : ClassData} (c : PySem.W.clsIn K C = some cd) (t : PySem.W.typeIn K (.ref C) = some (.type "type")) (b : PySem.W.subIn K (.ref C) (.type "BaseException") = some true) : CatchCls K C := ⟨by rw [c]; rfl, t, b⟩
theorem exck_mk {K : PySem.W.Frag} {C : Addr} {cd : ClassData} (c : PySem.W.clsIn K C = some cd) (h1 : PySem.W.findIn K (.ref C) "__getattribute__" = some (some (.builtin "BaseException.__getattribute__"))) (h2 : PySem.W.findIn K (.ref C) "__getattr__" = some none)
    (h3 : PySem.W.findIn K (.ref C) "__class__" = some (some (.builtin "object.__class__"))) (h4 : PySem.W.subIn K (.ref C) (.type "object") = some true) (h5 : PySem.W.subIn K (.ref C) (.type "BaseException") = some true) : ExcKit K C := ⟨by rw [c]; rfl, h1, h2, h3, h4, h5⟩
end L2
namespace Rp
open PySem PySem.NumText L2 Fig
theorem line_big : (2000000 : Nat) ≤ sizeLine := by rw [sizeLine_eq]; decide
theorem txt_len (z : Str) : z.cps.toList.length = z.length := by simp [Str.length]
theorem app_codes (a b : Str) : (a ++ b).cps.toList = a.cps.toList ++ b.cps.toList := PySem.W.KT.app_list a b
theorem str_codes {n : Int} (h : 0 ≤ n) : (Str.ofString (toString n)).cps.toList = dig n.toNat := by
  obtain ⟨m, rfl⟩ := Int.eq_ofNat_of_zero_le h
  exact PySem.W.KIN.signs_num m
theorem log_small {n : Int} (h0 : 0 ≤ n) (h : n < 1000000000) : n.natAbs.log2 < 1920 := by
  have : n.natAbs < 2 ^ 30 := by omega
  by_cases hz : n.natAbs = 0
  · rw [hz]; decide
  · have := (Nat.log2_lt hz).mpr this
    omega
theorem zfill_codes {z : Str} {r : Nat} (h : z.cps.toList = dig r) (hr : r < 1000000000) : (Txt.zfill z 9).cps.toList = digs 9 r := by
  obtain ⟨p1, p2⟩ := pad_eq 9 r (by decide) (by simpa using hr)
  have hl : z.length = (dig r).length := by rw [← txt_len, h]
  unfold Txt.zfill
  by_cases hc : (9 : Int) ≤ (z.length : Int)
  · rw [if_pos hc, h, ← p2]
    have e : 9 - (dig r).length = 0 := by omega
    rw [e]
    rfl
  · rw [if_neg hc]
    unfold zfilled
    obtain ⟨c, rr, e, _⟩ := dig_head r
    have hcd := dig_digits r c (by rw [e]; exact List.mem_cons_self)
    have h0 : z.cps[0]? = some c := by
      have : z.cps.toList[0]? = some c := by rw [h, e]; rfl
      simpa using this
    rw [h0]
    have k : (9 : Int).toNat - z.length = 9 - (dig r).length := by rw [hl]; rfl
    have fin : (Builtin.Str.padded z ((9 : Int).toNat - z.length) 0 48).cps.toList = digs 9 r := by
      rw [k, ← p2, ← h]
      unfold Builtin.Str.padded
      simp
    split
    · rename_i z1; cases z1; omega
    · rename_i z1; cases z1; omega
    · exact fin


theorem b_str : bootBuiltins "str" = some (.type "str") := by decide +kernel
theorem b_int : bootBuiltins "int" = some (.type "int") := by decide +kernel
theorem b_bool : bootBuiltins "bool" = some (.type "bool") := by decide +kernel
theorem b_all : bootBuiltins "all" = some (.builtin "all") := by decide +kernel
theorem b_isi : bootBuiltins "isinstance" = some (.builtin "isinstance") := by decide +kernel
theorem b_verr : bootBuiltins "ValueError" = some (.type "ValueError") := by decide +kernel
section
variable {X : Cx} {x : Str} {pos : Pos}
theorem pg_int (i : Int) (h : ∃ t, X.mg x = some (.int i t)) (hg : Gl X x := by rfl) (hd : (x == ("__debug__" : Str)) = false := by decide) : PE X (.Name x pos) (tC (.int i)) := by
  obtain ⟨t, h⟩ := h
  exact pe_glob hg h ⟨t, rfl⟩ hd
theorem pg_str (z : Str) (h : ∃ t, X.mg x = some (.str z t)) (hg : Gl X x := by rfl) (hd : (x == ("__debug__" : Str)) = false := by decide) : PE X (.Name x pos) (tC (.str z)) := by
  obtain ⟨t, h⟩ := h
  exact pe_glob hg h ⟨t, rfl⟩ hd
end
/-! ### slices of a text -/
theorem sl_from (z : Str) (h : 1 ≤ z.length) : (Txt.slice z (some 1) none).cps.toList = z.cps.toList.drop 1 := by
  have e := StrLaws.sliceText_from (x := z) (i := 1) ⟨by decide, by rw [txt_len]; omega⟩
  have e2 : Txt.slice z (some 1) none = _ := e
  rw [e2]
  show (List.take _ (List.drop 1 z.cps.toList)) = _
  refine List.take_of_length_le ?_
  rw [List.length_drop]
  omega
theorem sl_to (z : Str) {j : Int} (h0 : 0 ≤ j) (h : j ≤ z.length) : (Txt.slice z none (some j)).cps.toList = z.cps.toList.take j.toNat := by
  have e := StrLaws.sliceText_to (x := z) (j := j) ⟨h0, by rw [txt_len]; exact h⟩
  have e2 : Txt.slice z none (some j) = _ := e
  rw [e2]
  show (List.take (j - 0).toNat (List.drop 0 z.cps.toList)) = _
  rw [List.drop_zero, Int.sub_zero]
theorem sl_mid (z : Str) {i j : Int} (h0 : 0 ≤ i) (h1 : i ≤ j) (h : j ≤ z.length) : (Txt.slice z (some i) (some j)).cps.toList = (z.cps.toList.drop i.toNat).take (j - i).toNat := by
  have e := StrLaws.sliceText_plain (x := z) (i := i) (j := j) ⟨h0, h1, by rw [txt_len]; exact h⟩
  have e2 : Txt.slice z (some i) (some j) = _ := e
  rw [e2]
theorem digits_sub {cs : List Nat} (h : AllDigits cs) (i j : Nat) : AllDigits ((cs.drop i).take j) := fun c hc => h c (List.mem_of_mem_drop (List.mem_of_mem_take hc))
theorem int_of {z : Str} (h : AllDigits z.cps.toList) (h1 : z.cps.toList ≠ []) (h2 : z.length ≤ 640) : intText? z = some ((digitsVal z.cps.toList : Nat) : Int) := intText_digits h h1 (Nat.le_trans h2 (by decide))

theorem same_new {H : Hp} {p : Addr} (h : H p = none) (o : HO) : Same H (upd H p o) := fun b u q => by rw [upd_ne (ne_of_none q h)]; exact q
theorem ext_codes {a b : Str} (h : a.cps.toList = b.cps.toList) : a = b := PyProof.Rows.ext_toList h
theorem dec_str_codes (a b : Str) : decide (V.str a = V.str b) = decide (a.cps.toList = b.cps.toList) := by
  by_cases h : a.cps.toList = b.cps.toList
  · have e := ext_codes h
    subst e
    simp
  · have h2 : ¬ V.str a = V.str b := fun e => h (by injection e with e; rw [e])
    rw [decide_eq_false h, decide_eq_false h2]
theorem sw_one (a : Str) (c : Nat) : Txt.startswith a ⟨#[c]⟩ = decide (a.cps.toList.head? = some c) := by
  unfold Txt.startswith
  rw [StrLaws.subAt_eq]
  have hl : (⟨#[c]⟩ : Str).length = 1 := rfl
  rw [hl, List.drop_zero]
  have z := txt_len a
  cases e : a.cps.toList with
  | nil =>
    rw [e] at z
    have : ¬ (0 + 1 ≤ a.length) := by rw [← z]; simp
    simp [this]
  | cons d r =>
    rw [e] at z
    have : 0 + 1 ≤ a.length := by rw [← z]; simp
    rw [decide_eq_true this]
    by_cases hd : d = c
    · subst hd; simp
    · simp [hd]
theorem lit_dash : (Str.ofString "-") = ⟨#[45]⟩ := by decide +kernel
theorem lit_nought : (Str.ofString "0") = ⟨#[48]⟩ := by decide +kernel
theorem lit_fig : (Str.ofString "0123456789").cps.toList = [48, 49, 50, 51, 52, 53, 54, 55, 56, 57] := by decide +kernel
theorem in_fig (c : Nat) : (!(Builtin.Str.occurrences (Str.ofString "0123456789") ⟨#[c]⟩ 0 (Str.ofString "0123456789").length 1).isEmpty) = (decide (48 ≤ c) && decide (c ≤ 57)) := by
  rw [StrLaws.found_one, lit_fig, Bool.eq_iff_iff, Bool.and_eq_true, decide_eq_true_iff, decide_eq_true_iff, decide_eq_true_iff]
  simp only [List.mem_cons, List.not_mem_nil, or_false]
  omega
theorem range_getD (a : Array Nat) : (List.range a.size).map (fun i => a.getD i 0) = a.toList := by
  apply List.ext_getElem
  · simp
  · intro i h1 h2
    have hi : i < a.size := by simpa using h2
    simp [hi]

theorem kit_same (K : PySem.W.Frag) (t : Value) : PySem.W.kitOne K t t = some true := by unfold PySem.W.kitOne; rw [if_pos (by simp)]
theorem kit_int_bool (K : PySem.W.Frag) : PySem.W.kitOne K (.type "int") (.type "bool") = some false := by with_unfolding_all rfl
def optV : Option Int → V
  | none => .non
  | some i => .int i
theorem idx_fig : ∀ d : Nat, d < 10 → Builtin.Str.occurrences (Str.ofString "0123456789") ⟨#[48 + d]⟩ 0 (Str.ofString "0123456789").length 1 = [d] := by decide +kernel
theorem head_take1 (cs : List Nat) : decide (cs.take 1 = [45]) = decide (cs.head? = some 45) := by
  cases cs with
  | nil => rfl
  | cons c r => simp
theorem sl_one (z : Str) : (Txt.slice z none (some 1)).cps.toList = z.cps.toList.take 1 := by
  by_cases h : 1 ≤ z.length
  · exact sl_to z (j := 1) (by decide) (by omega)
  · have e : z = ⟨#[]⟩ := by
      refine ext_codes ?_
      have := txt_len z
      show z.cps.toList = []
      exact List.length_eq_zero_iff.mp (by omega)
    rw [e]
    decide +kernel
theorem getD_at (z : Str) (i : Nat) (h : i < z.cps.size) : z.cps.toList.take (i + 1) = z.cps.toList.take i ++ [z.cps.getD i 0] := by
  rw [List.take_add_one]
  have : z.cps.toList[i]? = some (z.cps.getD i 0) := by simp [h]
  rw [this]
  rfl

/-! ### texts made of others -/
theorem join_mem (sep : Str) : ∀ (ys : List Str) (c : Nat), c ∈ (Str.join sep ys).cps.toList → c ∈ sep.cps.toList ∨ ∃ y ∈ ys, c ∈ y.cps.toList
  | [], c, h => absurd h (by show ¬ c ∈ Str.empty.cps.toList; simp [Str.empty])
  | [x], c, h => .inr ⟨x, List.mem_cons_self, h⟩
  | x :: y :: r, c, h => by
    have h' : c ∈ (x ++ sep ++ Str.join sep (y :: r)).cps.toList := h
    rw [app_codes, app_codes, List.mem_append, List.mem_append] at h'
    rcases h' with (h' | h') | h'
    · exact .inr ⟨x, List.mem_cons_self, h'⟩
    · exact .inl h'
    · rcases join_mem sep (y :: r) c h' with z | ⟨w, hw, z⟩
      · exact .inl z
      · exact .inr ⟨w, List.mem_cons_of_mem _ hw, z⟩
theorem rep_list (a : Array Nat) : ∀ (n : Nat) (acc : Array Nat), ((List.replicate n a).foldl (· ++ ·) acc).toList = acc.toList ++ (List.replicate n a.toList).flatten
  | 0, acc => by simp
  | n + 1, acc => by
    rw [List.replicate_succ, List.foldl_cons, rep_list a n]
    simp [List.replicate_succ]
theorem mul_small {x : Str} (hl : x.length ≤ 100) (hc : ∀ c ∈ x.cps.toList, c < 16 ^ 8) : Small (Txt.mul x 9) := by
  unfold Txt.mul
  rw [if_neg (by decide)]
  split
  · exact ⟨by omega, hc⟩
  · have e : (⟨(List.replicate (9 : Int).toNat x.cps).foldl (· ++ ·) #[]⟩ : Str).cps.toList = (List.replicate 9 x.cps.toList).flatten := by
      show ((List.replicate 9 x.cps).foldl (· ++ ·) #[]).toList = _
      rw [rep_list]
      simp
    refine ⟨?_, fun c h => ?_⟩
    · rw [← txt_len, e, len_rep, txt_len]
      omega
    · rw [e, List.mem_flatten] at h
      obtain ⟨l, h1, h2⟩ := h
      rw [List.mem_replicate] at h1
      rw [h1.2] at h2
      exact hc c h2
theorem mul_ok {x : Str} (hl : x.length ≤ 100) : MulOk x 9 := by
  have := line_big
  refine ⟨by decide, fun _ _ => by omega, fun _ _ => ?_⟩
  unfold Builtin.Str.tooLong
  exact decide_eq_false (by show ¬ x.length * 9 > sizeLine; omega)
/-- one sign of a text for each item -/
theorem cut_ints (ns : List Int) (lo hi : Option Int) : ∃ ms : List Int, cutV (ns.map V.int) lo hi = ms.map V.int ∧ ms.length ≤ ns.length := by
  refine ⟨(ns.drop (HT.sIx ns.length 0 lo)).take (HT.sIx ns.length ns.length hi - HT.sIx ns.length 0 lo), ?_, ?_⟩
  · unfold cutV
    rw [List.length_map, List.map_take, List.map_drop]
  · rw [List.length_take, List.length_drop]
    omega
theorem str_all (m : Int) : (Str.ofString (toString m)).cps.toList = codesOf m := by
  unfold codesOf
  by_cases h : m < 0
  · rw [if_pos h]
    obtain ⟨k, rfl⟩ : ∃ k : Nat, m = -((k + 1 : Nat) : Int) := ⟨m.natAbs - 1, by omega⟩
    have e : toString (-((k + 1 : Nat) : Int)) = "-" ++ Nat.repr (k + 1) := rfl
    rw [e, PyProof.Rows.signs_ofString]
    have e2 : (- -((k + 1 : Nat) : Int)).toNat = k + 1 := by omega
    rw [e2, String.toList_append, List.map_append]
    show [45] ++ _ = _
    have e3 : (Nat.repr (k + 1)).toList.map Char.toNat = dig (k + 1) := by
      rw [Nat.toList_repr]
      rfl
    rw [e3]
    rfl
  · rw [if_neg h]
    exact str_codes (by omega)
theorem log_60 {m : Int} (h : m.natAbs < 10 ^ 60) : m.natAbs.log2 < 1920 := by
  by_cases hz : m.natAbs = 0
  · rw [hz]; decide
  · have h2 : m.natAbs < 2 ^ 200 := Nat.lt_of_lt_of_le h (by decide)
    have := (Nat.log2_lt hz).mpr h2
    omega
theorem codes_len {m : Int} (h : m.natAbs < 10 ^ 60) : (codesOf m).length ≤ 61 := by
  unfold codesOf
  split
  · rw [List.length_cons]
    have := dig_len_le 60 (by decide) (show (-m).toNat < 10 ^ 60 by omega)
    omega
  · have := dig_len_le 60 (by decide) (show m.toNat < 10 ^ 60 by omega)
    omega
theorem codes_small (m : Int) : ∀ c ∈ codesOf m, c < 16 ^ 8 := fun c h => by
  have key : ∀ n, ∀ c ∈ dig n, c < 16 ^ 8 := fun n c h => by
    have := dig_digits n c h
    omega
  unfold codesOf at h
  split at h
  · rcases List.mem_cons.mp h with z | z
    · omega
    · exact key _ c z
  · exact key _ c h
/-- the built-in names that the text does not bind -/
structure GB (mg : Str → Option Value) : Prop where
  str : mg "str" = none
  int : mg "int" = none
  len : mg "len" = none
  range : mg "range" = none
  all : mg "all" = none
  isi : mg "isinstance" = none
  bool : mg "bool" = none
  list : mg "list" = none
  tuple : mg "tuple" = none
  verr : mg "ValueError" = none
theorem gb_mk {K : PySem.W.Frag} {h : Heap} {mg : Str → Option Value} (X : K.In h) (G : h.Ns mainGlobals mg) (z1 : PySem.W.nsIn K mainGlobals "str" = some none) (z2 : PySem.W.nsIn K mainGlobals "int" = some none) (z3 : PySem.W.nsIn K mainGlobals "len" = some none)
    (z4 : PySem.W.nsIn K mainGlobals "range" = some none) (z5 : PySem.W.nsIn K mainGlobals "all" = some none) (z6 : PySem.W.nsIn K mainGlobals "isinstance" = some none) (z7 : PySem.W.nsIn K mainGlobals "bool" = some none)
    (z8 : PySem.W.nsIn K mainGlobals "list" = some none) (z9 : PySem.W.nsIn K mainGlobals "tuple" = some none) (z10 : PySem.W.nsIn K mainGlobals "ValueError" = some none) : GB mg :=
  ⟨PySem.W.mg_none_of X G z1, PySem.W.mg_none_of X G z2, PySem.W.mg_none_of X G z3, PySem.W.mg_none_of X G z4, PySem.W.mg_none_of X G z5, PySem.W.mg_none_of X G z6, PySem.W.mg_none_of X G z7, PySem.W.mg_none_of X G z8, PySem.W.mg_none_of X G z9, PySem.W.mg_none_of X G z10⟩
theorem b_list : bootBuiltins "list" = some (.type "list") := by decide +kernel
theorem b_tuple : bootBuiltins "tuple" = some (.type "tuple") := by decide +kernel
theorem b_range : bootBuiltins "range" = some (.type "range") := by decide +kernel
def spLaw (K : PySem.W.Frag) : Sp := fun vs H Q _ => ∃ (a : Addr) (ns : List Int), vs = [.ref a] ∧ SqL K H a (ns.map V.int) ∧ ns.length ≤ 63 ∧ ∀ H', Q (.bl true) H'
theorem walk {l : PySem.W.OpenLaw} {q : Program} {loose : List Str} {XP : (Str → Option Value) → Heap → Prop} {YP : World → Heap → Prop} {d : DefRec} {K : Params → PySem.W.Frag} (hn : l.most = some 63) (hdf : d.params.defaults = [])
    (hY : ∀ (w : World) (h : Heap), YP w h → (K w.params).In h)
    (F : ∀ (w : World) (mg : Str → Option Value) (fa : Addr) (h : Heap), (K w.params).In h → h.Ns mainGlobals mg → mg d.name = some (.ref fa) →
      ∃ fd : FuncData, (∀ (s : Shared) (u : Value), BindsTo s fd ⟨[u], []⟩ [("_law_script", u)]) ∧ ∀ base : Heap, (K w.params).In base → base.Ns mainGlobals mg → FnOk l.prog w (K w.params) mg base CX0 12 fa fd ["_law_script"] (spLaw (K w.params))) :
    PySem.W.WalkO q loose XP YP l.row.toRowW d [] (fun f vs => PySem.call f vs) :=
  L2.walk_of (n := 63) (k := 12) (x := "_law_script") (CX := fun _ => CX0) (sp := fun w => spLaw (K w.params)) hn (by decide) hdf ⟨rfl, by decide, by decide⟩ hY F (fun _ _ a ns hl _ hS => ⟨a, ns, rfl, hS, hl, fun _ => rfl⟩) fun _ _ _ _ _ z => z
end Rp
namespace Rp
open PySem PySem.NumText L2 Fig
def top (i : Nat) : Stmt := PySem.Challenge.pw_rowpack_k07_texts_refused.main.body.getD i (.Pass ⟨0, 0, 0, 0⟩)
def sNumberOf := top 8
def sIsNumber := top 9
def sValueOf := top 10
def sSame := top 12
def sRising := top 13
def sPartAt := top 16
def sCount := top 17
def sPartsOf := top 18
def sPartOf := top 19
def sNumberIn := top 20
def sRead := top 21
def sNumbersOf := top 22
def sIsTidy := top 23
def sAsPacked := top 24
def sTwoBehind := top 25
def sFirstTwo := top 26
def sManyIn := top 27
def sCellAt := top 29
def sAsked := top 30
def sBounded := top 31
def sRefuses := top 32
def sLaw := top 33
end Rp
namespace Rp
open PySem PySem.NumText L2 Fig
section
variable {P : Program} {w : World} {K : PySem.W.Frag} {mg : Str → Option Value} {base : Heap} {f : Addr} {fd : FuncData}
theorem scCell : FnScope ["_law_script", "_law_k"] ["_law_script", "_law_k"] (defScope sCellAt) := ⟨rfl, rfl, rfl, by decide +kernel, rfl, by decide +kernel, by decide +kernel⟩
def spCell (K : PySem.W.Frag) : Sp := fun vs H Q _ => ∃ (a : Addr) (ns : List Int) (k : Int), vs = [.ref a, .int k] ∧ SqL K H a (ns.map V.int) ∧ 0 ≤ k ∧ ∀ i : Int, Q (.int i) H
theorem ok_cell (F : Fun K "_law_cell_at" "_law_cell_at" sCellAt f fd) (g : GB mg) : FnOk P w K mg base CX0 1 f fd ["_law_script", "_law_k"] (spCell K) := by
  refine F.ok scCell (fun vs H Q E h => ?_) (fun cdv A outer s H vs Q E hr h => ?_)
  · obtain ⟨a, ns, k, rfl, _⟩ := h
    rfl
  obtain ⟨a, ns, k, rfl, hS, h0, q⟩ := h
  refine ⟨_, pss_cons (ps_if (pt_cmpR op_lt (pv 1) (pe_callB call_len_seq rfl g.len PySem.boot_len (pa_cons (pv 0) pa_nil)) (nomark _)) (pss_one (ps_ret (pe_ix ix_list (pv 0) (pv 1) (fun _ _ => rfl)))) pss_nil) (pss_one (ps_ret pe_int)), ?_⟩
  refine ⟨_, rfl, _, rfl, a, _, rfl, .inl hS, _, _, rfl, rfl, _, rfl, ite2 (fun c => ?_) (fun c => ?_)⟩
  · have c' : k < (((ns.map V.int).length : Nat) : Int) := of_decide_eq_true c
    rw [List.length_map] at c'
    have hk : k.toNat < ns.length := by omega
    have ek : k = ((k.toNat : Nat) : Int) := by omega
    have z : atI (ns.map V.int) ((k.toNat : Nat) : Int) = some (.int ns[k.toNat]) := atI_nat (by rw [List.getElem?_map, List.getElem?_eq_getElem hk] <;> rfl)
    rw [← ek] at z
    exact ⟨_, rfl, _, rfl, a, _, _, _, rfl, rfl, hS, z, q _⟩
  · exact q 0

end
end Rp
namespace Rp
open PySem PySem.NumText L2 Fig
/-- how many numbers stand from the head on, each greater by d than the one ahead, the first being v -/
def runN (d : Int) : Int → List Int → Nat
  | _, [] => 0
  | v, y :: r => if y = v then runN d (v + d) r + 1 else 0
theorem runN_le (d : Int) : ∀ (r : List Int) (v : Int), runN d v r ≤ r.length
  | [], _ => Nat.le_refl _
  | y :: r, v => by
    unfold runN
    split
    · have := runN_le d r (v + d)
      rw [List.length_cons]
      omega
    · exact Nat.zero_le _
theorem runN_at (d : Int) : ∀ (r : List Int) (v : Int) (j : Nat), j < runN d v r → r[j]? = some (v + j * d)
  | [], _, _, h => by unfold runN at h; omega
  | y :: r, v, j, h => by
    unfold runN at h
    split at h
    · rename_i e
      cases j with
      | zero => simp [e]
      | succ j =>
        have := runN_at d r (v + d) j (by omega)
        rw [List.getElem?_cons_succ, this]
        congr 1
        rw [Int.natCast_succ, Int.add_mul]
        omega
    · omega
theorem runN_stop (d : Int) : ∀ (r : List Int) (v : Int), runN d v r < r.length → r[runN d v r]? ≠ some (v + (runN d v r : Nat) * d)
  | [], _, h => by simp at h
  | y :: r, v, h => by
    unfold runN at h ⊢
    split
    · rename_i e
      rw [if_pos e, List.length_cons] at h
      have := runN_stop d r (v + d) (by omega)
      rw [List.getElem?_cons_succ]
      intro z
      refine this (z.trans ?_)
      congr 1
      rw [Int.natCast_succ, Int.add_mul]
      omega
    · rename_i e
      rw [List.getElem?_cons_zero]
      intro z
      have := Option.some.inj z
      simp at this
      exact e this
theorem runN_eq (d v : Int) (r : List Int) (n : Nat) (h : ∀ j < n, r[j]? = some (v + j * d)) (hs : r[n]? ≠ some (v + n * d)) : runN d v r = n := by
  rcases Nat.lt_trichotomy (runN d v r) n with z | z | z
  · have h1 := h _ z
    have h2 : runN d v r < r.length := (List.getElem?_eq_some_iff.mp h1).1
    exact absurd h1 (runN_stop d r v h2)
  · exact z
  · exact absurd (runN_at d r v n z) hs
theorem run_test {d v : Int} {r : List Int} {n : Nat} (h : n ≤ runN d v r) : r[n]? = some (v + n * d) ↔ n < runN d v r := by
  refine ⟨fun z => ?_, fun z => runN_at d r v n z⟩
  rcases Nat.lt_or_ge n (runN d v r) with c | c
  · exact c
  · have e : n = runN d v r := by omega
    subst e
    exact absurd z (runN_stop d r v (List.getElem?_eq_some_iff.mp z).1)
theorem runN_pos {d v : Int} {r : List Int} (h : r[0]? = some v) : 1 ≤ runN d v r := by
  cases r with
  | nil => cases h
  | cons y r =>
    have e : y = v := by simpa using h
    unfold runN
    rw [if_pos e]
    omega
theorem cut_from (ns : List Int) {k : Nat} (h : k ≤ ns.length) : cutV (ns.map V.int) (some (k : Int)) none = (ns.drop k).map V.int := by
  unfold cutV
  rw [List.length_map]
  have e : HT.sIx ns.length 0 (some (k : Int)) = k := by simp [HT.sIx, Nat.min_eq_left h]; omega
  have e2 : HT.sIx ns.length ns.length none = ns.length := by simp [HT.sIx]
  rw [e, e2, List.map_drop, List.take_of_length_le (by rw [List.length_drop, List.length_map]; exact Nat.le_refl _)]
def spRun (K : PySem.W.Frag) (d : Int) : Sp := fun vs H Q _ => ∃ (a : Addr) (ns : List Int) (k : Nat) (v : Int), vs = [.ref a, .int k] ∧ SqL K H a (ns.map V.int) ∧ ns.length ≤ 100000 ∧ ns[k]? = some v ∧
  ∀ H', Same H H' → Q (.int (runN d v (ns.drop k) : Nat)) H'
/-- a def that stands ready to be called -/
def Ready (P : Program) (w : World) (K : PySem.W.Frag) (mg : Str → Option Value) (base : Heap) (x : Str) (ps : List Str) (sp : Sp) : Prop :=
  ∃ a d, FnOk P w K mg base CX0 8 a d ps sp ∧ Binds K d ps [] ∧ PySem.W.keepIn K (.ref a) = true ∧ mg x = some (.ref a)
theorem ready {P : Program} {w : World} {K : PySem.W.Frag} {mg : Str → Option Value} {base : Heap} {h : Heap} {x : Str} {ps : List Str} {sp : Sp} {n : Nat} {a : Addr} {d : FuncData} (X : K.In h) (G : h.Ns mainGlobals mg) (F : FnOk P w K mg base CX0 n a d ps sp) (hn : n ≤ 8) (b : Binds K d ps []) (k : PySem.W.keepIn K (.ref a) = true) (m : PySem.W.nsIn K mainGlobals x = some (some (.ref a))) :
    Ready P w K mg base x ps sp := ⟨a, d, F.mono hn, b, k, PySem.W.mg_of X G m⟩
end Rp
namespace Rp
open PySem PySem.NumText L2 Fig
/-! ### parts, by the document -/
inductive Part where
  | one (n : Int)
  | same (n k : Int)
  | rise (a b : Int)
deriving DecidableEq
def Part.ok : Part → Prop
  | .one _ => True
  | .same _ k => 3 ≤ k
  | .rise a b => a + 2 ≤ b
def Part.txt : Part → List Nat
  | .one n => codesOf n
  | .same n k => codesOf n ++ 120 :: codesOf k
  | .rise a b => codesOf a ++ 46 :: 46 :: codesOf b
def Part.vals : Part → List Int
  | .one n => [n]
  | .same n k => List.replicate k.toNat n
  | .rise a b => (List.range (b - a + 1).toNat).map fun i : Nat => a + (i : Int)
def Part.many : Part → Int
  | .one _ => 1
  | .same _ k => k
  | .rise a b => b - a + 1
theorem Part.len_vals : ∀ {p : Part}, p.ok → ((p.vals.length : Nat) : Int) = p.many
  | .one _, _ => rfl
  | .same _ k, h => by
    have h' : 3 ≤ k := h
    show ((List.replicate _ _).length : Int) = k
    rw [List.length_replicate]
    omega
  | .rise a b, h => by
    have h' : a + 2 ≤ b := h
    show (((List.range _).map _).length : Int) = b - a + 1
    rw [List.length_map, List.length_range]
    omega
/-! ### texts cut -/
def cutC (c : Nat) : List Nat → List Nat × Option (List Nat)
  | [] => ([], none)
  | x :: r => if x = c then ([], some r) else ((x :: (cutC c r).1), (cutC c r).2)
theorem cutC_none {c : Nat} : ∀ {a : List Nat}, c ∉ a → cutC c a = (a, none)
  | [], _ => rfl
  | x :: r, h => by
    have h1 : x ≠ c := fun e => h (by rw [e]; exact List.mem_cons_self)
    have h2 : c ∉ r := fun z => h (List.mem_cons_of_mem _ z)
    show (if x = c then _ else _) = _
    rw [if_neg h1, cutC_none h2]
theorem cutC_app {c : Nat} : ∀ {a b : List Nat}, c ∉ a → cutC c (a ++ c :: b) = (a, some b)
  | [], b, _ => by show (if c = c then _ else _) = _; rw [if_pos rfl]
  | x :: r, b, h => by
    have h1 : x ≠ c := fun e => h (by rw [e]; exact List.mem_cons_self)
    have h2 : c ∉ r := fun z => h (List.mem_cons_of_mem _ z)
    rw [List.cons_append, cutC, if_neg h1, cutC_app h2]
def cutD : List Nat → List Nat × Option (List Nat)
  | [] => ([], none)
  | x :: r => if x = 46 ∧ r.head? = some 46 then ([], some r.tail) else ((x :: (cutD r).1), (cutD r).2)
theorem cutD_none : ∀ {a : List Nat}, 46 ∉ a → cutD a = (a, none)
  | [], _ => rfl
  | x :: r, h => by
    have h1 : x ≠ 46 := fun e => h (by rw [e]; exact List.mem_cons_self)
    have h2 : 46 ∉ r := fun z => h (List.mem_cons_of_mem _ z)
    show (if x = 46 ∧ _ then _ else _) = _
    rw [if_neg (fun z => h1 z.1), cutD_none h2]
theorem cutD_app : ∀ {a b : List Nat}, 46 ∉ a → cutD (a ++ 46 :: 46 :: b) = (a, some b)
  | [], b, _ => by show (if (46 : Nat) = 46 ∧ _ then _ else _) = _; rw [if_pos ⟨rfl, rfl⟩]; rfl
  | x :: r, b, h => by
    have h1 : x ≠ 46 := fun e => h (by rw [e]; exact List.mem_cons_self)
    have h2 : 46 ∉ r := fun z => h (List.mem_cons_of_mem _ z)
    rw [List.cons_append, cutD, if_neg (fun z => h1 z.1), cutD_app h2]
def sameOf (a b : List Nat) : Option Part := (numIn a).bind fun n => (numIn b).bind fun k => if 3 ≤ k then some (.same n k) else none
def riseOf (a b : List Nat) : Option Part := (numIn a).bind fun n => (numIn b).bind fun k => if n + 2 ≤ k then some (.rise n k) else none
/-- what a part's text says -/
def parse (cs : List Nat) : Option Part :=
  match cutC 120 cs with
  | (a, some b) => sameOf a b
  | (_, none) => match cutD cs with
    | (a, some b) => riseOf a b
    | (_, none) => (numIn cs).map .one
theorem numIn_codes (n : Int) : numIn (codesOf n) = some n := by
  obtain ⟨h1, h2⟩ := codesOf_num n
  unfold numIn
  rw [if_pos h1, h2]
theorem codes_mem {n : Int} {c : Nat} (h : c ∈ codesOf n) : c = 45 ∨ (48 ≤ c ∧ c ≤ 57) := by
  unfold codesOf at h
  split at h
  · rcases List.mem_cons.mp h with z | z
    · exact .inl z
    · exact .inr (dig_digits _ c z)
  · exact .inr (dig_digits _ c h)
theorem codes_no {n : Int} {c : Nat} (h : c = 120 ∨ c = 46 ∨ c = 32) : c ∉ codesOf n := fun z => by
  have := codes_mem z
  omega
theorem codes_ne (n : Int) : codesOf n ≠ [] := by
  unfold codesOf
  split
  · exact fun z => nomatch z
  · exact dig_ne _
theorem parse_txt : ∀ {p : Part}, p.ok → parse p.txt = some p
  | .one n, _ => by
    show parse (codesOf n) = _
    unfold parse
    rw [cutC_none (codes_no (.inl rfl)), cutD_none (codes_no (.inr (.inl rfl))), numIn_codes]
    rfl
  | .same n k, h => by
    have h' : 3 ≤ k := h
    show parse (codesOf n ++ 120 :: codesOf k) = _
    unfold parse
    rw [cutC_app (codes_no (.inl rfl))]
    show sameOf _ _ = _
    unfold sameOf
    rw [numIn_codes, numIn_codes]
    show (if 3 ≤ k then _ else _) = _
    rw [if_pos h']
  | .rise a b, h => by
    have h' : a + 2 ≤ b := h
    show parse (codesOf a ++ 46 :: 46 :: codesOf b) = _
    have n1 : 120 ∉ codesOf a ++ 46 :: 46 :: codesOf b := fun z => by
      rcases List.mem_append.mp z with z | z
      · exact codes_no (.inl rfl) z
      · rcases List.mem_cons.mp z with z | z
        · cases z
        · rcases List.mem_cons.mp z with z | z
          · cases z
          · exact codes_no (.inl rfl) z
    unfold parse
    rw [cutC_none n1, cutD_app (codes_no (.inr (.inl rfl)))]
    show riseOf _ _ = _
    unfold riseOf
    rw [numIn_codes, numIn_codes]
    show (if a + 2 ≤ b then _ else _) = _
    rw [if_pos h']
theorem sameOf_some {a b : List Nat} {p : Part} (h : sameOf a b = some p) : ∃ n k, numIn a = some n ∧ numIn b = some k ∧ 3 ≤ k ∧ p = .same n k := by
  unfold sameOf at h
  cases e1 : numIn a with
  | none => rw [e1] at h; cases h
  | some n =>
    rw [e1] at h
    cases e2 : numIn b with
    | none => rw [e2] at h; cases h
    | some k =>
      rw [e2] at h
      have h' : (if 3 ≤ k then some (Part.same n k) else none) = some p := h
      split at h'
      · rename_i c
        exact ⟨n, k, rfl, rfl, c, (Option.some.inj h').symm⟩
      · cases h'
theorem riseOf_some {a b : List Nat} {p : Part} (h : riseOf a b = some p) : ∃ n k, numIn a = some n ∧ numIn b = some k ∧ n + 2 ≤ k ∧ p = .rise n k := by
  unfold riseOf at h
  cases e1 : numIn a with
  | none => rw [e1] at h; cases h
  | some n =>
    rw [e1] at h
    cases e2 : numIn b with
    | none => rw [e2] at h; cases h
    | some k =>
      rw [e2] at h
      have h' : (if n + 2 ≤ k then some (Part.rise n k) else none) = some p := h
      split at h'
      · rename_i c
        exact ⟨n, k, rfl, rfl, c, (Option.some.inj h').symm⟩
      · cases h'
theorem ok_of_parse {cs : List Nat} {p : Part} (h : parse cs = some p) : p.ok := by
  unfold parse at h
  split at h
  · obtain ⟨n, k, _, _, c, rfl⟩ := sameOf_some h
    exact c
  · split at h
    · obtain ⟨n, k, _, _, c, rfl⟩ := riseOf_some h
      exact c
    · cases e : numIn cs with
      | none => rw [e] at h; cases h
      | some n => rw [e] at h; cases h; exact trivial
theorem txt_no32 : ∀ (p : Part), 32 ∉ p.txt
  | .one n => codes_no (.inr (.inr rfl))
  | .same n k => fun z => by
    rcases List.mem_append.mp z with z | z
    · exact codes_no (.inr (.inr rfl)) z
    · rcases List.mem_cons.mp z with z | z
      · cases z
      · exact codes_no (.inr (.inr rfl)) z
  | .rise a b => fun z => by
    rcases List.mem_append.mp z with z | z
    · exact codes_no (.inr (.inr rfl)) z
    · rcases List.mem_cons.mp z with z | z
      · cases z
      · rcases List.mem_cons.mp z with z | z
        · cases z
        · exact codes_no (.inr (.inr rfl)) z
theorem txt_ne : ∀ (p : Part), p.txt ≠ []
  | .one n => codes_ne n
  | .same n k => fun z => codes_ne n (List.append_eq_nil_iff.mp z).1
  | .rise a b => fun z => codes_ne a (List.append_eq_nil_iff.mp z).1
/-! ### split, join -/
def splitC (c : Nat) : List Nat → List (List Nat)
  | [] => [[]]
  | x :: r => if x = c then [] :: splitC c r else match splitC c r with
    | [] => [[x]]
    | h :: t => (x :: h) :: t
def inter (c : Nat) : List (List Nat) → List Nat
  | [] => []
  | [p] => p
  | p :: q :: r => p ++ c :: inter c (q :: r)
theorem splitC_free {c : Nat} : ∀ {a : List Nat}, c ∉ a → splitC c a = [a]
  | [], _ => rfl
  | x :: r, h => by
    have h1 : x ≠ c := fun e => h (by rw [e]; exact List.mem_cons_self)
    have h2 : c ∉ r := fun z => h (List.mem_cons_of_mem _ z)
    show (if x = c then _ else _) = _
    rw [if_neg h1, splitC_free h2]
theorem splitC_app {c : Nat} : ∀ {a r : List Nat}, c ∉ a → splitC c (a ++ c :: r) = a :: splitC c r
  | [], r, _ => by show (if c = c then _ else _) = _; rw [if_pos rfl]
  | x :: a, r, h => by
    have h1 : x ≠ c := fun e => h (by rw [e]; exact List.mem_cons_self)
    have h2 : c ∉ a := fun z => h (List.mem_cons_of_mem _ z)
    rw [List.cons_append, splitC, if_neg h1, splitC_app h2]
theorem split_inter {c : Nat} : ∀ {ps : List (List Nat)}, ps ≠ [] → (∀ p ∈ ps, c ∉ p) → splitC c (inter c ps) = ps
  | [], h, _ => absurd rfl h
  | [p], _, h => splitC_free (h p List.mem_cons_self)
  | p :: q :: r, _, h => by
    show splitC c (p ++ c :: inter c (q :: r)) = _
    rw [splitC_app (h p List.mem_cons_self), split_inter (ps := q :: r) (List.cons_ne_nil _ _) (fun x hx => h x (List.mem_cons_of_mem _ hx))]
theorem join_codes (c : Nat) : ∀ ys : List Str, (Str.join ⟨#[c]⟩ ys).cps.toList = inter c (ys.map fun y => y.cps.toList)
  | [] => rfl
  | [x] => rfl
  | x :: y :: r => by
    show (x ++ ⟨#[c]⟩ ++ Str.join ⟨#[c]⟩ (y :: r)).cps.toList = _
    rw [app_codes, app_codes, join_codes c (y :: r)]
    show _ ++ [c] ++ _ = x.cps.toList ++ c :: inter c _
    rw [List.append_assoc]
    rfl
theorem txt_join (c : Nat) (ys : List Str) : (Txt.join ⟨#[c]⟩ ys).cps.toList = inter c (ys.map fun y => y.cps.toList) := by
  show (Builtin.Str.glued ⟨#[c]⟩ ys).cps.toList = _
  rw [StrLaws.glued_eq_join, join_codes]
theorem split_pos' (x : Str) (c : Nat) : Txt.split x ⟨#[c]⟩ ≠ [] := fun z => by
  unfold Txt.split at z
  split at z
  · cases z
  · split at z
    · cases z
    · have := congrArg List.length z
      rw [PyProof.Rows.len_partsBetween] at this
      simp at this
theorem txt_split (x : Str) (c : Nat) : (Txt.split x ⟨#[c]⟩).map (fun y => y.cps.toList) = splitC c x.cps.toList := by
  have h1 := StrLaws.join_split x ⟨#[c]⟩
  have h2 := join_codes c (Txt.split x ⟨#[c]⟩)
  rw [h1] at h2
  rw [h2, split_inter]
  · intro z
    exact split_pos' x c (List.map_eq_nil_iff.mp z)
  · intro p hp
    obtain ⟨y, hy, rfl⟩ := List.mem_map.mp hp
    exact StrLaws.split_free x c y hy
/-! ### reading -/
def parseAll : List (List Nat) → Option (List Part)
  | [] => some []
  | t :: r => (parse t).bind fun p => (parseAll r).map (p :: ·)
def readT (cs : List Nat) : Option (List Part) := if cs = [] then some [] else parseAll (splitC 32 cs)
theorem parseAll_txt : ∀ {ps : List Part}, (∀ p ∈ ps, p.ok) → parseAll (ps.map Part.txt) = some ps
  | [], _ => rfl
  | p :: r, h => by
    show (parse p.txt).bind _ = _
    rw [parse_txt (h p List.mem_cons_self)]
    show (parseAll (r.map Part.txt)).map _ = _
    rw [parseAll_txt fun q hq => h q (List.mem_cons_of_mem _ hq)]
    rfl
theorem inter_ne {c : Nat} : ∀ {ps : List (List Nat)} {p : List Nat}, p ∈ ps → p ≠ [] → inter c ps ≠ []
  | [], _, h, _ => nomatch h
  | [q], p, h, hp => by
    have : p = q := by simpa using h
    subst this
    exact hp
  | q :: q' :: r, p, h, hp => fun z => by
    have : q ++ c :: inter c (q' :: r) = [] := z
    simp at this
def rowTxt (ps : List Part) : List Nat := inter 32 (ps.map Part.txt)
theorem read_rowTxt {ps : List Part} (h : ∀ p ∈ ps, p.ok) : readT (rowTxt ps) = some ps := by
  cases ps with
  | nil => rfl
  | cons p r =>
    unfold readT rowTxt
    rw [if_neg (inter_ne (List.mem_map.mpr ⟨p, List.mem_cons_self, rfl⟩) (txt_ne p)), split_inter (ps := (p :: r).map Part.txt) (fun z => by cases z)]
    · exact parseAll_txt h
    · intro t ht
      obtain ⟨q, _, rfl⟩ := List.mem_map.mp ht
      exact txt_no32 q
theorem parseAll_bad : ∀ {ts : List (List Nat)} {t : List Nat}, t ∈ ts → parse t = none → parseAll ts = none
  | [], _, h, _ => nomatch h
  | q :: r, t, h, hb => by
    show (parse q).bind _ = none
    rcases List.mem_cons.mp h with rfl | h
    · rw [hb]; rfl
    · cases parse q with
      | none => rfl
      | some p => show (parseAll r).map _ = none; rw [parseAll_bad h hb]; rfl
def valsAll (ps : List Part) : List Int := ps.flatMap Part.vals
def manyAll (ps : List Part) : Int := ps.foldl (fun m p => m + p.many) 0
/-! ### packing -/
def packF : Nat → List Int → List Part
  | 0, _ => []
  | _, [] => []
  | f + 1, v :: r =>
    if 3 ≤ runN 0 v (v :: r) then .same v (runN 0 v (v :: r) : Nat) :: packF f ((v :: r).drop (runN 0 v (v :: r)))
    else if 3 ≤ runN 1 v (v :: r) then .rise v (v + (runN 1 v (v :: r) : Nat) - 1) :: packF f ((v :: r).drop (runN 1 v (v :: r)))
    else .one v :: packF f r
def pack (row : List Int) : List Part := packF row.length row
theorem packF_ok : ∀ (f : Nat) (row : List Int), ∀ p ∈ packF f row, p.ok
  | 0, _, p, h => by unfold packF at h; cases h
  | f + 1, [], p, h => by unfold packF at h; cases h
  | f + 1, v :: r, p, h => by
    unfold packF at h
    split at h
    · rename_i c
      rcases List.mem_cons.mp h with rfl | h
      · show (3 : Int) ≤ (runN 0 v (v :: r) : Nat); omega
      · exact packF_ok f _ p h
    · split at h
      · rename_i c
        rcases List.mem_cons.mp h with rfl | h
        · show v + 2 ≤ v + (runN 1 v (v :: r) : Nat) - 1; omega
        · exact packF_ok f _ p h
      · rcases List.mem_cons.mp h with rfl | h
        · exact trivial
        · exact packF_ok f _ p h
theorem take_run (d v : Int) : ∀ (r : List Int), r.take (runN d v r) = (List.range (runN d v r)).map fun i : Nat => v + (i : Int) * d := by
  intro r
  refine List.ext_getElem? fun i => ?_
  rw [List.getElem?_map, List.getElem?_take]
  by_cases h : i < runN d v r
  · rw [if_pos h, runN_at d r v i h, List.getElem?_range h]
    rfl
  · rw [if_neg h, List.getElem?_eq_none (by rw [List.length_range]; omega)]
    rfl
theorem packF_vals : ∀ (f : Nat) (row : List Int), row.length ≤ f → valsAll (packF f row) = row
  | 0, row, h => by
    have : row = [] := List.eq_nil_of_length_eq_zero (by omega)
    subst this
    rfl
  | f + 1, [], _ => by unfold packF; rfl
  | f + 1, v :: r, h => by
    rw [List.length_cons] at h
    have hp0 : 1 ≤ runN 0 v (v :: r) := runN_pos rfl
    have hp1 : 1 ≤ runN 1 v (v :: r) := runN_pos rfl
    unfold packF
    split
    · rename_i c
      show Part.vals _ ++ valsAll (packF f _) = _
      rw [packF_vals f _ (by rw [List.length_drop, List.length_cons]; omega)]
      conv => rhs; rw [← List.take_append_drop (runN 0 v (v :: r)) (v :: r)]
      congr 1
      rw [take_run]
      show List.replicate ((runN 0 v (v :: r) : Nat) : Int).toNat v = _
      refine (List.eq_replicate_iff.mpr ⟨by rw [List.length_map, List.length_range]; omega, fun b hb => ?_⟩).symm
      obtain ⟨i, _, rfl⟩ := List.mem_map.mp hb
      omega
    · split
      · rename_i c
        show Part.vals _ ++ valsAll (packF f _) = _
        rw [packF_vals f _ (by rw [List.length_drop, List.length_cons]; omega)]
        conv => rhs; rw [← List.take_append_drop (runN 1 v (v :: r)) (v :: r)]
        congr 1
        rw [take_run]
        show (List.range (v + (runN 1 v (v :: r) : Nat) - 1 - v + 1).toNat).map _ = _
        rw [show (v + (runN 1 v (v :: r) : Nat) - 1 - v + 1).toNat = runN 1 v (v :: r) by omega]
        refine List.map_congr_left fun i _ => ?_
        omega
      · show [v] ++ valsAll (packF f r) = _
        rw [packF_vals f r (by omega)]
        rfl
theorem pack_vals (row : List Int) : valsAll (pack row) = row := packF_vals _ _ (Nat.le_refl _)
theorem pack_ok (row : List Int) : ∀ p ∈ pack row, p.ok := packF_ok _ _
end Rp
namespace L2
open PySem PySem.Spec PyProof.Rows
open PySem.Builtin.Str
section
variable {X : Cx}
theorem vals_strs : ∀ l : List (Str × Tok), Vals ((l.map (·.1)).map V.str) (strValues l)
  | [] => .nil
  | (x, t) :: r => .cons ⟨t, rfl⟩ (vals_strs r)
/-- text.split(text) -/
def rSplit : V → List V → Hp → VK → Prop := fun x xs H Q => ∃ a b, x = .str a ∧ xs = [.str b] ∧ (b.length == 0) = false ∧ a.length + 2 ≤ sizeLine ∧ ∀ p, H p = none → Q (.ref p) (upd H p (.lst ((Txt.split a b).map V.str)))
theorem mt_split : MtR X "str.split" rSplit := by
  intro pins s σ H x xs v us Q I rx rs h
  obtain ⟨a, b, rfl, rfl, hb, ha, q⟩ := h
  obtain ⟨t, rfl⟩ := rx
  obtain ⟨u, rfl, t', rfl⟩ := vals1 rs
  have hsz : a.length ≤ sizeLine := by omega
  have hlen := PyProof.Rows.split_le a b
  have fin : ∀ (l : List (Str × Tok)) (k : Nat), l.map (·.1) = Txt.split a b → EP X pins σ Q (.ref s.heap.objs.size) { s with toks := k, heap := s.heap.push { cls := .type "list", data := .seq (strValues l).toArray } } := by
    intro l k e
    refine ⟨.ref s.heap.objs.size, _, I.lnew (ys := (Txt.split a b).map V.str) (by rw [← e]; exact vals_strs l) (by rw [List.length_map]; omega), rfl, q _ I.fresh⟩
  cases h1 : (decide (a.length < b.length) || decide (strKind a < strKind b))
  · cases hf : (occurrences a b 0 a.length (a.length + 1)).isEmpty
    · have e0 : Txt.split a b = partsBetween a (occurrences a b 0 a.length (a.length + 1)) b.length := (if_neg (ne_true_of_eq_false h1)).trans (if_neg (ne_true_of_eq_false hf))
      refine call_meets F.slot_str_split (typeIs_str _ _ _) F.entry_str_split (F.args_str_split_2 _ _) (meets_str_split_sep a b t t' h1 hb hf hsz (by rw [← e0]; omega)) ?_
      show wants _ _ _ { s with toks := _, heap := s.heap.push { cls := .type "list", data := .seq (strsFrom s.toks (partsBetween a (occurrences a b 0 a.length (a.length + 1)) b.length)).toArray } }
      rw [strsFrom_eq]
      exact fin (numbered s.toks _) _ ((numbered_texts _ _).trans e0.symm)
    · exact call_meets F.slot_str_split (typeIs_str _ _ _) F.entry_str_split (F.args_str_split_2 _ _) (meets_str_split_not_found a b t t' h1 hb hf)
        (fin [(a, t)] _ ((if_neg (ne_true_of_eq_false h1)).trans (if_pos hf)).symm)
  · exact call_meets F.slot_str_split (typeIs_str _ _ _) F.entry_str_split (F.args_str_split_2 _ _) (meets_str_split_cannot_occur a b t t' h1) (fin [(a, t)] _ (if_pos h1).symm)
/-- text.partition(text) -/
def rPartition : V → List V → Hp → VK → Prop := fun x xs H Q => ∃ a b, x = .str a ∧ xs = [.str b] ∧ (b.length == 0) = false ∧ a.length ≤ sizeLine ∧
  ∀ p, H p = none → Q (.ref p) (upd H p (.tup [.str (Txt.partition a b).1, .str (Txt.partition a b).2.1, .str (Txt.partition a b).2.2]))
theorem mt_partition : MtR X "str.partition" rPartition := by
  intro pins s σ H x xs v us Q I rx rs h
  obtain ⟨a, b, rfl, rfl, hb, ha, q⟩ := h
  obtain ⟨t, rfl⟩ := rx
  obtain ⟨u, rfl, t', rfl⟩ := vals1 rs
  have hz := line63
  have fin : ∀ (p1 p2 p3 : Str) (t1 t2 t3 : Tok) (k : Nat), Txt.partition a b = (p1, p2, p3) → EP X pins σ Q (.ref s.heap.objs.size) { s with toks := k, heap := s.heap.push { cls := .type "tuple", data := .seq [Value.str p1 t1, .str p2 t2, .str p3 t3].toArray } } := by
    intro p1 p2 p3 t1 t2 t3 k e
    rw [e] at q
    refine ⟨.ref s.heap.objs.size, _, I.laid (t' := k) (fun b u e => Heap.get?_push_of_some _ e) (Nat.le_refl _) ?_, rfl, q _ I.fresh⟩
    exact ⟨by show 3 ≤ sizeLine; rw [sizeLine_eq]; decide, _, .cons ⟨_, rfl⟩ (.cons ⟨_, rfl⟩ (.cons ⟨_, rfl⟩ .nil)), ⟨_, Heap.get?_push_size _ rfl, rfl, _, rfl⟩⟩
  refine call_meets F.slot_str_partition (typeIs_str _ _ _) F.entry_str_partition (F.args_str_partition_2 _ _) (meets_str_partition a b t t' hb ha) ?_
  show wants _ _ _ (match occurrences a b 0 a.length 1 with | i :: _ => _ | [] => _)
  cases e : occurrences a b 0 a.length 1 with
  | nil => exact fin _ _ _ _ _ _ _ (by unfold Txt.partition; rw [e])
  | cons i r => exact fin _ _ _ _ _ _ _ (by unfold Txt.partition; rw [e])
/-- xs.insert(i, x) -/
def rInsert : V → List V → Hp → VK → Prop := fun x vs H Q => ∃ (l : Addr) (xs : List V) (k : Nat) (y : V), x = .ref l ∧ vs = [.int k, y] ∧ H l = some (.lst xs) ∧ k ≤ xs.length ∧ xs.length < sizeLine ∧ Q .non (upd H l (.lst (xs.take k ++ y :: xs.drop k)))
theorem ins_step {prog : Program} {w0 : World} {A : Around} {E : Value → Shared → Prop} {Q : Value → Shared → Prop} {s : Shared} {l : Addr} {its : List Value} {n : Nat} {k : Int} {t : Tok} {w : Value} (e : s.heap.get? l = some { cls := Value.type "list", data := Data.seq its.toArray n }) (hfit : ¬ (!Builtin.List.listFitsIndex k) = true) (hsz : its.toArray.size ≤ sizeLine)
    (h : Q .none { s with heap := s.heap.update l (Obj.mapSeq fun xs => (xs.extract 0 (if k < 0 then (k + ((xs.size : Nat) : Int)).toNat else min k.toNat xs.size)).push w ++ xs.extract (if k < 0 then (k + ((xs.size : Nat) : Int)).toNat else min k.toNat xs.size)), toks := s.toks }) : wpAny (model prog w0) A (call (.builtin "list.insert") [.ref l, .int k t, w]) Q E s := by
  have ar := F.args_list_insert_3 (.ref l) (.int k t) w
  have hT : s.TypeIs (.ref l) "list" := ⟨_, e, rfl⟩
  have m := @PySem.AutoListH.list_insert_list_int_val_1 l its.toArray n k t w hfit hsz
  have en := F.entry_list_insert
  revert m en
  generalize Builtin.«list.insert» = B
  intro m en
  exact call_meets (s := s) (self := .ref l) F.slot_list_insert hT en ar m ⟨e, h⟩
theorem mt_insert : MtM X "list.insert" rInsert := by
  intro pins s σ H x vs v us Q I rx rv h
  obtain ⟨l, xs, k, y, rfl, rfl, hH, hk, hz, q⟩ := h
  cases rx
  obtain ⟨u, w, rfl, ⟨t, rfl⟩, rw'⟩ := rv.two
  obtain ⟨z, its, n, r, hl, e⟩ := I.lstM hH
  have line := line63
  have hfit : ¬ (!Builtin.List.listFitsIndex (k : Int)) = true := by
    unfold Builtin.List.listFitsIndex
    have h1 : -(2 ^ 63 : Int) ≤ (k : Int) := by omega
    have h2 : (k : Int) < 2 ^ 63 := by omega
    rw [decide_eq_true h1, decide_eq_true h2]
    decide
  have hsz : its.toArray.size ≤ sizeLine := by rw [List.size_toArray]; omega
  refine ins_step e hfit hsz ?_
  refine ⟨.non, _, I.lset (its' := its.take k ++ w :: its.drop k) hH e ?_ ((Vals.take k r).append (.cons rw' (Vals.drop k r))) ?_, rfl, q⟩
  · have hks : k ≤ its.length := by omega
    have e1 : (if (k : Int) < 0 then ((k : Int) + ((its.toArray.size : Nat) : Int)).toNat else min (k : Int).toNat its.toArray.size) = k := by rw [if_neg (by omega), List.size_toArray]; omega
    show (its.toArray.extract 0 (if (k : Int) < 0 then ((k : Int) + ((its.toArray.size : Nat) : Int)).toNat else min (k : Int).toNat its.toArray.size)).push w ++ its.toArray.extract (if (k : Int) < 0 then ((k : Int) + ((its.toArray.size : Nat) : Int)).toNat else min (k : Int).toNat its.toArray.size) its.toArray.size = _
    rw [e1]
    have e2 : List.take (its.length - k) (List.drop k its) = List.drop k its := List.take_of_length_le (by rw [List.length_drop]; exact Nat.le_refl _)
    simp [e2]
  · rw [List.length_append, List.length_cons, List.length_take, List.length_drop]
    omega
end
end L2
namespace L2
open PySem PySem.Spec PyProof.Rows
section
variable {X : Cx}
def StrsOk (ys : List Str) : Prop := ∀ y ∈ ys, PyData.strOk y = true
theorem st_canLay : ∀ ys : List Str, StrsOk ys → PyData.canLayAll0 (ys.map PyData.str) = true
  | [], _ => rfl
  | y :: r, h => by
    have h1 := h y List.mem_cons_self
    have h2 := st_canLay r fun z hz => h z (List.mem_cons_of_mem _ hz)
    simp [PyData.canLayAll0, PyData.canLay0, h1, h2]
theorem st_depth : ∀ ys : List Str, PyData.depthAll (ys.map PyData.str) = 0
  | [] => rfl
  | _ :: r => by simp [PyData.depthAll, PyData.depth, st_depth r]
theorem st_shaped {ys : List Str} (h : StrsOk ys) : SeqAt.shaped (.list (ys.map PyData.str)) = true := by
  simp [SeqAt.shaped, PyData.canLay0, PyData.depth, st_canLay ys h, st_depth]
theorem st_sameAll : ∀ ys zs : List Str, PySem.Spec.sameAll (ys.map PyData.str) (zs.map PyData.str) = decide (ys = zs)
  | [], [] => by simp [PySem.Spec.sameAll]
  | [], _ :: _ => by simp [PySem.Spec.sameAll]
  | _ :: _, [] => by simp [PySem.Spec.sameAll]
  | a :: r, b :: t => by
    simp only [List.map_cons, PySem.Spec.sameAll, PySem.Spec.same, st_sameAll r t]
    by_cases h : a = b <;> by_cases h' : r = t <;> simp [h, h']
theorem st_same (ys zs : List Str) : PySem.Spec.same (.list (ys.map PyData.str)) (.list (zs.map PyData.str)) = decide (ys = zs) := by
  simp only [PySem.Spec.same]; exact st_sameAll ys zs
theorem st_carried : ∀ {vs : List Value} {ys : List Str}, Vals (ys.map V.str) vs → CarriedAll vs (ys.map PyData.str)
  | _, [], r => by
    rw [List.map_nil] at r
    cases r
    exact .nil
  | _, y :: ys, r => by
    rw [List.map_cons] at r
    cases r with
    | cons r1 r2 =>
      obtain ⟨t, rfl⟩ := r1
      exact .cons (.str y t) (st_carried r2)
/-- two lists of texts compared -/
theorem op_eqS (hu : X.A.units + 64 < cLine) : OpR X (compareOp .Eq) (fun x y H Q => ∃ (a b : Addr) (ys zs : List Str), x = .ref a ∧ y = .ref b ∧ SqL X.K H a (ys.map V.str) ∧ SqL X.K H b (zs.map V.str) ∧ StrsOk ys ∧ StrsOk zs ∧ Q (.bl (decide (ys = zs))) H) := by
  intro pins s σ H x y v u Q I rx ry h
  obtain ⟨a, b, ys, zs, rfl, rfl, ha, hb, oa, ob, q⟩ := h
  cases rx
  cases ry
  obtain ⟨its, r, pl, hz⟩ := I.list ha
  obtain ⟨its2, r2, pl2, hz2⟩ := I.list hb
  exact eq_dataH_same (reads_newData pl.isList (st_carried r)) (reads_newData pl2.isList (st_carried r2)) (st_shaped oa) (st_shaped ob) hu (SeqAt.noMix_of_shape (.list .str) rfl _ _ (list_map_has fun _ => rfl) (list_map_has fun _ => rfl)) (by rw [st_same]; exact ⟨.bl _, H, I, rfl, q⟩)
theorem op_neS (hu : X.A.units + 64 < cLine) : OpR X (compareOp .NotEq) (fun x y H Q => ∃ (a b : Addr) (ys zs : List Str), x = .ref a ∧ y = .ref b ∧ SqL X.K H a (ys.map V.str) ∧ SqL X.K H b (zs.map V.str) ∧ StrsOk ys ∧ StrsOk zs ∧ Q (.bl (!decide (ys = zs))) H) := by
  intro pins s σ H x y v u Q I rx ry h
  obtain ⟨a, b, ys, zs, rfl, rfl, ha, hb, oa, ob, q⟩ := h
  cases rx
  cases ry
  obtain ⟨its, r, pl, hz⟩ := I.list ha
  obtain ⟨its2, r2, pl2, hz2⟩ := I.list hb
  exact ne_dataH_same (reads_newData pl.isList (st_carried r)) (reads_newData pl2.isList (st_carried r2)) (st_shaped oa) (st_shaped ob) hu (SeqAt.noMix_of_shape (.list .str) rfl _ _ (list_map_has fun _ => rfl) (list_map_has fun _ => rfl)) (by rw [st_same]; exact ⟨.bl _, H, I, rfl, q⟩)
end
end L2
namespace Rp
open PySem PySem.NumText L2 Fig
/-! ### what the program's functions promise -/
def NumOk (n : Int) : Prop := n.natAbs < 10 ^ 1010
def spPacked (K : PySem.W.Frag) : Sp := fun vs H Q _ => ∃ (a : Addr) (ns : List Int), vs = [.ref a] ∧ SqL K H a (ns.map V.int) ∧ ns.length ≤ 500 ∧ (∀ n ∈ ns, NumOk n) ∧ ∀ (z : Str) (H' : Hp), Same H H' → z.cps.toList = rowTxt (pack ns) → Q (.str z) H'
def spRead (C : Addr) : Sp := fun vs H Q E => ∃ z : Str, vs = [.str z] ∧ Small z ∧
  (∀ ps, readT z.cps.toList = some ps → (valsAll ps).length ≤ 100000 ∧ ∀ (p : Addr) (H' : Hp), Same H H' → H p = none → H' p = some (.lst ((valsAll ps).map V.int)) → Q (.ref p) H') ∧ (readT z.cps.toList = none → ∀ H', Same H H' → E (.ref C) none H')
def spMany (C : Addr) : Sp := fun vs H Q E => ∃ z : Str, vs = [.str z] ∧ Small z ∧
  (∀ ps, readT z.cps.toList = some ps → ∀ H' : Hp, Same H H' → Q (.int (manyAll ps)) H') ∧ (readT z.cps.toList = none → ∀ H', Same H H' → E (.ref C) none H')
def Part.tup : Part → List V
  | .one n => [.str "one", .int n]
  | .same n k => [.str "same", .int n, .int k]
  | .rise a b => [.str "rise", .int a, .int b]
/-- a list of the tuples of parts -/
def PartsAt (H : Hp) (p : Addr) (ps : List Part) : Prop := ∃ rs : List Addr, H p = some (.lst (rs.map V.ref)) ∧ rs.length = ps.length ∧ ∀ (i : Nat) (r : Addr) (q : Part), rs[i]? = some r → ps[i]? = some q → H r = some (.tup q.tup)
def spParts (C : Addr) : Sp := fun vs H Q E => ∃ z : Str, vs = [.str z] ∧ Small z ∧
  (∀ ps, readT z.cps.toList = some ps → ∀ (p : Addr) (H' : Hp), Same H H' → PartsAt H' p ps → Q (.ref p) H') ∧ (readT z.cps.toList = none → ∀ H', Same H H' → E (.ref C) none H')
def tidyT (cs : List Nat) : Bool := match readT cs with
  | some ps => decide (rowTxt (pack (valsAll ps)) = cs)
  | none => false
def spTidy : Sp := fun vs H Q _ => ∃ z : Str, vs = [.str z] ∧ Small z ∧ (∀ ps, readT z.cps.toList = some ps → (valsAll ps).length ≤ 500 ∧ ∀ n ∈ valsAll ps, NumOk n) ∧ ∀ H', Same H H' → Q (.bl (tidyT z.cps.toList)) H'
/-- a def that stands ready to be called, and may refuse -/
def ReadyX (P : Program) (w : World) (K : PySem.W.Frag) (mg : Str → Option Value) (base : Heap) (x : Str) (ps : List Str) (sp : Sp) : Prop :=
  ∃ a d, FnOk P w K mg base (CXE P w) 8 a d ps sp ∧ Binds K d ps [] ∧ PySem.W.keepIn K (.ref a) = true ∧ mg x = some (.ref a)
theorem readyX {P : Program} {w : World} {K : PySem.W.Frag} {mg : Str → Option Value} {base : Heap} {h : Heap} {x : Str} {ps : List Str} {sp : Sp} {n : Nat} {a : Addr} {d : FuncData} (X : K.In h) (G : h.Ns mainGlobals mg) (F : FnOk P w K mg base (CXE P w) n a d ps sp) (hn : n ≤ 8) (b : Binds K d ps []) (k : PySem.W.keepIn K (.ref a) = true) (m : PySem.W.nsIn K mainGlobals x = some (some (.ref a))) :
    ReadyX P w K mg base x ps sp := ⟨a, d, F.mono hn, b, k, PySem.W.mg_of X G m⟩
/-! ### lengths of texts -/
theorem codes_len2 {m : Int} {k : Nat} (hk : 0 < k) (h : m.natAbs < 10 ^ k) : (codesOf m).length ≤ k + 1 := by
  unfold codesOf
  split
  · rw [List.length_cons]
    have := dig_len_le (n := (-m).toNat) k hk (by omega)
    omega
  · have := dig_len_le (n := m.toNat) k hk (by omega)
    omega
theorem inter_len (c : Nat) (L : Nat) : ∀ (ts : List (List Nat)), (∀ t ∈ ts, t.length ≤ L) → (inter c ts).length ≤ ts.length * (L + 1)
  | [], _ => Nat.zero_le _
  | [t], h => by
    have := h t List.mem_cons_self
    show t.length ≤ 1 * (L + 1)
    omega
  | t :: u :: r, h => by
    have h1 := h t List.mem_cons_self
    have h2 := inter_len c L (u :: r) fun x hx => h x (List.mem_cons_of_mem _ hx)
    show (t ++ c :: inter c (u :: r)).length ≤ (r.length + 1 + 1) * (L + 1)
    rw [List.length_append, List.length_cons, Nat.add_mul _ 1]
    have e : (u :: r).length = r.length + 1 := rfl
    rw [e] at h2
    omega
theorem inter_mem {c : Nat} : ∀ {ts : List (List Nat)} {x : Nat}, x ∈ inter c ts → x = c ∨ ∃ t ∈ ts, x ∈ t
  | [], x, h => nomatch h
  | [t], x, h => .inr ⟨t, List.mem_cons_self, h⟩
  | t :: u :: r, x, h => by
    have h' : x ∈ t ++ c :: inter c (u :: r) := h
    rcases List.mem_append.mp h' with z | z
    · exact .inr ⟨t, List.mem_cons_self, z⟩
    · rcases List.mem_cons.mp z with z | z
      · exact .inl z
      · rcases inter_mem z with y | ⟨q, hq, y⟩
        · exact .inl y
        · exact .inr ⟨q, List.mem_cons_of_mem _ hq, y⟩
theorem txt_codes {p : Part} {c : Nat} (h : c ∈ p.txt) : c < 128 := by
  cases p with
  | one n => have := codes_mem (n := n) h; omega
  | same n k =>
    rcases List.mem_append.mp h with z | z
    · have := codes_mem z; omega
    · rcases List.mem_cons.mp z with z | z
      · omega
      · have := codes_mem z; omega
  | rise a b =>
    rcases List.mem_append.mp h with z | z
    · have := codes_mem z; omega
    · rcases List.mem_cons.mp z with z | z
      · omega
      · rcases List.mem_cons.mp z with z | z
        · omega
        · have := codes_mem z; omega
/-- the length of a part's text, its numbers being below 10^k -/
def Part.below (k : Nat) : Part → Prop
  | .one n => n.natAbs < 10 ^ k
  | .same n m => n.natAbs < 10 ^ k ∧ m.natAbs < 10 ^ k
  | .rise a b => a.natAbs < 10 ^ k ∧ b.natAbs < 10 ^ k
theorem Part.len_txt {k : Nat} (hk : 0 < k) : ∀ {p : Part}, p.below k → p.txt.length ≤ 2 * k + 4
  | .one n, h => by
    have := codes_len2 hk (show n.natAbs < 10 ^ k from h)
    show (codesOf n).length ≤ _
    omega
  | .same n m, h => by
    have h1 := codes_len2 hk (show n.natAbs < 10 ^ k from h.1)
    have h2 := codes_len2 hk (show m.natAbs < 10 ^ k from h.2)
    show (codesOf n ++ 120 :: codesOf m).length ≤ _
    rw [List.length_append, List.length_cons]
    omega
  | .rise a b, h => by
    have h1 := codes_len2 hk (show a.natAbs < 10 ^ k from h.1)
    have h2 := codes_len2 hk (show b.natAbs < 10 ^ k from h.2)
    show (codesOf a ++ 46 :: 46 :: codesOf b).length ≤ _
    rw [List.length_append, List.length_cons, List.length_cons]
    omega
theorem rowTxt_small {ps : List Part} {k : Nat} (hk : 0 < k) (h : ∀ p ∈ ps, p.below k) (hl : ps.length * (2 * k + 5) ≤ 100000) {z : Str} (hz : z.cps.toList = rowTxt ps) : Small z := by
  refine ⟨?_, fun c hc => ?_⟩
  · rw [← txt_len, hz]
    have := inter_len 32 (2 * k + 4) (ps.map Part.txt) fun t ht => by
      obtain ⟨p, hp, rfl⟩ := List.mem_map.mp ht
      exact Part.len_txt hk (h p hp)
    rw [List.length_map] at this
    exact Nat.le_trans this hl
  · rw [hz] at hc
    rcases inter_mem hc with z1 | ⟨t, ht, z1⟩
    · rw [z1]; decide
    · obtain ⟨p, _, rfl⟩ := List.mem_map.mp ht
      exact Nat.lt_trans (txt_codes z1) (by decide)
theorem packF_len : ∀ (f : Nat) (row : List Int), (packF f row).length ≤ row.length
  | 0, row => by unfold packF; exact Nat.zero_le _
  | f + 1, [] => by unfold packF; exact Nat.zero_le _
  | f + 1, v :: r => by
    unfold packF
    split
    · rename_i c
      have := packF_len f ((v :: r).drop (runN 0 v (v :: r)))
      rw [List.length_drop, List.length_cons] at this
      rw [List.length_cons, List.length_cons]
      omega
    · split
      · rename_i c
        have := packF_len f ((v :: r).drop (runN 1 v (v :: r)))
        rw [List.length_drop, List.length_cons] at this
        rw [List.length_cons, List.length_cons]
        omega
      · have := packF_len f r
        rw [List.length_cons, List.length_cons]
        omega
theorem packF_below {k : Nat} : ∀ (f : Nat) (row : List Int), (∀ n ∈ row, n.natAbs + 500 < 10 ^ k) → row.length ≤ 500 → ∀ p ∈ packF f row, p.below k
  | 0, _, _, _, p, h => by unfold packF at h; cases h
  | f + 1, [], _, _, p, h => by unfold packF at h; cases h
  | f + 1, v :: r, hb, hl, p, h => by
    have hv := hb v List.mem_cons_self
    have h0 := runN_le 0 (v :: r) v
    have h1 := runN_le 1 (v :: r) v
    have sub : ∀ j, ∀ n ∈ (v :: r).drop j, n.natAbs + 500 < 10 ^ k := fun j n hn => hb n (List.mem_of_mem_drop hn)
    have sl : ∀ j, ((v :: r).drop j).length ≤ 500 := fun j => by rw [List.length_drop]; omega
    unfold packF at h
    split at h
    · rename_i c
      rcases List.mem_cons.mp h with rfl | h
      · exact ⟨by omega, by omega⟩
      · exact packF_below f _ (sub _) (sl _) p h
    · split at h
      · rename_i c
        rcases List.mem_cons.mp h with rfl | h
        · exact ⟨by omega, by omega⟩
        · exact packF_below f _ (sub _) (sl _) p h
      · rcases List.mem_cons.mp h with rfl | h
        · show v.natAbs < 10 ^ k; omega
        · exact packF_below f r (sub 1) (sl 1) p h
end Rp
namespace Rp
open PySem PySem.NumText L2 Fig
theorem tLC_range {ta : TA} {telt : TE} {js : List Nat} {σ : St} {H : Hp} {Q : VK} (n : Int) (g : Nat → V) (hv : ∀ Q' : List V → Hp → Prop, Q' [.int n] H → ta σ H Q') (h0 : 0 ≤ n) (hn : n ≤ 1000000)
    (step : ∀ (i : Nat) (H' : Hp) (Q' : VK), i < n.toNat → Q' (g i) H' → telt (some (.int ((0 : Int) + (i : Int))) :: capt σ js) H' Q') (q : ∀ D, H D = none → Q (.ref D) (upd H D (.lst ((List.range n.toNat).map g)))) : tLC (iRng1 ta) js telt σ H Q := by
  have line := line_big
  exact hv _ ⟨n, rfl, by omega, by omega, fun D hD => lc_vals (Q := Q) (f := fun i => .int ((0 : Int) + (i : Int))) g (by omega) step (q D hD)⟩
theorem rep_ints (k : Nat) (n : Int) : (List.replicate k [V.int n]).flatten = (List.replicate k n).map V.int := by
  induction k with
  | zero => rfl
  | succ k ih => rw [List.replicate_succ, List.replicate_succ, List.flatten_cons, List.map_cons, ih]; rfl
theorem lit_blank : (Str.ofString " ") = ⟨#[32]⟩ := by decide +kernel
theorem lit_x : (Str.ofString "x").cps.toList = [120] := by decide +kernel
theorem lit_dots : (Str.ofString "..").cps.toList = [46, 46] := by decide +kernel
/-- texts that write parts -/
def Tx (k : Nat) (ys : List Str) (ps : List Part) : Prop := ys.map (fun y => y.cps.toList) = ps.map Part.txt ∧ ∀ p ∈ ps, p.ok ∧ p.below k
theorem Tx.nil (k : Nat) : Tx k [] [] := ⟨rfl, fun _ h => nomatch h⟩
theorem Tx.len {k : Nat} {ys : List Str} {ps : List Part} (h : Tx k ys ps) : ys.length = ps.length := by
  have := congrArg List.length h.1
  simpa using this
theorem Tx.push {k : Nat} {ys : List Str} {ps : List Part} (h : Tx k ys ps) {y : Str} {q : Part} (e : y.cps.toList = q.txt) (ok : q.ok) (b : q.below k) : Tx k (ys ++ [y]) (ps ++ [q]) := by
  refine ⟨by rw [List.map_append, List.map_append, h.1]; show _ ++ [y.cps.toList] = _ ++ [q.txt]; rw [e], fun p hp => ?_⟩
  rcases List.mem_append.mp hp with hp | hp
  · exact h.2 p hp
  · rw [List.mem_singleton.mp hp]; exact ⟨ok, b⟩
theorem Tx.short {k : Nat} (hk : 0 < k) {ys : List Str} {ps : List Part} (h : Tx k ys ps) : ∀ y ∈ ys, y.length ≤ 2 * k + 4 := fun y hy => by
  have : y.cps.toList ∈ ps.map Part.txt := by rw [← h.1]; exact List.mem_map.mpr ⟨y, hy, rfl⟩
  obtain ⟨p, hp, e⟩ := List.mem_map.mp this
  rw [← txt_len, ← e]
  exact Part.len_txt hk (h.2 p hp).2
theorem sum_len {L : Nat} : ∀ (ys : List Str), (∀ y ∈ ys, y.length ≤ L) → (ys.map (·.length)).sum ≤ ys.length * L
  | [], _ => Nat.zero_le _
  | y :: r, h => by
    have h1 := h y List.mem_cons_self
    have h2 := sum_len r fun z hz => h z (List.mem_cons_of_mem _ hz)
    rw [List.map_cons, List.sum_cons, List.length_cons, Nat.add_mul, Nat.one_mul]
    omega
theorem join_ok {L : Nat} {ys : List Str} (h : ∀ y ∈ ys, y.length ≤ L) (hl : ys.length * L + ys.length ≤ 2000000) : JoinOk (Str.ofString " ") ys = true := by
  have line := line_big
  have e1 : (Str.ofString " ").length = 1 := by decide +kernel
  have := sum_len ys h
  unfold JoinOk Builtin.Str.tooLong
  rw [StrLaws.joinTotal, e1, decide_eq_false (by omega)]
  rfl
theorem Tx.join {k : Nat} (hk : 0 < k) {ys : List Str} {ps : List Part} (h : Tx k ys ps) (hl : ps.length * (2 * k + 5) ≤ 100000) :
    JoinOk (Str.ofString " ") ys = true ∧ (Txt.join (Str.ofString " ") ys).cps.toList = rowTxt ps ∧ Small (Txt.join (Str.ofString " ") ys) ∧ readT (Txt.join (Str.ofString " ") ys).cps.toList = some ps := by
  have e : (Txt.join (Str.ofString " ") ys).cps.toList = rowTxt ps := by rw [lit_blank, txt_join, h.1]; rfl
  have hn := h.len
  refine ⟨join_ok (L := 2 * k + 4) (h.short hk) ?_, e, rowTxt_small hk (fun p hp => (h.2 p hp).2) hl e, by rw [e]; exact read_rowTxt fun p hp => (h.2 p hp).1⟩
  rw [hn]
  have : ps.length * (2 * k + 5) = ps.length * (2 * k + 4) + ps.length := Nat.mul_succ _ _
  omega
theorem many_push (ps : List Part) (q : Part) : manyAll (ps ++ [q]) = manyAll ps + q.many := by
  unfold manyAll
  rw [List.foldl_append]
  rfl
theorem vals_push (ps : List Part) (q : Part) : valsAll (ps ++ [q]) = valsAll ps ++ q.vals := by
  unfold valsAll
  rw [List.flatMap_append]
  simp
theorem str_part1 (n : Int) : (Str.ofString (toString n)).cps.toList = (Part.one n).txt := str_all n
theorem str_part2 (n k : Int) : (Str.ofString (toString n) ++ Str.ofString "x" ++ Str.ofString (toString k)).cps.toList = (Part.same n k).txt := by
  rw [app_codes, app_codes, str_all, str_all, lit_x, List.append_assoc]
  rfl
theorem str_part3 (n k : Int) : (Str.ofString (toString n) ++ Str.ofString ".." ++ Str.ofString (toString k)).cps.toList = (Part.rise n k).txt := by
  rw [app_codes, app_codes, str_all, str_all, lit_dots, List.append_assoc]
  rfl
theorem log_k {m : Int} {k : Nat} (hk : k ≤ 500) (h : m.natAbs < 10 ^ k) : m.natAbs.log2 < 1920 := by
  have h2 : m.natAbs < 2 ^ 1900 := by
    refine Nat.lt_of_lt_of_le h (Nat.le_trans (Nat.pow_le_pow_right (by decide) hk) ?_)
    decide +kernel
  by_cases hz : m.natAbs = 0
  · rw [hz]; decide
  · have := (Nat.log2_lt hz).mpr h2
    omega
theorem str_len {m : Int} {k : Nat} (hk : 0 < k) (h : m.natAbs < 10 ^ k) : (Str.ofString (toString m)).length ≤ k + 1 := by
  rw [← txt_len, str_all]
  exact codes_len2 hk h
theorem at_back (ms : List Int) (i : Nat) (h : i < ms.length) : ∃ v, atI (ms.map V.int) ((i : Int) - 1) = some (.int v) := by
  cases i with
  | zero =>
    have hne : ms ≠ [] := fun z => by rw [z] at h; simp at h
    refine ⟨ms.getLast hne, ?_⟩
    have e : ms.map V.int = ms.dropLast.map V.int ++ [.int (ms.getLast hne)] := by
      conv => lhs; rw [← List.dropLast_concat_getLast hne]
      rw [List.map_append]; rfl
    rw [e]
    exact atI_last _ _
  | succ j =>
    refine ⟨ms[j], ?_⟩
    have e : (((j + 1 : Nat) : Int) - 1) = (j : Int) := by omega
    rw [e]
    exact atI_nat (by rw [List.getElem?_map, List.getElem?_eq_getElem (by omega)]; rfl)
end Rp
namespace L2
open PySem PySem.Spec PyProof.Rows
/-- a row of written texts -/
def strConsts : List Expr → Option (List Str)
  | [] => some []
  | .Constant (.str z) _ _ :: r => (strConsts r).map (z :: ·)
  | _ => none
def tStrs (zs : List Str) : TA := fun _ H Q => Q (zs.map V.str) H
theorem pa_strs {X : Cx} : ∀ {es : List Expr} {zs : List Str}, strConsts es = some zs → PA X es (tStrs zs)
  | [], zs, h => by
    cases h
    exact pa_nil
  | e :: r, zs, h => by
    unfold strConsts at h
    split at h
    · rename_i h1; cases h1
    · rename_i z j p r' h1
      cases h1
      cases e2 : strConsts r with
      | none => rw [e2] at h; cases h
      | some ws =>
        rw [e2] at h
        cases h
        exact pa_cons pe_str (pa_strs e2) (by simp [starEach])
    · cases h
end L2
namespace Rp
open PySem PySem.NumText L2 Fig
/-- the tuples of parts at these addresses -/
def TupsAt (H : Hp) (rs : List Addr) (ps : List Part) : Prop := rs.length = ps.length ∧ ∀ (i : Nat) (r : Addr) (q : Part), rs[i]? = some r → ps[i]? = some q → H r = some (.tup q.tup)
theorem TupsAt.same {H H' : Hp} {rs : List Addr} {ps : List Part} (h : TupsAt H rs ps) (s : Same H H') : TupsAt H' rs ps := ⟨h.1, fun i r q a b => s _ _ (h.2 i r q a b)⟩
theorem TupsAt.upd {H : Hp} {rs : List Addr} {ps : List Part} {l : Addr} {xs ys : List V} (h : TupsAt H rs ps) (e : H l = some (.lst xs)) : TupsAt (upd H l (.lst ys)) rs ps :=
  ⟨h.1, fun i r q a b => by
    have z := h.2 i r q a b
    rw [upd_ne (ne_of z e (fun w => by cases w))]
    exact z⟩
theorem TupsAt.push {H : Hp} {rs : List Addr} {ps : List Part} {t : Addr} {q : Part} (h : TupsAt H rs ps) (e : H t = some (.tup q.tup)) : TupsAt H (rs ++ [t]) (ps ++ [q]) := by
  refine ⟨by rw [List.length_append, List.length_append, h.1]; rfl, fun i r p a b => ?_⟩
  rcases Nat.lt_or_ge i rs.length with c | c
  · rw [List.getElem?_append_left c] at a
    rw [List.getElem?_append_left (by rw [← h.1]; exact c)] at b
    exact h.2 i r p a b
  · rw [List.getElem?_append_right c] at a
    rw [List.getElem?_append_right (by rw [← h.1]; exact c)] at b
    cases hz : i - rs.length with
    | zero =>
      rw [hz] at a
      rw [← h.1, hz] at b
      cases a
      cases b
      exact e
    | succ n =>
      rw [hz] at a
      simp at a
theorem tup_int (q : Part) (j : Nat) (h1 : 1 ≤ j) (h2 : j < q.tup.length) : ∃ n : Int, q.tup[j]? = some (.int n) := by
  cases q with
  | one n =>
    have h3 : j < 2 := h2
    have : j = 1 := by omega
    subst this
    exact ⟨n, rfl⟩
  | same n k =>
    have h3 : j < 3 := h2
    have : j = 1 ∨ j = 2 := by omega
    rcases this with rfl | rfl
    · exact ⟨n, rfl⟩
    · exact ⟨k, rfl⟩
  | rise a b =>
    have h3 : j < 3 := h2
    have : j = 1 ∨ j = 2 := by omega
    rcases this with rfl | rfl
    · exact ⟨a, rfl⟩
    · exact ⟨b, rfl⟩
theorem tup_str (q : Part) : ∃ z : Str, q.tup[0]? = some (.str z) := by
  cases q <;> exact ⟨_, rfl⟩
theorem tup_len (q : Part) : 1 ≤ q.tup.length ∧ q.tup.length ≤ 3 := by
  cases q <;> simp [Part.tup]
end Rp
namespace L2
open PySem PySem.Spec PyProof.Rows
/-! ### sum of ints, range objects, a list of a range of any size -/
section
variable {X : Cx}
theorem call_sum_ints (hc : X.calm = true) : CallR X (.builtin "sum") (fun xs H Q => ∃ (p : Addr) (ns : List Int), xs = [.ref p] ∧ SqL X.K H p (ns.map V.int) ∧ Q (.int ns.sum) H) := by
  intro pins s σ H xs us Q I r h
  obtain ⟨p, ns, rfl, hl, q⟩ := h
  obtain ⟨u, rfl, ru⟩ := vals1 r
  cases ru
  obtain ⟨its, rv, pl, hz⟩ := I.list hl
  have hi : IntsAre its ns := ints_are rv
  obtain ⟨ks, hx⟩ := hi.allInts.items
  refine sum_intListG (xs := ks) (I.ok.hd hc) (hx ▸ pl.isList) fun h' tk t' kp => ?_
  have e1 : ks.toList.map (·.1) = ns := by
    rw [← nums_intItems, ← hx]
    exact hi.numsOf
  have e2 : preSum (numAt ks) ks.size = ns.sum := by rw [preSum_eq, List.take_of_length_le (by simp), e1]
  rw [e2]
  exact ⟨.int ns.sum, H, I.kept kp, ⟨t', rfl⟩, q⟩
theorem call_rng : CallR X (.type "range") (fun xs H Q => ∃ i j : Int, xs = [.int i, .int j] ∧ ∀ p, H p = none → Q (.ref p) (upd H p (.rng i j))) := by
  intro pins s σ H xs us Q I r h
  obtain ⟨i, j, rfl, q⟩ := h
  obtain ⟨u, w, rfl, ⟨t, rfl⟩, ⟨t', rfl⟩⟩ := r.two
  refine call_range_2 ⟨.ref s.heap.objs.size, _, I.laid (t' := s.toks + 1) (fun b u e => Heap.get?_push_of_some _ e) (Nat.le_refl _) ?_, rfl, q _ I.fresh⟩
  exact ⟨_, _, _, Heap.get?_push_size _ rfl⟩
end
section
variable {prog : Program} {w : World} {A : Around} {E : Value → Shared → Prop} {s : Shared}
abbrev GotInts (lo st : Int) (acc : Array Value) (m : Nat) : Prop := ItemsOf (fun i v => ∃ t, v = .int (lo + i * st) t) acc m
theorem ext_long {R : Result → Shared → Prop} {g : Addr} {lo hi st : Int} {t1 t2 t3 : Tok} {m : Nat} (hd : A.handled = none) (hg : IsRange s.heap g lo hi st t1 t2 t3) (big : Builtin.Range.small lo hi st = false)
    (hm : Builtin.Range.rangeSize lo hi st = m) (hl : m ≤ 2 ^ 24) (D : Addr) (res : Value) (c0 : Nat) (hD : s.heap.get? D = some { cls := .type "list", data := .seq #[] c0 })
    (hR : ∀ h' tk acc c', (∀ b o, b ≠ D → s.heap.get? b = some o → h'.get? b = some o) → h'.get? D = some { cls := .type "list", dict := none, data := .seq acc c', slots := #[] } → GotInts lo st acc m → R (.ok (.ret res)) { s with heap := h', toks := tk }) :
    wpAny (model prog w) A.in1 (Builtin.List.listExtendWith (.ref D) (.ref g) res) (fun fin s' => match fin with | .done f => R (.ok f) s' | .again c' => c'.quiet = true ∧ codeAny (model prog w) A c' R s') (fun e s' => R (.error e) s') s := by
  have neG : D ≠ g := fun e => by rw [e, hg] at hD; simp at hD
  have neI : D ≠ s.heap.objs.size := Nat.ne_of_lt (Heap.lt_size hD)
  have neL : D ∉ [s.heap.objs.size] := fun z => neI (List.mem_singleton.mp z)
  have Wk := (Walks.longrange (prog := prog) (w := w) (A := A.in1) hd s.heap.objs.size lo st m).toS
  have main : ∀ (h : Heap) (c1 tk : Nat), IsLongIter h s.heap.objs.size (lo + ((0 : Nat) : Int) * st) ((m : Int) - ((0 : Nat) : Int)) st → (∀ b o, b ≠ D → s.heap.get? b = some o → h.get? b = some o) →
      h.get? D = some { cls := .type "list", data := .seq #[] c1 } → codeAny (model prog w) A (.builtin "list.extend.loop" ⟨[.ref D, .ref s.heap.objs.size, res], []⟩) R { s with heap := h, toks := tk } := by
    intro h c1 tk it0 kp hD1
    refine codeAny_extend_loopS Wk (by rw [sizeLine_eq]; omega) D neL res m 0 _ #[] c1 rfl (Nat.zero_le _) it0 hD1 (ItemsOf.nil _) fun s' acc c' mv hD' got => ?_
    rw [Moved.eq_with mv]
    refine hR s'.heap s'.toks acc c' (fun b o hb e => mv.heap b o (fun z => ?_) (kp b o hb e)) hD' got
    rcases List.mem_cons.mp z with z | z
    · exact hb z
    · rw [List.mem_singleton.mp z] at e
      exact absurd (Heap.lt_size e) (Nat.lt_irrefl _)
  unfold Builtin.List.listExtendWith
  refine wpAny_bind (wpAny_typeOf (T := "range") ⟨_, hg, rfl⟩ ?_)
  have k1 : Builtin.List.listSameRef (.ref D) (.ref g) = false := by simp [Builtin.List.listSameRef, neG]
  have k2 : (Value.type "range" == Value.type "list" || Value.type "range" == Value.type "tuple") = false := by decide
  have k3 : (Value.type "range" == Value.type "list") = false := by decide
  have k4 : (Value.type "range" == Value.type "tuple") = false := by decide
  simp only [k1, k2, k3, k4, Bool.or_false, Bool.false_eq_true, if_false]
  refine wpAny_bind (wpAny_pyIter_longrange hg big (wpAny_bind (wpAny_holding (wpAny_hint_range (n := m) (Heap.get?_push_of_some _ hg) hm hl ?_))))
  have it1 : IsLongIter (s.heap.push { cls := .type "longrange_iterator", data := .fields #[rawInt lo, rawInt (Builtin.Range.rangeSize lo hi st), rawInt st] }) s.heap.objs.size (lo + ((0 : Nat) : Int) * st) ((m : Int) - ((0 : Nat) : Int)) st := by
    show IsLongIter _ _ _ _ _
    rw [hm]
    simpa using Heap.get?_push_size _ rfl
  have hD1 := Heap.get?_push_of_some { cls := .type "longrange_iterator", data := .fields #[rawInt lo, rawInt (Builtin.Range.rangeSize lo hi st), rawInt st] } hD
  refine wpAny_ite_split (fun _ => ?_) (fun _ => wpAny_pure ⟨plainId_quiet F.plain_extend_loop _, main _ c0 _ it1 (fun b o _ e => Heap.get?_push_of_some _ e) hD1⟩)
  refine wpAny_bind (wpAny_rule (wpAny_bind ?_))
  show wpAny _ _ (updateSeq D (·.push .none) >>= fun _ => updateSeq D (·.pop)) _ _ _
  refine wpAny_bind (wpAny_updateSeq hD1 rfl ?_)
  have hD2 := Heap.get?_update_self (Obj.mapSeq (·.push Value.none)) hD1 rfl
  refine wpAny_updateSeq (hz := by seq_fits) hD2 rfl ?_
  have hD3 := Heap.get?_update_self (Obj.mapSeq (·.pop)) hD2 rfl
  refine wpAny_pure ⟨plainId_quiet F.plain_extend_loop _, main _ _ _ ((Heap.get?_update_other _ _ neI).trans ((Heap.get?_update_other _ _ neI).trans it1)) (fun b o hb e => ?_) hD3⟩
  exact (Heap.get?_update_other _ _ (Ne.symm hb)).trans ((Heap.get?_update_other _ _ (Ne.symm hb)).trans (Heap.get?_push_of_some _ e))
theorem init_long {R : Result → Shared → Prop} {g : Addr} {lo hi st : Int} {t1 t2 t3 : Tok} {m : Nat} (hd : A.handled = none) (hg : IsRange s.heap g lo hi st t1 t2 t3) (big : Builtin.Range.small lo hi st = false)
    (hm : Builtin.Range.rangeSize lo hi st = m) (hl : m ≤ 2 ^ 24) (D : Addr) (hD : s.heap.get? D = some { cls := .type "list", data := .seq #[] })
    (hR : ∀ h' tk acc c', (∀ b o, b ≠ D → s.heap.get? b = some o → h'.get? b = some o) → h'.get? D = some { cls := .type "list", dict := none, data := .seq acc c', slots := #[] } → GotInts lo st acc m → R (.ok (.ret .none)) { s with heap := h', toks := tk }) :
    wpAny (model prog w) A.in1 (Builtin.«list.__init__» ⟨[.ref D, .ref g], []⟩) (fun fin s' => match fin with | .done f => R (.ok f) s' | .again c' => c'.quiet = true ∧ codeAny (model prog w) A c' R s') (fun e s' => R (.error e) s') s := by
  have neG : D ≠ g := fun e => by rw [e, hg] at hD; simp at hD
  show wpAny _ _ (do let old ← Builtin.List.listItems (.ref D); Builtin.List.listUpdate (.ref D) (fun _ => #[]); letGo old.toList.reverse; Builtin.List.listExtendWith (.ref D) (.ref g) .none) _ _ s
  refine wpAny_bind ?_
  unfold Builtin.List.listItems
  refine wpAny_bind (wpAny_seqItems hD rfl (wpAny_pure ?_))
  show wpAny _ _ (updateSeq D (fun _ => #[]) >>= fun _ => letGo (#[] : Array Value).toList.reverse >>= fun _ => Builtin.List.listExtendWith (.ref D) (.ref g) .none) _ _ s
  refine wpAny_bind (wpAny_updateSeq hD rfl ?_)
  have hD2 := Heap.get?_update_self (Obj.mapSeq (fun _ => (#[] : Array Value))) hD rfl
  have oth : ∀ b o, b ≠ D → s.heap.get? b = some o → (s.heap.update D (Obj.mapSeq (fun _ => (#[] : Array Value)))).get? b = some o := fun b o hb e => (Heap.get?_update_other _ _ (Ne.symm hb)).trans e
  refine wpAny_bind (wpAny_letGo (ext_long hd (oth g _ (Ne.symm neG) hg) big hm hl D .none _ hD2 fun h' tk acc c' kp hD' got => ?_))
  exact hR h' tk acc c' (fun b o hb e => kp b o hb (oth b o hb e)) hD' got
theorem list_long {Q : Value → Shared → Prop} {g : Addr} {lo hi st : Int} {t1 t2 t3 : Tok} {m : Nat} (hd : A.handled = none) (hg : IsRange s.heap g lo hi st t1 t2 t3) (big : Builtin.Range.small lo hi st = false)
    (hm : Builtin.Range.rangeSize lo hi st = m) (hl : m ≤ 2 ^ 24)
    (hQ : ∀ h' tk acc c', (∀ b o, s.heap.get? b = some o → h'.get? b = some o) → h'.get? s.heap.objs.size = some { cls := .type "list", dict := none, data := .seq acc c', slots := #[] } → GotInts lo st acc m → Q (.ref s.heap.objs.size) { s with heap := h', toks := tk }) :
    wpAny (model prog w) A (call (.type "list") [.ref g]) Q E s := by
  refine callType_codes (Q₁ := fun ob s1 => ob = .ref s.heap.objs.size ∧ s1 = { s with heap := s.heap.push { cls := .type "list", data := .seq #[] } }) F.called_list (F.typeCall_list_1 _) F.entry_list_init (code_list_new _ ⟨rfl, rfl⟩) fun ob s1 z => ?_
  obtain ⟨rfl, rfl⟩ := z
  have hD : (s.heap.push { cls := .type "list", data := .seq #[] }).get? s.heap.objs.size = some { cls := .type "list", data := .seq #[] } := Heap.get?_push_size _ rfl
  refine ⟨⟨_, hD, rfl⟩, F.args_list_init_2 _ _, init_long (A := A.in1) hd (Heap.get?_push_of_some _ hg) big hm hl _ hD fun h' tk acc c' kp hD' got => ?_⟩
  exact ⟨rfl, hQ h' tk acc c' (fun b o e => kp b o (Nat.ne_of_lt (Heap.lt_size e)) (Heap.get?_push_of_some _ e)) hD' got⟩
end
theorem vals_get : ∀ {xs : List V} {us : List Value}, xs.length = us.length → (∀ (k : Nat) x u, xs[k]? = some x → us[k]? = some u → RelV x u) → Vals xs us
  | [], [], _, _ => .nil
  | [], _ :: _, h, _ => nomatch h
  | _ :: _, [], h, _ => nomatch h
  | x :: xs, u :: us, h, g => .cons (g 0 x u rfl rfl) (vals_get (Nat.succ.inj h) fun k y v a b => g (k + 1) y v a b)
section
variable {X : Cx}
theorem call_list_rng (hc : X.calm = true) : CallR X (.type "list") (fun xs H Q => ∃ (p : Addr) (i j : Int), xs = [.ref p] ∧ H p = some (.rng i j) ∧ (j - i).toNat ≤ 2 ^ 24 ∧ ∀ l, H l = none → Q (.ref l) (upd H l (.lst ((List.range (j - i).toNat).map fun k : Nat => V.int (i + (k : Int)))))) := by
  intro pins s σ H xs us Q I r h
  obtain ⟨p, i, j, rfl, hp, hn, q⟩ := h
  obtain ⟨u, rfl, ru⟩ := vals1 r
  cases ru
  obtain ⟨t1, t2, t3, e⟩ := I.hok p _ hp
  have hr : IsRange s.heap p i j 1 t1 t2 t3 := e
  have hz : Builtin.Range.rangeSize i j 1 = (((j - i).toNat : Nat) : Int) := by rw [rangeSize_one]; split <;> omega
  have fin : ∀ (h' : Heap) (tk : Nat) (acc : Array Value) (c' : Nat), (∀ b o, s.heap.get? b = some o → h'.get? b = some o) → h'.get? s.heap.objs.size = some { cls := .type "list", dict := none, data := .seq acc c', slots := #[] } → GotInts i 1 acc (j - i).toNat →
      EP X pins σ Q (.ref s.heap.objs.size) { s with heap := h', toks := tk } := fun h' tk acc c' kp e got => by
    refine ⟨.ref s.heap.objs.size, _, I.laid (t' := tk) kp (Nat.le_refl _) (show ObjOk X.prog X.w _ h' _ (.lst _) from ⟨?_, acc.toList, c', vals_get ?_ fun k x u hx hu => ?_, by simpa using e⟩), rfl, q _ I.fresh⟩
    · rw [List.length_map, List.length_range]
      exact Nat.le_trans hn (by rw [sizeLine_eq]; decide)
    · rw [List.length_map, List.length_range, Array.length_toList, got.1]
    · rw [List.getElem?_map] at hx
      have hk : k < (j - i).toNat := by
        cases z : (List.range (j - i).toNat)[k]? with
        | none => rw [z] at hx; cases hx
        | some y => have := (List.getElem?_eq_some_iff.mp z).1; simpa using this
      rw [List.getElem?_range hk] at hx
      cases hx
      obtain ⟨t, rfl⟩ := got.2 k u (by simpa using hu)
      exact ⟨t, by rw [Int.mul_one]⟩
  by_cases hs : Builtin.Range.small i j 1 = true
  · exact call_list_range (I.ok.hd hc) hr hs hz hn fin
  · exact list_long (I.ok.hd hc) hr (by simpa using hs) hz hn fin
end
end L2
namespace Rp
open PySem PySem.NumText L2 Fig
/-! ### tuples of parts compared -/
open PySem.Spec PyProof.Rows in
def Part.dat : Part → List PyData
  | .one n => [.str "one", .int n]
  | .same n k => [.str "same", .int n, .int k]
  | .rise a b => [.str "rise", .int a, .int b]
section
open PySem.Spec PyProof.Rows
theorem Part.carr {us : List Value} : ∀ {p : Part}, Vals p.tup us → CarriedAll us p.dat
  | .one n, r => by
    cases r with
    | cons r1 r =>
      cases r with
      | cons r2 r =>
        cases r
        obtain ⟨t1, rfl⟩ := r1
        obtain ⟨t2, rfl⟩ := r2
        exact .cons (.str _ _) (.cons (.int _ _) .nil)
  | .same n k, r => by
    cases r with
    | cons r1 r =>
      cases r with
      | cons r2 r =>
        cases r with
        | cons r3 r =>
          cases r
          obtain ⟨t1, rfl⟩ := r1
          obtain ⟨t2, rfl⟩ := r2
          obtain ⟨t3, rfl⟩ := r3
          exact .cons (.str _ _) (.cons (.int _ _) (.cons (.int _ _) .nil))
  | .rise a b, r => by
    cases r with
    | cons r1 r =>
      cases r with
      | cons r2 r =>
        cases r with
        | cons r3 r =>
          cases r
          obtain ⟨t1, rfl⟩ := r1
          obtain ⟨t2, rfl⟩ := r2
          obtain ⟨t3, rfl⟩ := r3
          exact .cons (.str _ _) (.cons (.int _ _) (.cons (.int _ _) .nil))
theorem sok1 : PyData.strOk "one" = true := by decide +kernel
theorem sok2 : PyData.strOk "same" = true := by decide +kernel
theorem sok3 : PyData.strOk "rise" = true := by decide +kernel
theorem Part.shap : ∀ p : Part, SeqAt.shaped (.tuple p.dat) = true
  | .one n => by simp [SeqAt.shaped, Part.dat, PyData.canLay0, PyData.canLayAll0, PyData.depth, PyData.depthAll, sok1]
  | .same n k => by simp [SeqAt.shaped, Part.dat, PyData.canLay0, PyData.canLayAll0, PyData.depth, PyData.depthAll, sok2]
  | .rise a b => by simp [SeqAt.shaped, Part.dat, PyData.canLay0, PyData.canLayAll0, PyData.depth, PyData.depthAll, sok3]
theorem Part.nomix (p q : Part) : PySem.SeqAt.noMix (.tuple p.dat) (.tuple q.dat) = true := by
  cases p <;> cases q <;> simp [Part.dat, PySem.SeqAt.noMix, PySem.SeqAt.noMixAll]
theorem ne12 : ((Str.ofString "one") == (Str.ofString "same")) = false := by decide +kernel
theorem ne13 : ((Str.ofString "one") == (Str.ofString "rise")) = false := by decide +kernel
theorem ne21 : ((Str.ofString "same") == (Str.ofString "one")) = false := by decide +kernel
theorem ne23 : ((Str.ofString "same") == (Str.ofString "rise")) = false := by decide +kernel
theorem ne31 : ((Str.ofString "rise") == (Str.ofString "one")) = false := by decide +kernel
theorem ne32 : ((Str.ofString "rise") == (Str.ofString "same")) = false := by decide +kernel
theorem Part.same_dat (p q : Part) : PySem.Spec.same (.tuple p.dat) (.tuple q.dat) = decide (p = q) := by
  cases p with
  | one n =>
    cases q with
    | one m => simp [Part.dat, PySem.Spec.same, PySem.Spec.sameAll, Bool.beq_eq_decide_eq]
    | same m k => simp only [Part.dat, PySem.Spec.same, PySem.Spec.sameAll, ne12, Bool.false_and]; simp
    | rise a b => simp only [Part.dat, PySem.Spec.same, PySem.Spec.sameAll, ne13, Bool.false_and]; simp
  | same n k =>
    cases q with
    | one m => simp only [Part.dat, PySem.Spec.same, PySem.Spec.sameAll, ne21, Bool.false_and]; simp
    | same m k => simp [Part.dat, PySem.Spec.same, PySem.Spec.sameAll, Bool.beq_eq_decide_eq]
    | rise a b => simp only [Part.dat, PySem.Spec.same, PySem.Spec.sameAll, ne23, Bool.false_and]; simp
  | rise a b =>
    cases q with
    | one m => simp only [Part.dat, PySem.Spec.same, PySem.Spec.sameAll, ne31, Bool.false_and]; simp
    | same m k => simp only [Part.dat, PySem.Spec.same, PySem.Spec.sameAll, ne32, Bool.false_and]; simp
    | rise c d => simp [Part.dat, PySem.Spec.same, PySem.Spec.sameAll, Bool.beq_eq_decide_eq]
theorem op_eqT {X : Cx} (hu : X.A.units + 64 < cLine) : OpR X (compareOp .Eq) (fun x y H Q => ∃ (a b : Addr) (p q : Part), x = .ref a ∧ y = .ref b ∧ SqT X.K H a p.tup ∧ SqT X.K H b q.tup ∧ Q (.bl (decide (p = q))) H) := by
  intro pins s σ H x y v u Q I rx ry h
  obtain ⟨a, b, p, q, rfl, rfl, ha, hb, k⟩ := h
  cases rx
  cases ry
  obtain ⟨its, r, pl, hz⟩ := I.tuple ha
  obtain ⟨its2, r2, pl2, hz2⟩ := I.tuple hb
  exact eq_dataH_same (reads_newDataT pl (Part.carr r)) (reads_newDataT pl2 (Part.carr r2)) p.shap q.shap hu (Part.nomix p q) (by rw [Part.same_dat]; exact ⟨.bl _, H, I, rfl, k⟩)
end
/-! ### texts parted at the first x, at the first two points -/
theorem at_iff {z y : Str} {i : Nat} : StrLaws.At z y z.length i ↔ i + y.length ≤ z.cps.toList.length ∧ (z.cps.toList.drop i).take y.length = y.cps.toList := by
  unfold StrLaws.At
  rw [StrLaws.subAt_eq, beq_iff_eq, txt_len]
theorem cutC_at {c : Nat} : ∀ (cs : List Nat) (i : Nat), (cs.drop i).take 1 = [c] → (∀ k < i, (cs.drop k).take 1 ≠ [c]) → cutC c cs = (cs.take i, some (cs.drop (i + 1)))
  | [], i, h, _ => by simp at h
  | x :: r, 0, h, _ => by
    have hx : x = c := by simpa using h
    show (if x = c then _ else _) = _
    rw [if_pos hx]
    rfl
  | x :: r, i + 1, h, g => by
    have hx : x ≠ c := fun e => g 0 (Nat.succ_pos _) (by simp [e])
    have ih := cutC_at r i h fun k hk => g (k + 1) (Nat.succ_lt_succ hk)
    show (if x = c then _ else _) = _
    rw [if_neg hx, ih]
    rfl
theorem cutD_at : ∀ (cs : List Nat) (i : Nat), (cs.drop i).take 2 = [46, 46] → (∀ k < i, (cs.drop k).take 2 ≠ [46, 46]) → cutD cs = (cs.take i, some (cs.drop (i + 2)))
  | [], i, h, _ => by simp at h
  | x :: r, 0, h, _ => by
    cases r with
    | nil => simp at h
    | cons y t =>
      have hx : x = 46 ∧ y = 46 := by simpa using h
      rw [hx.1, hx.2]
      show (if (46 : Nat) = 46 ∧ _ then _ else _) = _
      rw [if_pos ⟨rfl, rfl⟩]
      rfl
  | x :: r, i + 1, h, g => by
    have hx : ¬ (x = 46 ∧ r.head? = some 46) := fun e => by
      refine g 0 (Nat.succ_pos _) ?_
      cases r with
      | nil => exact nomatch e.2
      | cons y t =>
        have : y = 46 := Option.some.inj e.2
        rw [e.1, this]
        rfl
    have ih := cutD_at r i h fun k hk => g (k + 1) (Nat.succ_lt_succ hk)
    show (if x = 46 ∧ _ then _ else _) = _
    rw [if_neg hx, ih]
    rfl
theorem cutD_no : ∀ (cs : List Nat), (∀ k, (cs.drop k).take 2 ≠ [46, 46]) → cutD cs = (cs, none)
  | [], _ => rfl
  | x :: r, g => by
    have hx : ¬ (x = 46 ∧ r.head? = some 46) := fun e => by
      refine g 0 ?_
      cases r with
      | nil => exact nomatch e.2
      | cons y t =>
        have : y = 46 := Option.some.inj e.2
        rw [e.1, this]
        rfl
    have ih := cutD_no r fun k => g (k + 1)
    show (if x = 46 ∧ _ then _ else _) = _
    rw [if_neg hx, ih]
theorem sub_list (x : Str) (i j : Nat) : (Builtin.Str.strSub x i j).cps.toList = (x.cps.toList.drop i).take (j - i) := by
  unfold Builtin.Str.strSub
  simp
abbrev dots : Str := Str.ofString ".."
abbrev ex : Str := Str.ofString "x"
theorem ex_list : ex.cps.toList = [120] := by decide +kernel
theorem ex_len : ex.length = 1 := by decide +kernel
theorem dots_list : dots.cps.toList = [46, 46] := by decide +kernel
theorem dots_len : dots.length = 2 := by decide +kernel
/-- is there an x; and what stands around the first one -/
theorem part_x (z : Str) : ((!(Builtin.Str.occurrences z ex 0 z.length 1).isEmpty) = true ∧ cutC 120 z.cps.toList = ((Txt.partition z ex).1.cps.toList, some (Txt.partition z ex).2.2.cps.toList)) ∨
    ((!(Builtin.Str.occurrences z ex 0 z.length 1).isEmpty) = false ∧ cutC 120 z.cps.toList = (z.cps.toList, none)) := by
  unfold Txt.partition
  rcases StrLaws.occ_head z ex 1 (Nat.le_refl 1) with ⟨h0, hn⟩ | ⟨i, r, h0, hi, hn⟩
  · refine .inr ⟨by rw [h0]; rfl, cutC_none fun hm => ?_⟩
    obtain ⟨i, hi, e⟩ := List.getElem_of_mem hm
    refine hn i (at_iff.mpr ⟨by rw [ex_len]; omega, ?_⟩)
    rw [ex_len, ex_list, List.drop_eq_getElem_cons hi, e]
    rfl
  · refine .inl ⟨by rw [h0]; rfl, ?_⟩
    rw [h0]
    have h1 := at_iff.mp hi
    rw [ex_len, ex_list] at h1
    rw [cutC_at z.cps.toList i h1.2 fun k hk e => hn k hk (at_iff.mpr ⟨by rw [ex_len]; omega, by rw [ex_len, ex_list]; exact e⟩)]
    show _ = ((Builtin.Str.strSub z 0 i).cps.toList, some (Builtin.Str.strSub z (i + ex.length) z.length).cps.toList)
    rw [sub_list, sub_list, ex_len, ← txt_len, List.drop_zero, Nat.sub_zero, List.take_of_length_le (l := List.drop (i + 1) z.cps.toList) (by rw [List.length_drop]; exact Nat.le_refl _)]
theorem part_dots (z : Str) : ((!(Builtin.Str.occurrences z dots 0 z.length 1).isEmpty) = true ∧ cutD z.cps.toList = ((Txt.partition z dots).1.cps.toList, some (Txt.partition z dots).2.2.cps.toList)) ∨
    ((!(Builtin.Str.occurrences z dots 0 z.length 1).isEmpty) = false ∧ cutD z.cps.toList = (z.cps.toList, none)) := by
  unfold Txt.partition
  rcases StrLaws.occ_head z dots 1 (Nat.le_refl 1) with ⟨h0, hn⟩ | ⟨i, r, h0, hi, hn⟩
  · refine .inr ⟨by rw [h0]; rfl, cutD_no _ fun k e => hn k (at_iff.mpr ⟨?_, by rw [dots_len, dots_list]; exact e⟩)⟩
    have := congrArg List.length e
    rw [List.length_take, List.length_drop] at this
    rw [dots_len]
    have h2 : ([46, 46] : List Nat).length = 2 := rfl
    omega
  · refine .inl ⟨by rw [h0]; rfl, ?_⟩
    rw [h0]
    have h1 := at_iff.mp hi
    rw [dots_len, dots_list] at h1
    rw [cutD_at z.cps.toList i h1.2 fun k hk e => hn k hk (at_iff.mpr ⟨by rw [dots_len]; omega, by rw [dots_len, dots_list]; exact e⟩)]
    show _ = ((Builtin.Str.strSub z 0 i).cps.toList, some (Builtin.Str.strSub z (i + dots.length) z.length).cps.toList)
    rw [sub_list, sub_list, dots_len, ← txt_len, List.drop_zero, Nat.sub_zero, List.take_of_length_le (l := List.drop (i + 2) z.cps.toList) (by rw [List.length_drop]; exact Nat.le_refl _)]
theorem part_le (z y : Str) : (∀ c, c ∈ (Txt.partition z y).1.cps.toList → c ∈ z.cps.toList) ∧ (∀ c, c ∈ (Txt.partition z y).2.2.cps.toList → c ∈ z.cps.toList) ∧ (Txt.partition z y).1.length ≤ z.length ∧ (Txt.partition z y).2.2.length ≤ z.length := by
  unfold Txt.partition
  split
  · refine ⟨fun c h => ?_, fun c h => ?_, ?_, ?_⟩
    · rw [sub_list] at h; exact List.mem_of_mem_drop (List.mem_of_mem_take h)
    · rw [sub_list] at h; exact List.mem_of_mem_drop (List.mem_of_mem_take h)
    · rw [← txt_len, sub_list, ← txt_len, List.length_take, List.length_drop]; omega
    · rw [← txt_len, sub_list, ← txt_len, List.length_take, List.length_drop]; omega
  · exact ⟨fun c h => h, fun c h => absurd h (by simp [Str.empty]), Nat.le_refl _, by show Str.empty.length ≤ _; exact Nat.zero_le _⟩
theorem part_small {z y : Str} (h : Small z) : Small (Txt.partition z y).1 ∧ Small (Txt.partition z y).2.2 := by
  obtain ⟨a, b, c, d⟩ := part_le z y
  exact ⟨⟨Nat.le_trans c h.1, fun x hx => h.2 x (a x hx)⟩, ⟨Nat.le_trans d h.1, fun x hx => h.2 x (b x hx)⟩⟩
/-! ### the first part of a row -/
def first (v : Int) (r : List Int) : Part := if 3 ≤ runN 0 v r then .same v (runN 0 v r : Nat) else if 3 ≤ runN 1 v r then .rise v (v + (runN 1 v r : Nat) - 1) else .one v
theorem first_many (v : Int) (r : List Int) : 1 ≤ (first v r).many ∧ (first v r).many ≤ (r.length : Int) ∨ r = [] ∨ r.head? ≠ some v := by
  by_cases hr : r.head? = some v
  · cases r with
    | nil => exact .inr (.inl rfl)
    | cons y t =>
      left
      have h0 := runN_le 0 (y :: t) v
      have h1 := runN_le 1 (y :: t) v
      unfold first
      split
      · show (1 : Int) ≤ (runN 0 v (y :: t) : Nat) ∧ ((runN 0 v (y :: t) : Nat) : Int) ≤ _
        omega
      · split
        · show (1 : Int) ≤ v + (runN 1 v (y :: t) : Nat) - 1 - v + 1 ∧ v + (runN 1 v (y :: t) : Nat) - 1 - v + 1 ≤ _
          omega
        · show (1 : Int) ≤ 1 ∧ (1 : Int) ≤ _
          rw [List.length_cons]
          omega
  · exact .inr (.inr hr)
theorem packF_step (f : Nat) (v : Int) (r : List Int) : packF (f + 1) (v :: r) = first v (v :: r) :: packF f ((v :: r).drop (first v (v :: r)).many.toNat) := by
  unfold first
  rw [packF]
  split
  · rfl
  · split
    · show _ :: packF f ((v :: r).drop (runN 1 v (v :: r))) = _ :: packF f ((v :: r).drop (v + (runN 1 v (v :: r) : Nat) - 1 - v + 1).toNat)
      rw [show (v + (runN 1 v (v :: r) : Nat) - 1 - v + 1).toNat = runN 1 v (v :: r) by omega]
    · rfl
theorem packF_fuel : ∀ (f g : Nat) (row : List Int), row.length ≤ f → row.length ≤ g → packF f row = packF g row
  | 0, 0, _, _, _ => rfl
  | 0, g + 1, row, h, _ => by
    have : row = [] := List.eq_nil_of_length_eq_zero (by omega)
    subst this
    unfold packF
    rfl
  | f + 1, 0, row, _, h => by
    have : row = [] := List.eq_nil_of_length_eq_zero (by omega)
    subst this
    unfold packF
    rfl
  | f + 1, g + 1, [], _, _ => by unfold packF; rfl
  | f + 1, g + 1, v :: r, h1, h2 => by
    rw [packF_step, packF_step]
    have hm : 1 ≤ (first v (v :: r)).many := by
      rcases first_many v (v :: r) with z | z | z
      · exact z.1
      · cases z
      · exact absurd rfl z
    have hl : ((v :: r).drop (first v (v :: r)).many.toNat).length ≤ r.length := by
      rw [List.length_drop, List.length_cons]
      omega
    rw [List.length_cons] at h1 h2
    rw [packF_fuel f g _ (by omega) (by omega)]
theorem pack_cons (v : Int) (r : List Int) : pack (v :: r) = first v (v :: r) :: pack ((v :: r).drop (first v (v :: r)).many.toNat) := by
  unfold pack
  rw [List.length_cons, packF_step]
  congr 1
  have hm : 1 ≤ (first v (v :: r)).many := by
    rcases first_many v (v :: r) with z | z | z
    · exact z.1
    · cases z
    · exact absurd rfl z
  refine packF_fuel _ _ _ ?_ (Nat.le_refl _)
  rw [List.length_drop, List.length_cons]
  omega
/-! ### what the program's functions promise where nothing is refused -/
def spNo (sp : Sp) : Sp := fun vs H Q _ => sp vs H Q E0
def spNumIn : Sp := fun vs H Q _ => ∃ (z : Str) (n : Int), vs = [.str z] ∧ Small z ∧ numIn z.cps.toList = some n ∧ ∀ H', Same H H' → Q (.int n) H'
def spCount (K : PySem.W.Frag) : Sp := fun vs H Q _ => ∃ (t : Addr) (p : Part), vs = [.ref t] ∧ SqT K H t p.tup ∧ Q (.int p.many) H
def spPartAt (K : PySem.W.Frag) : Sp := fun vs H Q _ => ∃ (a : Addr) (ns : List Int) (k : Nat) (v : Int), vs = [.ref a, .int k] ∧ SqL K H a (ns.map V.int) ∧ ns.length ≤ 100000 ∧ ns[k]? = some v ∧
  ∀ (t : Addr) (H' : Hp), Same H H' → H t = none → H' t = some (.tup (first v (ns.drop k)).tup) → Q (.ref t) H'
def spTextOf (K : PySem.W.Frag) : Sp := fun vs H Q _ => ∃ (t : Addr) (p : Part), vs = [.ref t] ∧ SqT K H t p.tup ∧ p.below 1500 ∧ ∀ z : Str, z.cps.toList = p.txt → Q (.str z) H
def spPartOf : Sp := fun vs H Q _ => ∃ (z : Str) (p : Part), vs = [.str z] ∧ Small z ∧ parse z.cps.toList = some p ∧ ∀ (t : Addr) (H' : Hp), Same H H' → H t = none → H' t = some (.tup p.tup) → Q (.ref t) H'
def spNumbers (K : PySem.W.Frag) : Sp := fun vs H Q _ => ∃ (t : Addr) (p : Part), vs = [.ref t] ∧ SqT K H t p.tup ∧ p.ok ∧ p.vals.length ≤ 100000 ∧ ∀ (l : Addr) (H' : Hp), Same H H' → H l = none → H' l = some (.lst (p.vals.map V.int)) → Q (.ref l) H'
/-- the first two numbers at most of a part -/
def Part.two : Part → List Int
  | .one n => [n]
  | .same n _ => [n, n]
  | .rise a _ => [a, a + 1]
def spTwo (K : PySem.W.Frag) : Sp := fun vs H Q _ => ∃ (t : Addr) (p : Part), vs = [.ref t] ∧ SqT K H t p.tup ∧ ∀ (l : Addr) (H' : Hp), Same H H' → H l = none → H' l = some (.lst (p.two.map V.int)) → Q (.ref l) H'
/-! ### defs that stand ready, by their depth; the program's global names -/
def Rdy (P : Program) (w : World) (K : PySem.W.Frag) (mg : Str → Option Value) (base : Heap) (n : Nat) (x : Str) (ps : List Str) (sp : Sp) : Prop :=
  ∃ a d, FnOk P w K mg base CX0 n a d ps sp ∧ Binds K d ps [] ∧ PySem.W.keepIn K (.ref a) = true ∧ mg x = some (.ref a)
def RdyX (P : Program) (w : World) (K : PySem.W.Frag) (mg : Str → Option Value) (base : Heap) (n : Nat) (x : Str) (ps : List Str) (sp : Sp) : Prop :=
  ∃ a d, FnOk P w K mg base (CXE P w) n a d ps sp ∧ Binds K d ps [] ∧ PySem.W.keepIn K (.ref a) = true ∧ mg x = some (.ref a)
section
variable {P : Program} {w : World} {K : PySem.W.Frag} {mg : Str → Option Value} {base h : Heap} {x : Str} {ps : List Str} {sp : Sp} {n m : Nat} {a : Addr} {d : FuncData}
theorem rdy (X : K.In h) (G : h.Ns mainGlobals mg) (F : FnOk P w K mg base CX0 n a d ps sp) (b : Binds K d ps []) (k : PySem.W.keepIn K (.ref a) = true) (z : PySem.W.nsIn K mainGlobals x = some (some (.ref a))) : Rdy P w K mg base n x ps sp := ⟨a, d, F, b, k, PySem.W.mg_of X G z⟩
theorem rdyX (X : K.In h) (G : h.Ns mainGlobals mg) (F : FnOk P w K mg base (CXE P w) n a d ps sp) (b : Binds K d ps []) (k : PySem.W.keepIn K (.ref a) = true) (z : PySem.W.nsIn K mainGlobals x = some (some (.ref a))) : RdyX P w K mg base n x ps sp := ⟨a, d, F, b, k, PySem.W.mg_of X G z⟩
theorem Rdy.up (r : Rdy P w K mg base n x ps sp) (h : n ≤ m) : Rdy P w K mg base m x ps sp := let ⟨a, d, F, b, k, z⟩ := r; ⟨a, d, F.mono h, b, k, z⟩
theorem RdyX.up (r : RdyX P w K mg base n x ps sp) (h : n ≤ m) : RdyX P w K mg base m x ps sp := let ⟨a, d, F, b, k, z⟩ := r; ⟨a, d, F.mono h, b, k, z⟩
theorem Rdy.at8 (r : Rdy P w K mg base n x ps sp) (h : n ≤ 8) : Ready P w K mg base x ps sp := r.up h
theorem RdyX.at8 (r : RdyX P w K mg base n x ps sp) (h : n ≤ 8) : ReadyX P w K mg base x ps sp := r.up h
theorem Rdy.toX (r : Rdy P w K mg base n x ps sp) : RdyX P w K mg base n x ps sp := let ⟨a, d, F, b, k, z⟩ := r; ⟨a, d, F.toX, b, k, z⟩
end
structure GloS (mg : Str → Option Value) : Prop where
  group : ∃ t, mg "GROUP" = some (.int 1000000000 t)
  width : ∃ t, mg "WIDTH" = some (.int 9 t)
  str : mg "str" = none
structure GloN (mg : Str → Option Value) : Prop where
  group : ∃ t, mg "GROUP" = some (.int 1000000000 t)
  width : ∃ t, mg "WIDTH" = some (.int 9 t)
  figs : ∃ t, mg "FIGURES" = some (.str "0123456789" t)
  int : mg "int" = none
  len : mg "len" = none
  range : mg "range" = none
  all : mg "all" = none
def Least (mg : Str → Option Value) : Prop := ∃ t, mg "LEAST" = some (.int 3 t)
theorem gloS_mk {K : PySem.W.Frag} {h : Heap} {mg : Str → Option Value} {t1 t2 : Tok} (g : GB mg) (X : K.In h) (G : h.Ns mainGlobals mg) (c1 : PySem.W.nsIn K mainGlobals "GROUP" = some (some (.int 1000000000 t1))) (c2 : PySem.W.nsIn K mainGlobals "WIDTH" = some (some (.int 9 t2))) : GloS mg :=
  ⟨⟨t1, PySem.W.mg_of X G c1⟩, ⟨t2, PySem.W.mg_of X G c2⟩, g.str⟩
theorem gloN_mk {K : PySem.W.Frag} {h : Heap} {mg : Str → Option Value} {t1 t2 t3 : Tok} (g : GB mg) (X : K.In h) (G : h.Ns mainGlobals mg) (c1 : PySem.W.nsIn K mainGlobals "GROUP" = some (some (.int 1000000000 t1))) (c2 : PySem.W.nsIn K mainGlobals "WIDTH" = some (some (.int 9 t2)))
    (c3 : PySem.W.nsIn K mainGlobals "FIGURES" = some (some (.str "0123456789" t3))) : GloN mg :=
  ⟨⟨t1, PySem.W.mg_of X G c1⟩, ⟨t2, PySem.W.mg_of X G c2⟩, ⟨t3, PySem.W.mg_of X G c3⟩, g.int, g.len, g.range, g.all⟩
theorem least_mk {K : PySem.W.Frag} {h : Heap} {mg : Str → Option Value} {t1 : Tok} (X : K.In h) (G : h.Ns mainGlobals mg) (c1 : PySem.W.nsIn K mainGlobals "LEAST" = some (some (.int 3 t1))) : Least mg := ⟨t1, PySem.W.mg_of X G c1⟩
/-! ### what the program's figures promise -/
def spFig : Sp := fun vs H Q _ => ∃ n : Int, vs = [.int n] ∧ 0 ≤ n ∧ (dig n.toNat).length ≤ 100000 ∧ ∀ z : Str, z.cps.toList = dig n.toNat → Q (.str z) H
def spShown : Sp := fun vs H Q _ => ∃ n : Int, vs = [.int n] ∧ (codesOf n).length ≤ 100000 ∧ ∀ z : Str, z.cps.toList = codesOf n → Q (.str z) H
def spVal : Sp := fun vs H Q _ => ∃ z : Str, vs = [.str z] ∧ AllDigits z.cps.toList ∧ z.length ≤ 100000 ∧ Q (.int ((digitsVal z.cps.toList : Nat) : Int)) H
def spIs : Sp := fun vs H Q _ => ∃ z : Str, vs = [.str z] ∧ z.length ≤ 100000 ∧ ∀ H', Same H H' → Q (.bl (isNum z.cps.toList)) H'
def spNum (C : Addr) : Sp := fun vs H Q E => ∃ z : Str, vs = [.str z] ∧ Small z ∧ (isNum z.cps.toList = true → ∀ H', Same H H' → Q (.int (valOf z.cps.toList)) H') ∧ (isNum z.cps.toList = false → ∀ H', Same H H' → E (.ref C) none H')
abbrev bmV : List Value := [.type "ValueError", .type "Exception", .type "BaseException", .type "object"]
/-! ### small helps -/
theorem ite_y {c : Bool} {A B : Prop} (h : c = true) (a : A) : if c = true then A else B := by rw [if_pos h]; exact a
theorem ite_n {c : Bool} {A B : Prop} (h : c = false) (b : B) : if c = true then A else B := by rw [if_neg (by rw [h]; exact Bool.false_ne_true)]; exact b
theorem d_ss : decide (V.str (Str.ofString "same") = V.str (Str.ofString "same")) = true := decide_eq_true rfl
theorem d_rr : decide (V.str (Str.ofString "rise") = V.str (Str.ofString "rise")) = true := decide_eq_true rfl
theorem d_rs : decide (V.str (Str.ofString "rise") = V.str (Str.ofString "same")) = false := by rw [dec_str]; exact ne32
theorem d_os : decide (V.str (Str.ofString "one") = V.str (Str.ofString "same")) = false := by rw [dec_str]; exact ne12
theorem d_or : decide (V.str (Str.ofString "one") = V.str (Str.ofString "rise")) = false := by rw [dec_str]; exact ne13
theorem sqT_same {K : PySem.W.Frag} {H H' : Hp} {a : Addr} {xs : List V} (e : Same H H') (h : SqT K H a xs) : SqT K H' a xs := by
  rcases h with (h | ⟨o, h⟩) | h
  · exact .inl (.inl (e _ _ h))
  · exact .inl (.inr ⟨o, e _ _ h⟩)
  · exact .inr h
theorem vals_ints {xs : List Int} : (xs.map V.int).length = xs.length := List.length_map _
/-- a comprehension over a list, by a word -/
theorem lc_listG {K : PySem.W.Frag} {a : Addr} {xs : List V} {js : List Nat} {telt : TE} {σ : St} {H : Hp} {Q : VK} {D : Addr} (Pv : Nat → List V → Hp → Prop) (hn : xs.length ≤ sizeLine) (h0 : Pv 0 [] (upd H D (.lst [])))
    (hk : ∀ i ys Hk, Pv i ys Hk → SqL K Hk a xs ∧ ys.length = i) (step : ∀ i x ys Hk, xs[i]? = some x → Pv i ys Hk → telt (some x :: capt σ js) Hk fun y H2 => H2 D = some (.lst ys) ∧ Pv (i + 1) (ys ++ [y]) (upd H2 D (.lst (ys ++ [y]))))
    (q : ∀ ys Hk, Pv xs.length ys Hk → Q (.ref D) Hk) :
    ∃ W : Nat → Nat → List V → Hp → Prop, (∃ m, W 0 m [] (upd H D (.lst []))) ∧
      ∀ i m ys Hk, W i m ys Hk → ((Itl K a).stop i Hk ∧ Q (.ref D) Hk) ∨ ((Itl K a).go i Hk ∧ ys.length < sizeLine ∧ ∀ x H', (Itl K a).yld i Hk x H' → telt (some x :: capt σ js) H' fun y H2 => H2 D = some (.lst ys) ∧ ∃ m', m' < m ∧ W (i + 1) m' (ys ++ [y]) (upd H2 D (.lst (ys ++ [y])))) := by
  have mono : ∀ i x ys Hk, xs[i]? = some x → Pv i ys Hk → telt (some x :: capt σ js) Hk fun y H2 => H2 D = some (.lst ys) ∧ Pv (i + 1) (ys ++ [y]) (upd H2 D (.lst (ys ++ [y]))) := step
  refine ⟨fun i m ys Hk => m = xs.length - i ∧ i ≤ xs.length ∧ Pv i ys Hk, ⟨xs.length, rfl, Nat.zero_le _, h0⟩, ?_⟩
  rintro i m ys Hk ⟨rfl, hi, p⟩
  obtain ⟨hS, hl⟩ := hk i ys Hk p
  by_cases hlt : i < xs.length
  · refine .inr ⟨⟨xs, xs[i], hS, by simp [hlt]⟩, by omega, fun x H' y => ?_⟩
    obtain ⟨rfl, y⟩ := y
    have hx := y xs hS
    have z := mono i x ys H' hx p
    have ee : (fun y H2 => H2 D = some (.lst ys) ∧ ∃ m', m' < xs.length - i ∧ m' = xs.length - (i + 1) ∧ i + 1 ≤ xs.length ∧ Pv (i + 1) (ys ++ [y]) (upd H2 D (.lst (ys ++ [y])))) = (fun (y : V) (H2 : Hp) => H2 D = some (.lst ys) ∧ Pv (i + 1) (ys ++ [y]) (upd H2 D (.lst (ys ++ [y])))) := by
      funext y H2
      refine propext ⟨fun ⟨a, _, _, _, _, b⟩ => ⟨a, b⟩, fun ⟨a, b⟩ => ⟨a, _, ?_, rfl, hlt, b⟩⟩
      omega
    show telt _ _ (fun y H2 => H2 D = some (.lst ys) ∧ ∃ m', m' < xs.length - i ∧ m' = xs.length - (i + 1) ∧ i + 1 ≤ xs.length ∧ Pv (i + 1) (ys ++ [y]) (upd H2 D (.lst (ys ++ [y]))))
    rw [ee]
    exact z
  · have e : i = xs.length := by omega
    subst e
    exact .inl ⟨⟨xs, hS, Nat.le_refl _⟩, q ys Hk p⟩
/-- a comprehension over a range from nought, by a word -/
theorem lc_rangeG {n : Nat} {f : Nat → V} {js : List Nat} {telt : TE} {σ : St} {H : Hp} {Q : VK} {D : Addr} (Pv : Nat → List V → Hp → Prop) (hn : n ≤ sizeLine) (h0 : Pv 0 [] (upd H D (.lst [])))
    (hk : ∀ i ys Hk, Pv i ys Hk → ys.length = i) (step : ∀ i ys Hk, i < n → Pv i ys Hk → telt (some (f i) :: capt σ js) Hk fun y H2 => H2 D = some (.lst ys) ∧ Pv (i + 1) (ys ++ [y]) (upd H2 D (.lst (ys ++ [y]))))
    (q : ∀ ys Hk, Pv n ys Hk → Q (.ref D) Hk) :
    ∃ W : Nat → Nat → List V → Hp → Prop, (∃ m, W 0 m [] (upd H D (.lst []))) ∧
      ∀ i m ys Hk, W i m ys Hk → ((Itv n f).stop i Hk ∧ Q (.ref D) Hk) ∨ ((Itv n f).go i Hk ∧ ys.length < sizeLine ∧ ∀ x H', (Itv n f).yld i Hk x H' → telt (some x :: capt σ js) H' fun y H2 => H2 D = some (.lst ys) ∧ ∃ m', m' < m ∧ W (i + 1) m' (ys ++ [y]) (upd H2 D (.lst (ys ++ [y])))) := by
  refine ⟨fun i m ys Hk => m = n - i ∧ i ≤ n ∧ Pv i ys Hk, ⟨n, rfl, Nat.zero_le _, h0⟩, ?_⟩
  rintro i m ys Hk ⟨rfl, hi, p⟩
  have hl := hk i ys Hk p
  by_cases hlt : i < n
  · refine .inr ⟨hlt, by omega, fun x H' y => ?_⟩
    obtain ⟨rfl, rfl⟩ := y
    have z := step i ys H' hlt p
    have ee : (fun y H2 => H2 D = some (.lst ys) ∧ ∃ m', m' < n - i ∧ m' = n - (i + 1) ∧ i + 1 ≤ n ∧ Pv (i + 1) (ys ++ [y]) (upd H2 D (.lst (ys ++ [y])))) = (fun (y : V) (H2 : Hp) => H2 D = some (.lst ys) ∧ Pv (i + 1) (ys ++ [y]) (upd H2 D (.lst (ys ++ [y])))) := by
      funext y H2
      refine propext ⟨fun ⟨a, _, _, _, _, b⟩ => ⟨a, b⟩, fun ⟨a, b⟩ => ⟨a, _, ?_, rfl, hlt, b⟩⟩
      omega
    show telt _ _ (fun y H2 => H2 D = some (.lst ys) ∧ ∃ m', m' < n - i ∧ m' = n - (i + 1) ∧ i + 1 ≤ n ∧ Pv (i + 1) (ys ++ [y]) (upd H2 D (.lst (ys ++ [y]))))
    rw [ee]
    exact z
  · have e : i = n := by omega
    subst e
    exact .inl ⟨Nat.le_refl _, q ys Hk p⟩
theorem parseAll_get : ∀ {ts : List (List Nat)} {ps : List Part}, parseAll ts = some ps → ts.length = ps.length ∧ ∀ (i : Nat) (t : List Nat), ts[i]? = some t → ∃ p, parse t = some p ∧ ps[i]? = some p
  | [], ps, h => by
    cases h
    exact ⟨rfl, fun i t e => by simp at e⟩
  | t :: r, ps, h => by
    have h' : (parse t).bind (fun p => (parseAll r).map (p :: ·)) = some ps := h
    cases e1 : parse t with
    | none => rw [e1] at h'; cases h'
    | some p =>
      rw [e1] at h'
      cases e2 : parseAll r with
      | none =>
        have h2 : (parseAll r).map (p :: ·) = some ps := h'
        rw [e2] at h2
        cases h2
      | some qs =>
        have h2 : (parseAll r).map (p :: ·) = some ps := h'
        rw [e2] at h2
        cases h2
        obtain ⟨l, g⟩ := parseAll_get e2
        refine ⟨by rw [List.length_cons, List.length_cons, l], fun i u e => ?_⟩
        cases i with
        | zero =>
          cases e
          exact ⟨p, e1, rfl⟩
        | succ i => exact g i u e
theorem split_mem (c : Nat) : ∀ (cs : List Nat) (t : List Nat), t ∈ splitC c cs → t.length ≤ cs.length ∧ ∀ x ∈ t, x ∈ cs
  | [], t, h => by
    have : t = [] := by simpa [splitC] using h
    subst this
    exact ⟨Nat.le_refl _, fun x hx => nomatch hx⟩
  | x :: r, t, h => by
    have ih := split_mem c r
    unfold splitC at h
    split at h
    · rcases List.mem_cons.mp h with rfl | h
      · exact ⟨Nat.zero_le _, fun y hy => nomatch hy⟩
      · have := ih t h
        exact ⟨Nat.le_succ_of_le this.1, fun y hy => List.mem_cons_of_mem _ (this.2 y hy)⟩
    · cases e : splitC c r with
      | nil =>
        rw [e] at h
        have : t = [x] := by simpa using h
        subst this
        exact ⟨by simp, fun y hy => by simpa using Or.inl (by simpa using hy)⟩
      | cons u v =>
        rw [e] at h
        rcases List.mem_cons.mp h with rfl | h
        · have := ih u (by rw [e]; exact List.mem_cons_self)
          refine ⟨Nat.succ_le_succ this.1, fun y hy => ?_⟩
          rcases List.mem_cons.mp hy with rfl | hy
          · exact List.mem_cons_self
          · exact List.mem_cons_of_mem _ (this.2 y hy)
        · have := ih t (by rw [e]; exact List.mem_cons_of_mem _ h)
          exact ⟨Nat.le_succ_of_le this.1, fun y hy => List.mem_cons_of_mem _ (this.2 y hy)⟩
theorem first_below {k : Nat} {v : Int} {r : List Int} (hv : v.natAbs + 500 < 10 ^ k) (hl : r.length ≤ 500) : (first v r).below k := by
  have h0 := runN_le 0 r v
  have h1 := runN_le 1 r v
  unfold first
  split
  · exact ⟨by omega, by omega⟩
  · split
    · exact ⟨by omega, by omega⟩
    · show v.natAbs < 10 ^ k
      omega
def spPartsOk : Sp := fun vs H Q _ => ∃ (z : Str) (ps : List Part), vs = [.str z] ∧ Small z ∧ readT z.cps.toList = some ps ∧ ∀ (p : Addr) (H' : Hp), Same H H' → H p = none → PartsAt H' p ps → Q (.ref p) H'
def spReadOk : Sp := fun vs H Q _ => ∃ (z : Str) (ps : List Part), vs = [.str z] ∧ Small z ∧ readT z.cps.toList = some ps ∧ (valsAll ps).length ≤ 100000 ∧ ∀ (p : Addr) (H' : Hp), Same H H' → H p = none → H' p = some (.lst ((valsAll ps).map V.int)) → Q (.ref p) H'
def spManyOk : Sp := fun vs H Q _ => ∃ (z : Str) (ps : List Part), vs = [.str z] ∧ Small z ∧ readT z.cps.toList = some ps ∧ ∀ (H' : Hp), Same H H' → Q (.int (manyAll ps)) H'
section
variable {P : Program} {w : World} {K : PySem.W.Frag} {mg : Str → Option Value} {base : Heap} {x : Str} {ps : List Str} {sp sp' : Sp} {n : Nat} {a : Addr} {d : FuncData} {CX : CXT}
theorem FnOk.imp (F : FnOk P w K mg base CX n a d ps sp) (i : ∀ vs H Q E, sp' vs H Q E → sp vs H Q E) : FnOk P w K mg base CX n a d ps sp' :=
  ⟨fun vs H Q E h => F.len vs H Q E (i _ _ _ _ h), fun A outer s H args us vs Q E hr he hb hv hs => F.run A outer s H args us vs Q E hr he hb hv (i _ _ _ _ hs)⟩
theorem Rdy.imp (r : Rdy P w K mg base n x ps sp) (i : ∀ vs H Q E, sp' vs H Q E → sp vs H Q E) : Rdy P w K mg base n x ps sp' := let ⟨a, d, F, b, k, z⟩ := r; ⟨a, d, FnOk.imp F i, b, k, z⟩
end
theorem no_parts (C : Addr) (vs : List V) (H : Hp) (Q : VK) (E : XK) (h : spNo (spParts C) vs H Q E) : spPartsOk vs H Q E := by
  obtain ⟨z, rfl, sm, q1, q2⟩ := h
  cases e : readT z.cps.toList with
  | none => exact (q2 e H (Same.refl H)).elim
  | some ps => exact ⟨z, ps, rfl, sm, e, fun p H' s _ hp => q1 ps e p H' s hp⟩
theorem no_read (C : Addr) (vs : List V) (H : Hp) (Q : VK) (E : XK) (h : spNo (spRead C) vs H Q E) : spReadOk vs H Q E := by
  obtain ⟨z, rfl, sm, q1, q2⟩ := h
  cases e : readT z.cps.toList with
  | none => exact (q2 e H (Same.refl H)).elim
  | some ps => exact ⟨z, ps, rfl, sm, e, (q1 ps e).1, fun p H' s hn hp => (q1 ps e).2 p H' s hn hp⟩
theorem no_many (C : Addr) (vs : List V) (H : Hp) (Q : VK) (E : XK) (h : spNo (spMany C) vs H Q E) : spManyOk vs H Q E := by
  obtain ⟨z, rfl, sm, q1, q2⟩ := h
  cases e : readT z.cps.toList with
  | none => exact (q2 e H (Same.refl H)).elim
  | some ps => exact ⟨z, ps, rfl, sm, e, fun H' s => q1 ps e H' s⟩
theorem b_sum : bootBuiltins "sum" = some (.builtin "sum") := by decide +kernel
end Rp
namespace Rp
open PySem PySem.NumText L2 Fig
section
variable {P : Program} {w : World} {K : PySem.W.Frag} {mg : Str → Option Value} {base : Heap} {f : Addr} {fd : FuncData}
theorem scVal : FnScope ["figures", "ahead", "number", "at"] ["figures"] (defScope sValueOf) := ⟨rfl, rfl, rfl, by decide +kernel, rfl, by decide +kernel, by decide +kernel⟩
theorem ok_val (F : Fun K "value_of" "value_of" sValueOf f fd) (g : GloN mg) : FnOk P w K mg base CX0 1 f fd ["figures"] spVal := by
  refine F.ok scVal (fun vs H Q E h => ?_) (fun cdv A outer s H vs Q E hr h => ?_)
  · obtain ⟨n, rfl, _⟩ := h
    rfl
  obtain ⟨z, rfl, hd, hl, q⟩ := h
  have line := line_big
  refine ⟨_, pss_cons (ps_set (i := 1) scVal.nd rfl (Or.inl rfl) (pe_op op_mod (pe_callB call_len_str rfl g.len PySem.boot_len (pa_cons (pv 0) pa_nil)) (pg_int _ g.width)))
    (pss_cons (ps_set (i := 2) scVal.nd rfl (Or.inl rfl) (pe_ifExp (pt_cmpR op_gt (pv 1) pe_int (nomark _)) (pe_callTy call_int_str rfl g.int b_int (pa_cons (pe_slice sl_str (pv 0) po_none (po_some (pv 1))) pa_nil)) pe_int))
    (pss_cons (ps_for PassesOwn.never rfl (pi_range3 rfl g.range (pa_cons (pv 1) (pa_cons (pe_callB call_len_str rfl g.len PySem.boot_len (pa_cons (pv 0) pa_nil)) (pa_cons (pg_int _ g.width) pa_nil)))) (pg_name (i := 3) scVal.nd rfl (Or.inl rfl))
      (pss_one (ps_set (i := 2) scVal.nd rfl (Or.inl rfl) (pe_op op_add (pe_op op_mul (pv 2) (pg_int _ g.group)) (pe_callTy call_int_str rfl g.int b_int (pa_cons (pe_slice sl_str (pv 0) (po_some (pv 3)) (po_some (pe_op op_add (pv 3) (pg_int _ g.width)))) pa_nil))))))
    (pss_one (ps_ret (pv 2))))), ?_⟩
  have zl := txt_len z
  have m0 : (0 : Int) ≤ (z.length : Int) % 9 := by omega
  refine ⟨_, rfl, z, rfl, by omega, _, _, rfl, rfl, (show (0 : Int) < 9 by decide), ?_⟩
  have e9 : (((z.length : Int) % 9).toNat) = z.length % 9 := by omega
  dsimp only [gName, tSeq, tAsg]
  show tIf _ _ _ [some (.str z), some (.int ((z.length : Int) % 9)), none, none] H _
  refine tIf_val (.int ((digitsVal (z.cps.toList.take (z.length % 9)) : Nat) : Int)) (decide ((0 : Int) < (z.length : Int) % 9)) (fun Q' k => ⟨_, rfl, _, _, rfl, rfl, _, rfl, k⟩) (fun c Q' k => ?_) (fun c Q' k => ?_) ?_
  · have c' : (0 : Int) < (z.length : Int) % 9 := of_decide_eq_true c
    have sc := sl_to z m0 (by omega)
    rw [e9] at sc
    have sd : AllDigits (Txt.slice z none (some ((z.length : Int) % 9))).cps.toList := by
      rw [sc]
      exact fun c hc => hd c (List.mem_of_mem_take hc)
    have slen : (Txt.slice z none (some ((z.length : Int) % 9))).length = z.length % 9 := by
      rw [← txt_len, sc, List.length_take]
      omega
    have sne : (Txt.slice z none (some ((z.length : Int) % 9))).cps.toList ≠ [] := fun e => by
      have := congrArg List.length e
      rw [txt_len, slen, List.length_nil] at this
      omega
    refine ⟨_, rfl, _, rfl, _, rfl, z, rfl, by omega, _, _, rfl, int_of sd sne (by omega), by omega, ?_⟩
    rw [sc]
    exact k
  · have c' : ¬ (0 : Int) < (z.length : Int) % 9 := of_decide_eq_false c
    have e0 : z.length % 9 = 0 := by omega
    rw [e0] at k
    exact k
  have turns : (Builtin.Range.rangeSize ((z.length : Int) % 9) (z.length : Int) 9).toNat = z.length / 9 := by
    unfold Builtin.Range.rangeSize
    rw [if_pos (by decide)]
    split <;> omega
  refine ⟨_, rfl, _, rfl, z, rfl, by omega, _, _, _, rfl, ⟨by omega, by omega, by omega, by omega, by decide, by decide⟩, ?_⟩
  rw [turns]
  refine for_vals (fun i σ H' => H' = H ∧ ∃ x, σ = [some (.str z), some (.int ((z.length : Int) % 9)), some (.int ((digitsVal (z.cps.toList.take (z.length % 9 + 9 * i)) : Nat) : Int)), x]) ⟨rfl, none, rfl⟩ ?_ ?_
  · rintro i σ H1 hi ⟨rfl, x, rfl⟩
    have hb : z.length % 9 + 9 * i + 9 ≤ z.length := by omega
    have ea : ((z.length : Int) % 9 + (i : Nat) * 9).toNat = z.length % 9 + 9 * i := by omega
    have sc := sl_mid z (i := (z.length : Int) % 9 + (i : Nat) * 9) (j := (z.length : Int) % 9 + (i : Nat) * 9 + 9) (by omega) (by omega) (by omega)
    rw [ea, show ((z.length : Int) % 9 + (i : Nat) * 9 + 9 - ((z.length : Int) % 9 + (i : Nat) * 9)).toNat = 9 by omega] at sc
    have slen : (Txt.slice z (some ((z.length : Int) % 9 + (i : Nat) * 9)) (some ((z.length : Int) % 9 + (i : Nat) * 9 + 9))).length = 9 := by
      rw [← txt_len, sc, List.length_take, List.length_drop]
      omega
    have sd : AllDigits (Txt.slice z (some ((z.length : Int) % 9 + (i : Nat) * 9)) (some ((z.length : Int) % 9 + (i : Nat) * 9 + 9))).cps.toList := by
      rw [sc]
      exact digits_sub hd _ _
    have sne : (Txt.slice z (some ((z.length : Int) % 9 + (i : Nat) * 9)) (some ((z.length : Int) % 9 + (i : Nat) * 9 + 9))).cps.toList ≠ [] := fun e => by
      have := congrArg List.length e
      rw [txt_len, slen, List.length_nil] at this
      omega
    refine ⟨_, rfl, _, _, rfl, rfl, .inr ⟨by decide, by decide⟩, _, rfl, _, rfl, _, rfl, _, rfl, _, _, rfl, rfl, _, rfl, z, rfl, by omega, _, _, rfl, int_of sd sne (by omega), by omega, _, _, rfl, rfl, rfl, some (.int ((z.length : Int) % 9 + (i : Nat) * 9)), ?_⟩
    have e := take_more z.cps.toList (z.length % 9 + 9 * i) (by rw [zl]; omega)
    rw [sc, show z.length % 9 + 9 * (i + 1) = z.length % 9 + 9 * i + 9 by omega, e]
    rfl
  · rintro σ H1 ⟨rfl, x, rfl⟩
    refine ⟨_, rfl, ?_⟩
    rw [show z.length % 9 + 9 * (z.length / 9) = z.cps.toList.length by rw [zl]; omega, List.take_length]
    exact q
end
section
variable {P : Program} {w : World} {K : PySem.W.Frag} {mg : Str → Option Value} {base : Heap} {f : Addr} {fd : FuncData}
theorem scIs : FnScope ["words", "figures"] ["words"] (defScope sIsNumber) := ⟨rfl, rfl, rfl, by decide +kernel, rfl, by decide +kernel, by decide +kernel⟩
theorem ok_is (F : Fun K "is_number" "is_number" sIsNumber f fd) (g : GloN mg) : FnOk P w K mg base CX0 1 f fd ["words"] spIs := by
  refine F.ok scIs (fun vs H Q E h => ?_) (fun cdv A outer s H vs Q E hr h => ?_)
  · obtain ⟨n, rfl, _⟩ := h
    rfl
  obtain ⟨z, rfl, hl, q⟩ := h
  have line := line_big
  refine ⟨_, pss_cons (ps_if (pt_cmpR op_eq (pv 0) pe_str (nomark _)) (pss_one (ps_ret pe_bl)) pss_nil)
    (pss_cons (ps_set (i := 1) scIs.nd rfl (Or.inl rfl) (pe_ifExp (pt_val (pe_bm PySem.F.plainAttrs_str PySem.F.slot_str_startswith PySem.F.type_str_startswith mt_startswith (pv 0) (pa_cons pe_str pa_nil))) (pe_slice sl_str (pv 0) (po_some pe_int) po_none) (pv 0)))
    (pss_cons (ps_if (pw_or (pt_cmpR op_eq (pv 1) pe_str (nomark _)) (pw_or1 (pt_val (pe_bm PySem.F.plainAttrs_str PySem.F.slot_str_startswith PySem.F.type_str_startswith mt_startswith (pv 1) (pa_cons pe_str pa_nil))))).pt (pss_one (ps_ret pe_bl)) pss_nil)
    (pss_one (ps_ret (pe_callB (call_all_bools rfl) rfl g.all b_all (pa_cons (pe_listComp rfl (pi_str (pv 1)) (compOk0 (by decide +kernel)) (fun C fp s2 H2 => pe_cmpR op_in_str (pv 0) (pg_str _ g.figs) (by with_unfolding_all rfl))) pa_nil)))))), ?_⟩
  have zl := txt_len z
  refine ⟨_, rfl, rfl, _, rfl, ite2 (fun c => ?_) (fun c => ?_)⟩
  · rw [dec_str_codes, decide_eq_true_iff, lit_nought] at c
    have e : isNum z.cps.toList = true := by
      unfold isNum
      rw [decide_eq_true (show z.cps.toList = [48] from c), Bool.true_or]
    exact e ▸ q H (Same.refl H)
  have c1 : ¬ z.cps.toList = [48] := fun e => c (by rw [dec_str_codes, lit_nought]; exact decide_eq_true e)
  -- figures
  obtain ⟨y, hy, hyc, hyl, hsw⟩ : ∃ y : Str, y = (if Txt.startswith z (Str.ofString "-") = true then Txt.slice z (some 1) none else z) ∧ y.cps.toList = figs z.cps.toList ∧ y.length ≤ 100000 ∧ (Txt.startswith z (Str.ofString "-") = true → 1 ≤ z.length) := by
    refine ⟨_, rfl, ?_, ?_, ?_⟩
    · rw [lit_dash, sw_one]
      unfold figs
      by_cases h : z.cps.toList.head? = some 45
      · rw [if_pos (decide_eq_true h), if_pos h]
        have : 1 ≤ z.length := by
          rw [← zl]
          cases e : z.cps.toList with
          | nil => rw [e] at h; cases h
          | cons d r => simp
        rw [sl_from z this]
        cases z.cps.toList <;> rfl
      · rw [if_neg (by rw [decide_eq_false h]; decide), if_neg h]
    · split
      · exact Nat.le_trans (Txt.slice_le _ _ _) hl
      · exact hl
    · rw [lit_dash, sw_one, decide_eq_true_iff]
      intro h
      rw [← zl]
      cases e : z.cps.toList with
      | nil => rw [e] at h; cases h
      | cons d r => simp
  dsimp only [tNext, gName, tSeq, tAsg]
  show tIf _ _ _ [some (.str z), none] H _
  refine tIf_val (.str y) (Txt.startswith z (Str.ofString "-")) (fun Q' k => ⟨_, rfl, rfl, _, _, rfl, rfl, _, rfl, k⟩) (fun c Q' k => ?_) (fun c Q' k => ?_) ?_
  · rw [if_pos c] at hy
    subst hy
    exact ⟨_, rfl, _, rfl, z, rfl, by omega, k⟩
  · rw [if_neg (by rw [c]; decide)] at hy
    subst hy
    exact ⟨_, rfl, k⟩
  -- no figures, or a nought ahead
  have no : (figs z.cps.toList = [] ∨ (figs z.cps.toList).head? = some 48) → isNum z.cps.toList = false := fun h => by
    unfold isNum
    rw [decide_eq_false c1, Bool.false_or]
    rcases h with h | h
    · rw [decide_eq_true h]; rfl
    · rw [decide_eq_true h]; simp
  refine ⟨_, rfl, rfl, _, rfl, ite2 (fun c => ?_) (fun c => ?_)⟩
  · rw [dec_str_codes, decide_eq_true_iff, hyc, show (Str.ofString "").cps.toList = [] by decide +kernel] at c
    refine iteT ?_
    exact no (.inl c) ▸ q H (Same.refl H)
  have c2 : ¬ figs z.cps.toList = [] := fun e => c (by rw [dec_str_codes, hyc, show (Str.ofString "").cps.toList = [] by decide +kernel]; exact decide_eq_true e)
  refine ⟨_, rfl, rfl, _, _, rfl, rfl, _, rfl, ite2 (fun c => ?_) (fun c => ?_)⟩
  · rw [lit_nought, sw_one, decide_eq_true_iff, hyc] at c
    exact no (.inr c) ▸ q H (Same.refl H)
  have c3 : ¬ (figs z.cps.toList).head? = some 48 := fun e => c (by rw [lit_nought, sw_one, hyc]; exact decide_eq_true e)
  have ysz : y.cps.size ≤ sizeLine := by
    have : y.cps.size = y.length := rfl
    omega
  dsimp only [tNext, tRet, tCB, tCons]
  refine tLC_str y (fun i => .bl (!(Builtin.Str.occurrences (Str.ofString "0123456789") ⟨#[y.cps.getD i 0]⟩ 0 (Str.ofString "0123456789").length 1).isEmpty)) (fun Q' k => ⟨_, rfl, k⟩) ysz (fun i H' Q' hi k => ⟨_, rfl, _, _, rfl, rfl, k⟩) (fun D hD => ?_)
  refine ⟨D, (List.range y.cps.size).map (fun i => !(Builtin.Str.occurrences (Str.ofString "0123456789") ⟨#[y.cps.getD i 0]⟩ 0 (Str.ofString "0123456789").length 1).isEmpty), rfl, SqL.of (by rw [upd_same, List.map_map]; rfl), ?_⟩
  have e : ((List.range y.cps.size).map (fun i => !(Builtin.Str.occurrences (Str.ofString "0123456789") ⟨#[y.cps.getD i 0]⟩ 0 (Str.ofString "0123456789").length 1).isEmpty)).all id = isNum z.cps.toList := by
    have e1 : (fun i => !(Builtin.Str.occurrences (Str.ofString "0123456789") ⟨#[y.cps.getD i 0]⟩ 0 (Str.ofString "0123456789").length 1).isEmpty) = (fun c => decide (48 ≤ c) && decide (c ≤ 57)) ∘ (fun i => y.cps.getD i 0) := by
      funext i
      exact in_fig _
    rw [e1, ← List.map_map, range_getD, hyc]
    unfold isNum allDig
    rw [decide_eq_false c1, decide_eq_false c2, decide_eq_false c3, List.all_map]
    simp
  rw [e]
  exact q _ (same_new hD _)

theorem scNum : FnScope ["words"] ["words"] (defScope sNumberOf) := ⟨rfl, rfl, rfl, by decide +kernel, rfl, by decide +kernel, by decide +kernel⟩
theorem ok_num {C gi gv : Addr} {di dv : FuncData} (F : Fun K "number_of" "number_of" sNumberOf f fd) (GI : FnOk P w K mg base CX0 1 gi di ["words"] spIs) (bI : Binds K di ["words"] []) (kI : PySem.W.keepIn K (.ref gi) = true) (mI : mg "is_number" = some (.ref gi))
    (GV : FnOk P w K mg base CX0 1 gv dv ["figures"] spVal) (bV : Binds K dv ["figures"] []) (kV : PySem.W.keepIn K (.ref gv) = true) (mV : mg "value_of" = some (.ref gv)) (mN : mg "NoNumber" = some (.ref C)) (ec : PySem.W.excIn K C bmV "ValueError.__new__" = true) :
    FnOk P w K mg base (CXE P w) 2 f fd ["words"] (spNum C) := by
  refine F.okX scNum (fun vs H Q E h => ?_) (fun cdv A outer s H vs Q E hr h => ?_)
  · obtain ⟨n, rfl, _⟩ := h
    rfl
  obtain ⟨z, rfl, sm, q1, q2⟩ := h
  have line := line_big
  have zl := txt_len z
  have hl := sm.1
  refine ⟨_, psx_cons (psx_if (pt_not (pt_val (pe_call GI hr rfl mI kI bI .nil pass0 (pa_cons (pv 0) pa_nil)))) (psx_one (psx_raise rfl rfl mN ec PySem.F.excBase_ValueError (pa_cons (pe_fmtR (by decide +kernel) (pv 0)) pa_nil))) psx_nil)
    (psx_cons (psx_if (pt_val (pe_bm PySem.F.plainAttrs_str PySem.F.slot_str_startswith PySem.F.type_str_startswith mt_startswith (pv 0) (pa_cons pe_str pa_nil)))
      (psx_one (PS.x (ps_ret (pe_un un_neg (pe_call GV hr rfl mV kV bV .nil pass0 (pa_cons (pe_slice sl_str (pv 0) (po_some pe_int) po_none) pa_nil)))))) psx_nil)
    (psx_one (PS.x (ps_ret (pe_call GV hr rfl mV kV bV .nil pass0 (pa_cons (pv 0) pa_nil)))))), ?_⟩
  refine ⟨_, rfl, z, rfl, hl, fun H1 g1 => ⟨_, rfl, ite2 (fun c => ?_) (fun c => ?_)⟩⟩
  · have c' : isNum z.cps.toList = false := by simpa using c
    exact ⟨_, rfl, z, rfl, sm, by show 1 ≤ sizeLine; omega, q2 c' H1 g1⟩
  · have c' : isNum z.cps.toList = true := by simpa using c
    have qq := q1 c' H1 g1
    have hd : figs z.cps.toList ≠ [] ∧ AllDigits (figs z.cps.toList) := by
      have k := c'
      unfold isNum at k
      by_cases h48 : z.cps.toList = [48]
      · rw [h48]
        exact ⟨by decide, allDig_iff.mp (by decide)⟩
      · rw [decide_eq_false h48, Bool.false_or, Bool.and_eq_true, Bool.and_eq_true] at k
        exact ⟨by simpa using k.1.1, allDig_iff.mp k.2⟩
    refine ⟨_, rfl, rfl, _, _, rfl, rfl, _, rfl, ite2 (fun c2 => ?_) (fun c2 => ?_)⟩
    · rw [lit_dash, sw_one, decide_eq_true_iff] at c2
      have ef : figs z.cps.toList = z.cps.toList.tail := if_pos c2
      have z1 : 1 ≤ z.length := by
        rw [← zl]
        cases e : z.cps.toList with
        | nil => rw [e] at c2; cases c2
        | cons d r => simp
      have sc := sl_from z z1
      have e1 : z.cps.toList.drop 1 = z.cps.toList.tail := by cases z.cps.toList <;> rfl
      rw [e1] at sc
      refine ⟨_, rfl, _, rfl, z, rfl, by omega, _, rfl, by rw [sc, ← ef]; exact hd.2, Nat.le_trans (Txt.slice_le _ _ _) hl, _, rfl, ?_⟩
      rw [sc]
      have e2 : valOf z.cps.toList = -((digitsVal z.cps.toList.tail : Nat) : Int) := if_pos c2
      rw [e2] at qq
      exact qq
    · have c3 : ¬ z.cps.toList.head? = some 45 := fun e => c2 (by rw [lit_dash, sw_one]; exact decide_eq_true e)
      have ef : figs z.cps.toList = z.cps.toList := if_neg c3
      refine ⟨_, rfl, z, rfl, by rw [← ef]; exact hd.2, hl, ?_⟩
      have e2 : valOf z.cps.toList = ((digitsVal z.cps.toList : Nat) : Int) := if_neg c3
      rw [e2] at qq
      exact qq
end
end Rp
namespace Rp
open PySem PySem.NumText L2 Fig
section
variable {P : Program} {w : World} {K : PySem.W.Frag} {mg : Str → Option Value} {base : Heap} {f : Addr} {fd : FuncData}
theorem ok_num2 {C : Addr} (F : Fun K "number_of" "number_of" sNumberOf f fd) (fI : Rdy P w K mg base 1 "is_number" ["words"] spIs) (fV : Rdy P w K mg base 1 "value_of" ["figures"] spVal) (mN : mg "NoNumber" = some (.ref C)) (ec : PySem.W.excIn K C bmV "ValueError.__new__" = true) : FnOk P w K mg base (CXE P w) 2 f fd ["words"] (spNum C) := by
  obtain ⟨a, d, G, b, k, m⟩ := fI
  obtain ⟨a2, d2, G2, b2, k2, m2⟩ := fV
  exact ok_num F G b k m G2 b2 k2 m2 mN ec
end
end Rp
namespace Rp
open PySem PySem.NumText L2 Fig
/-! ### tidy texts, part by part -/
/-- the first two numbers behind a part -/
def behind (r : List Part) : List Int := ((r.take 2).flatMap Part.two).take 2
def asP (p : Part) (r : List Part) : Bool := match p with
  | .same n _ => !decide ((behind r).take 1 = [n])
  | .rise _ b => !decide ((behind r).take 1 = [b + 1])
  | .one n => decide (first n (n :: behind r) = .one n)
def goodP : List Part → Bool
  | [] => true
  | p :: r => asP p r && goodP r
theorem vals_ne {p : Part} (h : p.ok) : ∃ v t, p.vals = v :: t := by
  cases p with
  | one n => exact ⟨n, [], rfl⟩
  | same n k =>
    have h' : 3 ≤ k := h
    obtain ⟨m, hm⟩ : ∃ m, k.toNat = m + 1 := ⟨k.toNat - 1, by omega⟩
    exact ⟨n, List.replicate m n, by show List.replicate k.toNat n = _; rw [hm, List.replicate_succ]⟩
  | rise a b =>
    have h' : a + 2 ≤ b := h
    obtain ⟨m, hm⟩ : ∃ m, (b - a + 1).toNat = m + 1 := ⟨(b - a + 1).toNat - 1, by omega⟩
    refine ⟨a, (List.range m).map fun i : Nat => a + ((i + 1 : Nat) : Int), ?_⟩
    show (List.range (b - a + 1).toNat).map (fun i : Nat => a + (i : Int)) = _
    rw [hm, List.range_succ_eq_map, List.map_cons, List.map_map]
    simp
theorem two_vals : ∀ {p : Part}, p.ok → p.two = p.vals.take 2
  | .one n, _ => rfl
  | .same n k, h => by
    have h' : 3 ≤ k := h
    obtain ⟨m, hm⟩ : ∃ m, k.toNat = m + 3 := ⟨k.toNat - 3, by omega⟩
    show [n, n] = (List.replicate k.toNat n).take 2
    rw [hm]
    rfl
  | .rise a b, h => by
    have h' : a + 2 ≤ b := h
    show [a, a + 1] = ((List.range (b - a + 1).toNat).map fun i : Nat => a + (i : Int)).take 2
    rw [← List.map_take, List.take_range, Nat.min_eq_left (by omega)]
    simp [List.range_succ]
theorem two_len {p : Part} : p.two.length = 1 ∨ (p.two.length = 2 ∧ ∀ n, p ≠ .one n) := by
  cases p with
  | one n => exact .inl rfl
  | same n k => exact .inr ⟨rfl, fun m e => by cases e⟩
  | rise a b => exact .inr ⟨rfl, fun m e => by cases e⟩
theorem behind_vals {r : List Part} (h : ∀ p ∈ r, p.ok) : behind r = (valsAll r).take 2 := by
  cases r with
  | nil => rfl
  | cons p r =>
    have hp := h p List.mem_cons_self
    obtain ⟨v, t, ev⟩ := vals_ne hp
    have ep := two_vals hp
    cases t with
    | nil =>
      have e1 : p.two = [v] := by rw [ep, ev]; rfl
      cases r with
      | nil =>
        show (p.two ++ []).take 2 = (p.vals ++ []).take 2
        rw [e1, ev]
      | cons q r =>
        have hq := h q (List.mem_cons_of_mem _ List.mem_cons_self)
        obtain ⟨u, s, eu⟩ := vals_ne hq
        have eq := two_vals hq
        show (p.two ++ (q.two ++ [])).take 2 = (p.vals ++ (q.vals ++ valsAll r)).take 2
        rw [e1, ev, eq, eu]
        simp
    | cons x t =>
      have e1 : p.two = [v, x] := by rw [ep, ev]; rfl
      have e2 : behind (p :: r) = (p.two ++ (r.take 1).flatMap Part.two).take 2 := rfl
      have e3 : valsAll (p :: r) = p.vals ++ valsAll r := rfl
      rw [e2, e3, e1, ev]
      rfl
theorem runN_rep (n : Int) (R : List Int) : ∀ k : Nat, runN 0 n (List.replicate k n ++ R) = k + runN 0 n R
  | 0 => by simp
  | k + 1 => by
    rw [List.replicate_succ, List.cons_append, runN, if_pos rfl, Int.add_zero, runN_rep n R k]
    omega
theorem runN_up (R : List Int) : ∀ (m : Nat) (a : Int), runN 1 a ((List.range m).map (fun i : Nat => a + (i : Int)) ++ R) = m + runN 1 (a + m) R
  | 0, a => by simp
  | m + 1, a => by
    rw [List.range_succ_eq_map, List.map_cons, List.map_map, List.cons_append, runN, if_pos (by simp)]
    have e : (fun i : Nat => a + (i : Int)) ∘ Nat.succ = fun i : Nat => (a + 1) + (i : Int) := by
      funext i
      show a + ((i + 1 : Nat) : Int) = _
      omega
    rw [e, runN_up R m (a + 1), show a + 1 + (m : Int) = a + ((m + 1 : Nat) : Int) by omega]
    omega
theorem runN_zero (d v : Int) (R : List Int) : runN d v R = 0 ↔ ¬ R.take 1 = [v] := by
  cases R with
  | nil => simp [runN]
  | cons x t =>
    unfold runN
    by_cases h : x = v
    · rw [if_pos h]
      simp [h]
    · rw [if_neg h]
      simp [h]
theorem run3 (d n : Int) (R : List Int) : 3 ≤ runN d n (n :: R) ↔ 3 ≤ runN d n (n :: R.take 2) := by
  cases R with
  | nil => rfl
  | cons x R =>
    cases R with
    | nil => rfl
    | cons y R =>
      have e : ∀ R' : List Int, runN d n (n :: x :: y :: R') = if x = n + d then (if y = n + d + d then runN d (n + d + d + d) R' + 1 + 1 + 1 else 0 + 1 + 1) else 0 + 1 := fun R' => by
        rw [show runN d n (n :: x :: y :: R') = (if n = n then runN d (n + d) (x :: y :: R') + 1 else 0) from rfl, if_pos rfl, show runN d (n + d) (x :: y :: R') = (if x = n + d then runN d (n + d + d) (y :: R') + 1 else 0) from rfl]
        by_cases hx : x = n + d
        · rw [if_pos hx, if_pos hx, show runN d (n + d + d) (y :: R') = (if y = n + d + d then runN d (n + d + d + d) R' + 1 else 0) from rfl]
          by_cases hy : y = n + d + d
          · rw [if_pos hy, if_pos hy]
          · rw [if_neg hy, if_neg hy]
        · rw [if_neg hx, if_neg hx]
      show 3 ≤ runN d n (n :: x :: y :: R) ↔ 3 ≤ runN d n [n, x, y]
      rw [e R, e []]
      by_cases hx : x = n + d
      · rw [if_pos hx, if_pos hx]
        by_cases hy : y = n + d + d
        · rw [if_pos hy, if_pos hy]
          omega
        · rw [if_neg hy, if_neg hy]
      · rw [if_neg hx, if_neg hx]
theorem first_one (n : Int) (r : List Int) : first n r = .one n ↔ ¬ 3 ≤ runN 0 n r ∧ ¬ 3 ≤ runN 1 n r := by
  unfold first
  split
  · rename_i h
    exact ⟨fun e => (nomatch e), fun e => absurd h e.1⟩
  · rename_i h
    split
    · rename_i h2
      exact ⟨fun e => (nomatch e), fun e => absurd h2 e.2⟩
    · rename_i h2
      exact ⟨fun _ => ⟨h, h2⟩, fun _ => rfl⟩
theorem first_is {p : Part} (ok : p.ok) {r : List Part} (hr : ∀ q ∈ r, q.ok) {v : Int} {t : List Int} (ev : p.vals = v :: t) : first v (p.vals ++ valsAll r) = p ↔ asP p r = true := by
  have eb := behind_vals hr
  have e1 : (behind r).take 1 = (valsAll r).take 1 := by rw [eb, List.take_take]; rfl
  cases p with
  | one n =>
    have e2 : v = n ∧ t = [] := by
      have : [n] = v :: t := ev
      injection this with a b
      exact ⟨a.symm, b.symm⟩
    rw [e2.1]
    show first n ([n] ++ valsAll r) = .one n ↔ decide (first n (n :: behind r) = .one n) = true
    rw [decide_eq_true_iff, first_one, first_one, eb]
    show ¬ 3 ≤ runN 0 n (n :: valsAll r) ∧ ¬ 3 ≤ runN 1 n (n :: valsAll r) ↔ _
    rw [run3 0 n, run3 1 n]
  | same n k =>
    have hk : 3 ≤ k := ok
    have hv : v = n := by
      have h1 : v ∈ (Part.same n k).vals := by rw [ev]; exact List.mem_cons_self
      exact (List.mem_replicate.mp (show v ∈ List.replicate k.toNat n from h1)).2
    rw [hv]
    show first n (List.replicate k.toNat n ++ valsAll r) = .same n k ↔ (!decide ((behind r).take 1 = [n])) = true
    have h0 := runN_rep n (valsAll r) k.toNat
    have z := runN_zero 0 n (valsAll r)
    have ef : first n (List.replicate k.toNat n ++ valsAll r) = .same n (runN 0 n (List.replicate k.toNat n ++ valsAll r) : Nat) := if_pos (by omega)
    rw [ef, h0, e1, Bool.not_eq_true', decide_eq_false_iff_not, ← z]
    constructor
    · intro e
      injection e with _ e
      omega
    · intro e
      rw [e]
      congr 1
      omega
  | rise a b =>
    have hk : a + 2 ≤ b := ok
    have hm : ∃ m, (b - a + 1).toNat = m + 2 := ⟨(b - a + 1).toNat - 2, by omega⟩
    obtain ⟨m, hm⟩ := hm
    have hv : v = a := by
      have h1 : ((List.range (b - a + 1).toNat).map fun i : Nat => a + (i : Int)) = v :: t := ev
      rw [hm, List.range_succ_eq_map, List.map_cons] at h1
      injection h1 with h1 _
      rw [← h1]
      simp
    rw [hv]
    show first a (((List.range (b - a + 1).toNat).map fun i : Nat => a + (i : Int)) ++ valsAll r) = .rise a b ↔ (!decide ((behind r).take 1 = [b + 1])) = true
    have h1 := runN_up (valsAll r) (b - a + 1).toNat a
    rw [show a + (((b - a + 1).toNat : Nat) : Int) = b + 1 by omega] at h1
    have z := runN_zero 1 (b + 1) (valsAll r)
    have h0 : runN 0 a (((List.range (b - a + 1).toNat).map fun i : Nat => a + (i : Int)) ++ valsAll r) = 1 := by
      rw [hm, List.range_succ_eq_map, List.map_cons, List.cons_append, runN, if_pos (by simp), List.range_succ_eq_map, List.map_cons, List.map_cons, List.cons_append, runN, if_neg (by simp; omega)]
    have ef : first a (((List.range (b - a + 1).toNat).map fun i : Nat => a + (i : Int)) ++ valsAll r) = .rise a (a + (runN 1 a (((List.range (b - a + 1).toNat).map fun i : Nat => a + (i : Int)) ++ valsAll r) : Nat) - 1) := (if_neg (by omega)).trans (if_pos (by omega))
    rw [ef, h1, e1, Bool.not_eq_true', decide_eq_false_iff_not, ← z]
    constructor
    · intro e
      injection e with _ e
      omega
    · intro e
      rw [e]
      congr 1
      omega
theorem drop_vals {p : Part} (ok : p.ok) (R : List Int) : (p.vals ++ R).drop p.many.toNat = R := by
  have := Part.len_vals ok
  rw [show p.many.toNat = p.vals.length by omega, List.drop_left]
theorem good_iff : ∀ {ps : List Part}, (∀ p ∈ ps, p.ok) → (pack (valsAll ps) = ps ↔ goodP ps = true)
  | [], _ => ⟨fun _ => rfl, fun _ => rfl⟩
  | p :: r, h => by
    have hp := h p List.mem_cons_self
    have hr : ∀ q ∈ r, q.ok := fun q hq => h q (List.mem_cons_of_mem _ hq)
    obtain ⟨v, t, ev⟩ := vals_ne hp
    have ih := good_iff hr
    have fi := first_is hp hr ev
    have e3 : valsAll (p :: r) = p.vals ++ valsAll r := rfl
    have pc := pack_cons v (t ++ valsAll r)
    rw [← List.cons_append, ← ev] at pc
    show _ ↔ (asP p r && goodP r) = true
    rw [e3, pc, Bool.and_eq_true, ← fi, ← ih]
    constructor
    · intro e
      injection e with ea eb
      rw [ea, drop_vals hp] at eb
      exact ⟨ea, eb⟩
    · rintro ⟨ea, eb⟩
      rw [ea, drop_vals hp, eb]
def asAt (ps : List Part) (i : Nat) : Bool := match ps[i]? with
  | some p => asP p (ps.drop (i + 1))
  | none => true
theorem good_all : ∀ ps : List Part, ((List.range ps.length).map (asAt ps)).all id = goodP ps
  | [] => rfl
  | p :: r => by
    have ih := good_all r
    rw [List.length_cons, List.range_succ_eq_map, List.map_cons, List.all_cons, List.map_map]
    have e : asAt (p :: r) ∘ Nat.succ = asAt r := by
      funext i
      show asAt (p :: r) (i + 1) = asAt r i
      unfold asAt
      rw [List.getElem?_cons_succ]
      rfl
    rw [e, ih]
    rfl
/-- is the text tidy -/
def tidyP (cs : List Nat) : Bool := match readT cs with
  | some ps => goodP ps
  | none => false
def spTidyP : Sp := fun vs H Q _ => ∃ z : Str, vs = [.str z] ∧ Small z ∧ ∀ H', Same H H' → Q (.bl (tidyP z.cps.toList)) H'
theorem cut_two {xs : List V} {k : Nat} (h : k < xs.length) : cutV xs (some ((k : Int) + 1)) (some ((k : Int) + 3)) = (xs.drop (k + 1)).take 2 := by
  unfold cutV
  have e1 : HT.sIx xs.length 0 (some ((k : Int) + 1)) = k + 1 := by
    unfold HT.sIx
    dsimp only
    rw [if_neg (by omega)]
    omega
  have e2 : HT.sIx xs.length xs.length (some ((k : Int) + 3)) = min (k + 3) xs.length := by
    unfold HT.sIx
    dsimp only
    rw [if_neg (by omega)]
    omega
  rw [e1, e2]
  by_cases c : k + 3 ≤ xs.length
  · rw [Nat.min_eq_left c, show k + 3 - (k + 1) = 2 by omega]
  · rw [Nat.min_eq_right (by omega), List.take_of_length_le (by rw [List.length_drop]; exact Nat.le_refl _), List.take_of_length_le (by rw [List.length_drop]; omega)]
theorem cut_upto (xs : List V) (k : Nat) : cutV xs none (some (k : Int)) = xs.take k := by
  unfold cutV
  have e1 : HT.sIx xs.length 0 none = 0 := by simp [HT.sIx]
  have e2 : HT.sIx xs.length xs.length (some (k : Int)) = min k xs.length := by simp [HT.sIx]; omega
  rw [e1, e2, List.drop_zero, Nat.sub_zero]
  by_cases c : k ≤ xs.length
  · rw [Nat.min_eq_left c]
  · rw [Nat.min_eq_right (by omega), List.take_of_length_le (Nat.le_refl _), List.take_of_length_le (by omega)]
def spBehind : Sp := fun vs H Q _ => ∃ (a : Addr) (ps : List Part) (k : Nat), vs = [.ref a, .int k] ∧ PartsAt H a ps ∧ k < ps.length ∧ ps.length ≤ 200000 ∧ ∀ (l : Addr) (H' : Hp), Same H H' → H l = none → H' l = some (.lst ((behind (ps.drop (k + 1))).map V.int)) → Q (.ref l) H'
def spAsP : Sp := fun vs H Q _ => ∃ (a : Addr) (ps : List Part) (k : Nat), vs = [.ref a, .int k] ∧ PartsAt H a ps ∧ k < ps.length ∧ ps.length ≤ 200000 ∧ ∀ H', Same H H' → Q (.bl (asAt ps k)) H'
theorem PartsAt.same {H H' : Hp} {a : Addr} {ps : List Part} (h : PartsAt H a ps) (s : Same H H') : PartsAt H' a ps := let ⟨rs, h1, h2, h3⟩ := h; ⟨rs, s _ _ h1, h2, fun i r q e1 e2 => s _ _ (h3 i r q e1 e2)⟩
theorem behind_len (r : List Part) : (behind r).length ≤ 2 := by unfold behind; rw [List.length_take]; omega
end Rp
/-! Errors that pass through arguments, loops and comprehensions. -/
namespace L2
open PySem PySem.Spec PyProof.Rows
abbrev TAX := St → Hp → (List V → Hp → Prop) → XK → Prop
abbrev TIX := St → Hp → (It → Hp → Prop) → XK → Prop
def XEP (X : Cx) (pins : List (Addr × Obj)) (σ : St) (E : XK) (e : Value) (s' : Shared) : Prop := ∃ H s, Inv X pins σ H s ∧ CXE X.prog X.w X.stack H s E e s'
def PAX (X : Cx) (es : List Expr) (t : TAX) : Prop :=
  ∀ (pos : Pos) (pins : List (Addr × Obj)) (s : Shared) (σ : St) (H : Hp) (Q : List V → Hp → Prop) (E : XK), Inv X pins σ H s → t σ H Q E → wpAny (model X.prog X.w) X.A (spliced (backTo pos (starEach es X.env))) (AP X pins σ Q) (XEP X pins σ E) s
def PIX (X : Cx) (tg iter : Expr) (wi : TIX) : Prop :=
  ∀ (pins : List (Addr × Obj)) (s : Shared) (σ : St) (H : Hp) (R : It → Hp → Prop) (E : XK), Inv X pins σ H s → wi σ H R E →
    wpAny (model X.prog X.w) X.A (eval iter X.env) (fun v s1 => wpAny (model X.prog X.w) X.A (pyIter v) (PIE X pins σ tg R) (fun _ _ => False) s1) (XEP X pins σ E) s
section
variable {X : Cx} {e : Expr} {es : List Expr} {te : TEX} {t : TAX} {pos : Pos} {tg : Expr}
def xNil : TAX := fun _ H Q _ => Q [] H
def xCons (te : TEX) (t : TAX) : TAX := fun σ H Q E => te σ H (fun x H1 => t σ H1 (fun xs H2 => Q (x :: xs) H2) E) E
theorem pax_nil : PAX X [] xNil := fun _ _ _ _ H Q _ I h => Calls.spliced_nil ⟨[], H, I, .nil, h⟩
theorem pax_cons (ha : PEX X e te) (hr : PAX X es t) (hs : starEach (e :: es) X.env = (false, eval e X.env) :: starEach es X.env := by rfl) : PAX X (e :: es) (xCons te t) := by
  intro pos pins s σ H Q E I h
  rw [hs]
  show wpAny _ _ (spliced ((false, eval e X.env) :: backTo pos (starEach es X.env))) _ _ s
  refine Calls.spliced_cons (thn (ha pins s σ H _ E I h) fun u s1 ⟨x, H1, I1, r1, q1⟩ => ?_)
  exact thn (hr pos pins s1 σ H1 _ E I1 q1) fun us s2 ⟨xs, H2, I2, r2, q2⟩ => ⟨x :: xs, H2, I2, .cons r1 r2, q2⟩
def xTup (t : TAX) : TEX := fun σ H Q E => t σ H (fun xs H1 => xs.length ≤ sizeLine ∧ ∀ p, H1 p = none → Q (.ref p) (upd H1 p (.tup xs))) E
theorem pex_tup {x1} (h : PAX X es t) : PEX X (.Tuple es x1 pos) (xTup t) := by
  intro pins s σ H Q E I hq
  refine wpAny_Tuple_spliced (thn (h pos pins s σ H _ E I hq) fun us s1 ⟨xs, H1, I1, r, z, q⟩ => ⟨by rw [← r.length]; exact z, ?_⟩)
  have hf : H1 s1.heap.objs.size = none := I1.hok.fresh (Nat.le_refl _)
  refine ⟨.ref s1.heap.objs.size, upd H1 s1.heap.objs.size (.tup xs), I1.laid (t' := s1.toks) (fun b u e => Heap.get?_push_of_some _ e) (Nat.le_refl _) ?_, rfl, q _ hf⟩
  exact ⟨z, us, r, ⟨_, Heap.get?_push_size _ rfl, rfl, _, rfl⟩⟩
def xIn (wi : TI) : TIX := fun σ H R _ => wi σ H R
theorem PI.x {wi : TI} {iter : Expr} (h : PI X.nox tg iter wi) : PIX X tg iter (xIn wi) := fun pins s σ H R E I hw =>
  wpAny_mono (h pins s σ H R (I.wish _) hw) (fun v s1 h1 => wpAny_mono h1 (fun itv s2 ⟨it, fp, tn, J, H', e, I2, T, st, f, q⟩ => ⟨it, fp, tn, J, H', e, I2.unwish, T, st, f, q⟩) fun _ _ z => z) fun _ _ z => z.elim
def xList (K : PySem.W.Frag) (tl : TEX) : TIX := fun σ H R E => tl σ H (fun x H1 => ∃ a, x = .ref a ∧ (∃ xs, SqL K H1 a xs) ∧ R (Itl K a) H1) E
theorem pix_list {l : Expr} {tl : TEX} (hl : PEX X l tl) : PIX X tg l (xList X.K tl) := by
  intro pins s σ H R E I h
  refine thn (hl pins s σ H _ E I h) fun v s1 ⟨x, H1, I1, r1, q1⟩ => ?_
  obtain ⟨a, rfl, ⟨xs, hq⟩, q⟩ := q1
  cases r1
  obtain ⟨its, rv, p, hz⟩ := I1.list hq
  refine wpAny_pyIter_list p.isList ⟨s1.heap.objs.size, [s1.heap.objs.size], _, _, H1, rfl, I1.kept (t' := s1.toks) fun b o e => Heap.get?_push_of_some _ e, turn_list a _, ⟨_, Heap.get?_push_size _ rfl, rfl, rfl⟩, fun b hb => ?_, q⟩
  obtain rfl : b = s1.heap.objs.size := by simpa using hb
  exact I1.fpOk (Nat.le_refl _) (I1.hok.fresh (Nat.le_refl _))
/-- a loop whose list may be refused; its body refuses nothing -/
def xFor (wi : TIX) (g : TG) (tb : TS) : TSX := fun D E _ σ H => wi σ H (fun J H1 => ∃ W : Nat → Nat → St → Hp → Prop, (∃ m, W 0 m σ H1) ∧ ∀ i m σ H, W i m σ H →
  (J.stop i H ∧ D.nx σ H) ∨ (J.go i H ∧ ∃ N : St → Hp → Prop, (∀ σ' H', N σ' H' → ∃ m', m' < m ∧ W (i + 1) m' σ' H') ∧ ∀ x H', J.yld i H x H' → g x σ H' fun σ2 H2 => tb { D with nx := N, ct := N, bk := D.nx } σ2 H2)) (E σ)
theorem psx_for {iter : Expr} {body : List Stmt} {wi : TIX} {g : TG} {tb : TS} (hc : X.calm = true) (hi : PIX X tg iter wi) (hg : PG X.nox tg g) (hb : PSs X.nox body tb)
    (hs : ∀ x, foldedSetIterable iter X.env x = pure x := by intro _; rfl) : PSX X (.For tg iter body [] pos) (xFor wi g tb) := by
  intro pins s σ H D E EM I h
  refine wpAny_For (wpAny_mono (hi pins s σ H _ (E σ) I h) (fun v s1 h1 => wpAny_mono h1 (fun itv s2 h2 => ?_) fun _ _ z => z.elim) fun _ _ q => xp_of q) hs
  obtain ⟨it, fp, tn, J, H2, rfl, I2, T, st2, f2, W, ⟨m0, w0⟩, turn⟩ := h2
  have stat : ∀ {H' : Hp}, (∀ b ∈ fp, H' b = none) → ∀ b ∈ fp, FpOk X pins H' b := fun hn b hb => ⟨hn b hb, (f2 b hb).2⟩
  refine codeAny_forLoop_any (fun n s' => ∃ i σ' H', Inv X pins σ' H' s' ∧ tn i s'.heap ∧ (∀ b ∈ fp, H' b = none) ∧ W i n σ' H') ?_ m0 ⟨0, σ, H2, I2, st2, fun b hb => (f2 b hb).1, w0⟩
  rintro n s3 ⟨i, σ3, H3, I3, st3, fr3, w3⟩
  rcases turn i n σ3 H3 w3 with ⟨stop, qn⟩ | ⟨go, N, hN, step⟩
  · refine wpAny_noRaise (thn (T.done X rfl rfl rfl hc i pins s3 σ3 H3 _ I3 (stat fr3) st3 stop) fun r s4 ⟨hr, I4⟩ => ?_)
    subst hr
    exact wpAny_execs_nil ⟨σ3, H3, I4, qn⟩
  · refine wpAny_noRaise (thn (T.item X rfl rfl rfl hc i pins s3 σ3 H3 _ I3 (stat fr3) st3 go) fun r s4 ⟨u, hr, h4⟩ => ?_)
    subst hr
    refine wpAny_noRaise (thn h4 fun _ s5 ⟨x, H5, I5, r5, y5, st5, fr5⟩ => ?_)
    have I5' := I5.pinned (stat fr5) (T.obj _ _ st5)
    refine wpAny_noRaise (thn (hg _ s5 σ3 H5 x u _ (I5'.wish _) r5 (step x H5 y5)) fun _ s6 ⟨σ6, H6, I6, q6⟩ => ?_)
    refine wpAny_noRaise (thn (hb _ s6 σ6 H6 _ I6 q6) fun f s7 q7 => ?_)
    have q7 := SP.unwish q7
    have again : ∀ {σ7 : St} {H7 : Hp}, Inv X (pins ++ pinsAt fp s5.heap) σ7 H7 s7 → N σ7 H7 → ∃ m, m < n ∧ ∃ i σ' H', Inv X pins σ' H' s7 ∧ tn i s7.heap ∧ (∀ b ∈ fp, H' b = none) ∧ W i m σ' H' := fun {σ7 H7} I7 n7 => by
      obtain ⟨m', hm, w7⟩ := hN σ7 H7 n7
      refine ⟨m', hm, i + 1, σ7, H7, I7.unpinned, T.keep _ _ _ st5 fun b hb o e => (I7.pin (b, o) (List.mem_append_right _ (List.mem_append_right _ (mem_pinsAt hb e)))).1, fun b hb => ?_, w7⟩
      obtain ⟨o, e, d⟩ := T.obj _ _ st5 b hb
      exact (I7.pin (b, o) (List.mem_append_right _ (List.mem_append_right _ (mem_pinsAt hb e)))).2.1
    cases f with
    | next => obtain ⟨σ7, H7, I7, n7⟩ := q7; exact again I7 n7
    | cont => obtain ⟨σ7, H7, I7, n7⟩ := q7; exact again I7 n7
    | brk => obtain ⟨σ7, H7, I7, q7⟩ := q7; exact ⟨σ7, H7, I7.unpinned, q7⟩
    | ret v => obtain ⟨x7, σ7, H7, I7, r7, q7⟩ := q7; exact ⟨x7, σ7, H7, I7.unpinned, r7, q7⟩
end

/-! ### an error in the frame's own hands -/
/-- its traceback's last entry may be this frame's already (fl) -/
def CXH (X : Cx) (H : Hp) (s : Shared) (E : XK) (e : Value) (s' : Shared) : Prop :=
  ∃ (a t : Addr) (C : Value) (H' : Hp) (B : Heap) (fl : Value), e = .ref a ∧ s'.os = s.os ∧ AllBare s'.gens ∧ Un (frs X.stack) [] H H' s.heap s'.heap ∧ HOk X.prog X.w H' B ∧
    (B.StaysIn s'.heap ∧ B.get? a = none ∧ s'.heap.FunFrames B X.stack ∧ s'.heap.TracedAtW B a C (.ref t) fl) ∧ (∀ b o, s.heap.get? b = some o → H b = none → b ∉ frs X.stack → B.get? b = some o) ∧
    (∀ b o, s.heap.get? b = some o → b ∉ frs X.stack → ∃ o', B.get? b = some o') ∧ s.heap.get? a = none ∧ E C none H'
def XH (X : Cx) (pins : List (Addr × Obj)) (σ : St) (E : XK) (e : Value) (s' : Shared) : Prop := ∃ H s, Inv X pins σ H s ∧ CXH X H s E e s'
theorem funFrames_at {h h' base : Heap} : ∀ {l : List Env}, h.FunFrames base l → (∀ b ∈ l.filterMap (·.frame), ∀ o, h.get? b = some o → (∀ vs, o.data ≠ .fields vs) → ∃ o', h'.get? b = some o' ∧ o'.data = o.data) → h'.FunFrames base l
  | [], _, _ => trivial
  | env :: l, ⟨hk, ⟨L, o, hf, hn, ho, hd⟩, hr⟩, k => by
    obtain ⟨o', e1, e2⟩ := k L (by rw [List.filterMap_cons, hf]; exact List.mem_cons_self) o ho hd
    exact ⟨hk, ⟨L, o', hf, hn, e1, by rw [e2]; exact hd⟩, funFrames_at hr fun b hb => k b (by rw [List.filterMap_cons, hf]; exact List.mem_cons_of_mem _ hb)⟩
theorem hide_ne {h : Heap} {C b : Addr} (hb : b ≠ C) : (PySem.W.hideAll h [C]).get? b = h.get? b := by
  cases e : h.get? b with
  | some o => exact PySem.W.hideAll_get _ e (by simpa using hb)
  | none =>
    cases e2 : (PySem.W.hideAll h [C]).get? b with
    | none => rfl
    | some o => rw [PySem.W.of_hideAll _ e2] at e; cases e
theorem hide_at {h : Heap} {C : Addr} : (PySem.W.hideAll h [C]).get? C = none := PySem.W.hideAll_none _ (by simp)
theorem hide_same (h : Heap) (C : Addr) : Heap.SameBut C h (PySem.W.hideAll h [C]) := ⟨PySem.W.hideAll_size _ _, fun b hb => hide_ne hb⟩
theorem hide_stays (h : Heap) (C : Addr) : (PySem.W.hideAll h [C]).StaysIn h := fun b o e => PySem.W.of_hideAll _ e

def tLCX (wi : TIX) (js : List Nat) (telt : TEX) (EX : XK) : TEX := fun σ H Q E => wi σ H (fun J H1 => ∀ D, H1 D = none → ∃ W : Nat → Nat → List V → Hp → Prop, (∃ m, W 0 m [] (upd H1 D (.lst []))) ∧
  ∀ i m ys Hk, W i m ys Hk → (J.stop i Hk ∧ Q (.ref D) Hk) ∨ (J.go i Hk ∧ ys.length < sizeLine ∧ ∀ x H', J.yld i Hk x H' → telt (some x :: capt σ js) H' (fun y H2 => H2 D = some (.lst ys) ∧ ∃ m', m' < m ∧ W (i + 1) m' (ys ++ [y]) (upd H2 D (.lst (ys ++ [y])))) EX)) E

section
variable {X : Cx} {wi : TIX} {telt : TEX} {N' : List Str} {js : List Nat} {cl : List (Str × Addr)}
theorem comp_gen {elt iter : Expr} {x : Str} {px : Pos} {scope : Scope} {pos : Pos} {pins : List (Addr × Obj)} {s : Shared} {σ : St} {H : Hp} {Q : VK} {EI EX : XK} {E' : Value → Shared → Prop} (hstk : X.stack = X.env :: X.outer) (hfr : X.env.frame = some X.env.locals) (hc : X.calm = true)
    (hi : PIX X (.Name x px) iter wi) (G : CompOk X N' js x scope cl) (he : ∀ C fp s2 H2, PEX (compCx X N' scope cl C fp s2 H2) elt telt) (I : Inv X pins σ H s) (h : tLCX wi js telt EX σ H Q EI)
    (h1 : ∀ e s', XEP X pins σ EI e s' → E' e s') (h2' : ∀ e s', XH X pins σ EX e s' → E' e s') (hs : ∀ x, foldedSetIterable iter X.env x = pure x := by intro _; rfl) :
    wpAny (model X.prog X.w) X.A (eval (.ListComp elt [⟨.Name x px, iter, [], 0⟩] scope pos) X.env) (EP X pins σ Q) E' s := by
  rw [eval_ListComp]
  refine wpAny_comprehension_free (use := none) rfl hs G.clos G.kind G.names (wpAny_mono (hi pins s σ H _ EI I h) (fun v s1 h1 => wpAny_mono h1 (fun itv s2 h2 => ?_) fun _ _ z => z.elim) fun e s' z => h1 e s' z)
  obtain ⟨it, fp, tn, J, H2, rfl, I2, T, st2, f2, q⟩ := h2
  obtain ⟨W, ⟨m0, w0⟩, turn⟩ := q s2.heap.objs.size (I2.hok.fresh (Nat.le_refl _))
  refine wpAny_newObj_type (wpAny_newFunctionEnv G.cell (by intro y hy; simp at hy) (fun h₁ hns₁ hsb₁ => ?_) G.kind)
  dsimp only at hns₁ hsb₁ ⊢
  generalize hH3 : s2.heap.push { cls := .type "list", dict := none, data := .seq ([] : List Value).toArray } = H3 at hns₁ hsb₁ ⊢
  have hC : H3.objs.size = s2.heap.objs.size + 1 := by rw [← hH3, Heap.size_push]
  generalize hCe : H3.objs.size = C at hns₁ hsb₁ ⊢
  have hCs : C = s2.heap.objs.size + 1 := hCe.symm.trans hC
  have below : ∀ b, b < s2.heap.objs.size → b ≠ C ∧ b ≠ s2.heap.objs.size := fun b hb => ⟨by rw [hCs]; exact Nat.ne_of_lt (Nat.lt_succ_of_lt hb), Nat.ne_of_lt hb⟩
  have hDC : s2.heap.objs.size ≠ C := by rw [hCs]; exact Nat.ne_of_lt (Nat.lt_succ_self _)
  have old : ∀ b o, s2.heap.get? b = some o → h₁.get? b = some o := fun b o e => hsb₁.extBut b o (below b (Heap.lt_size e)).1 (Heap.get?_push_of_some _ (hH3 ▸ Heap.get?_push_of_some _ e))
  have hD : h₁.get? s2.heap.objs.size = some { cls := .type "list", dict := none, data := .seq ([] : List Value).toArray } := hsb₁.extBut _ _ hDC (Heap.get?_push_of_some _ (hH3 ▸ Heap.get?_push_size _ rfl))
  have fpLt : ∀ b ∈ fp, b < s2.heap.objs.size := fun b hb => let ⟨o, e, _⟩ := T.obj _ _ st2 b hb; Heap.lt_size e
  have hCn : H2 C = none := I2.hok.fresh (by rw [hCs]; exact Nat.le_succ _)
  have hfs : ∀ b ∈ fp, b ∉ frs X.stack := fun b hb z => (List.mem_cons.mp (I2.stkSub b z)).elim (f2 b hb).2.1 (f2 b hb).2.2.1
  have I3 : Inv (compCx X N' scope cl C fp s2 H2) [] (none :: capt σ js) (upd H2 s2.heap.objs.size (.lst [])) { s2 with heap := h₁, toks := s2.toks + ([] : List (Str × Value)).length } := by
    refine ⟨⟨I2.ok.mod, G.kind, I2.ok.glob, I2.ok.blt, by show s2.heap.objs.size ≤ C; rw [hCs]; exact Nat.le_succ _, fun y z c h1 h2 => I2.ok.inj y z c (G.sub y c h1) (G.sub z c h2), fun y hy => ?_, fun y c hf => absurd hf Bool.false_ne_true, I2.ok.hd, I2.ok.frames, .inl rfl, fun b hb => ⟨(below b (fpLt b hb)).1, fun y c e => (f2 b hb).2.2.2.2.1 y c (G.sub y c e)⟩, I2.bs, Nat.le_trans I2.ok.bsz I2.sz, fun b o e hb => ?_, hfs, I2.stack, I2.stkFree⟩,
      rfl, I2.bare, Un.laid old (Nat.le_refl _) (I2.hok.fresh (Nat.le_refl _)), ⟨_, hns₁, fun i y v e1 e2 e3 => ?_⟩, fun y c e => ?_, ?_, fun y c e => ?_, fun p hp => absurd (show p ∈ ([] : List (Addr × Obj)) from hp) (by simp), I2.hok.laid old (Nat.le_refl _) ⟨Nat.zero_le _, [], 0, .nil, hD⟩, ?_⟩
    · rcases hy with hy | hy
      · exact G.has _ (PySem.mem_of_lookup hy) (.inl rfl)
      · exact G.has _ (PySem.mem_of_lookup hy) (.inr rfl)
    · obtain ⟨k1, k2, k3, k4, k5, k6⟩ := f2 b hb
      rcases k4 with k4 | k4
      · exact I2.ok.noex b o e k4
      · exact absurd (Nat.lt_of_lt_of_le (Heap.lt_size (I2.ok.bs b o e).1) k4) (Nat.lt_irrefl _)
    · cases i with
      | zero => cases e2
      | succ k =>
        obtain ⟨j, hj, hn, hv, hk, hr⟩ := G.cap k y e1
        have e4 : (capt σ js)[k]? = some (some v) := e2
        unfold capt at e4
        rw [List.getElem?_map, hj] at e4
        have e5 : (σ[j]?).join = some v := Option.some.inj e4
        have e6 : σ[j]? = some (some v) := by
          cases z : σ[j]? with
          | none => rw [z] at e5; cases e5
          | some o => rw [z] at e5; exact congrArg some e5
        obtain ⟨m, hm, hl⟩ := I2.loc
        obtain ⟨u, ru, lk⟩ := hl j y v hn e6 hv
        refine ⟨u, ru, .inr ⟨hr, ?_⟩⟩
        rcases lk with ⟨k1, _⟩ | ⟨k1, c, k2, k3⟩
        · exact absurd k1 hk
        · obtain ⟨c', hc'⟩ : ∃ c', cl.lookup y = some c' := by
            rcases hr with hr | hr
            · exact G.has _ (PySem.mem_of_lookup hr) (.inl rfl)
            · exact G.has _ (PySem.mem_of_lookup hr) (.inr rfl)
          have z := (G.sub y c' hc').symm.trans k2
          cases z
          obtain ⟨o, ho, hd⟩ := k3
          exact ⟨c, hc', o, old c o ho, hd⟩
    · obtain ⟨v, o, ho, hd⟩ := I2.cell y c (G.sub y c e)
      exact ⟨v, o, old c o ho, hd⟩
    · show upd H2 s2.heap.objs.size (.lst []) C = none
      rw [upd_ne (Ne.symm hDC)]
      exact hCn
    · obtain ⟨v, o, ho, hd⟩ := I2.cell y c (G.sub y c e)
      rw [upd_ne (below c (Heap.lt_size ho)).2]
      exact I2.freeC y c (G.sub y c e)
    · show (none :: capt σ js).length = N'.length
      unfold capt
      rw [List.length_cons, List.length_map, G.len]
  have stat : ∀ {Hk : Hp}, (∀ b ∈ fp, Hk b = none) → ∀ b ∈ fp, FpOk (compCx X N' scope cl C fp s2 H2) [] Hk b := fun hn b hb =>
    ⟨hn b hb, (below b (fpLt b hb)).1, hfs b hb, .inl hb, fun y c e => (f2 b hb).2.2.2.2.1 y c (G.sub y c e), fun p hp => absurd (show p ∈ ([] : List (Addr × Obj)) from hp) (by simp)⟩
  have fr0 : ∀ b ∈ fp, upd H2 s2.heap.objs.size (.lst []) b = none := fun b hb => by
    rw [upd_ne (below b (fpLt b hb)).2]
    exact (f2 b hb).1
  have tn0 : tn 0 h₁ := T.keep _ _ _ st2 fun b _ o e => old b o e
  -- the block's state seen from around it, its names gone
  have back : ∀ {Hk : Hp} {s5 : Shared} {σ5 : St} {pins5 : List (Addr × Obj)}, Inv (compCx X N' scope cl C fp s2 H2) pins5 σ5 Hk s5 → ∀ h' : Heap, Heap.SameBut C s5.heap h' → Inv X pins σ Hk { s5 with heap := h' } := fun {Hk s5 σ5 pins5} I5 h' sb => by
    have u : Un (frs X.stack) fp H2 Hk s2.heap s5.heap := I5.base
    have ne : ∀ b o, s2.heap.get? b = some o → b ≠ C := fun b o e => (below b (Heap.lt_size e)).1
    have hCk : Hk C = none := I5.free
    have un : Un (frs X.stack) fp H2 Hk s2.heap h' := ⟨fun b o e n hf hx => (sb.2 b (ne b o e)).trans (u.keep b o e n hf hx), fun b o e n hf hx => let ⟨sl, e1⟩ := u.slot b o e n hf hx; ⟨sl, (sb.2 b (ne b o e)).trans e1⟩, u.free, fun b o e hx => let ⟨o', e1⟩ := u.there b o e hx; ⟨o', (sb.2 b (ne b o e)).trans e1⟩, u.tups, u.frzs, u.tbls⟩
    have hok : HOk X.prog X.w Hk h' := fun a o e => (I5.hok a o e).stay (fun b v hb z => (sb.2 b (fun z2 => by
      rw [z2] at hb
      rcases hb with hb | hb
      · rw [← hb, hCk] at e; cases e
      · rw [hCk] at hb; cases hb)).trans z) (fun _ z => z) fun _ _ z => z
    exact I2.call' (s' := { s5 with heap := h' }) (ch := fp) I5.os un hok I5.bare fun b hb => ⟨(f2 b hb).2.2.2.1, (f2 b hb).2.1, (f2 b hb).2.2.2.2.1, (f2 b hb).2.2.2.2.2⟩
  have fin : ∀ {Hk : Hp} {s5 : Shared}, Inv (compCx X N' scope cl C fp s2 H2) [] (none :: capt σ js) Hk s5 → Q (.ref s2.heap.objs.size) Hk →
      compPost (model X.prog X.w) X.A E' none (EP X pins σ Q) (.ref s2.heap.objs.size) C (.ok .next) s5 := fun {Hk s5} I5 q => by
    obtain ⟨m, hm, _⟩ := I5.loc
    exact ⟨m, hm, fun h' sb => ⟨.ref _, Hk, back I5 h' sb, rfl, q⟩⟩
  -- an error out of the block
  have out : ∀ {e : Value} {s' : Shared} {σ5 : St} {pins5 : List (Addr × Obj)}, XEP (compCx X N' scope cl C fp s2 H2) pins5 σ5 EX e s' →
      notedBy (model X.prog X.w) X.A (compEnvC scope cl C X.env) (fun x s' => compPost (model X.prog X.w) X.A E' none (EP X pins σ Q) (.ref s2.heap.objs.size) C (.error x) s') e s' := by
    rintro e s' σ5 pins5 ⟨Hx, sx, Ix, a, t, Cc, H', B, rfl, os, bare, un, hokB, fly, keepB, thereB, new, qx⟩
    have un : Un (frs X.stack) [] Hx H' sx.heap s'.heap := un
    have fly : Heap.FlyingW B X.stack a Cc (.ref t) s'.heap := fly
    have keepB : ∀ b o, sx.heap.get? b = some o → Hx b = none → b ∉ frs X.stack → B.get? b = some o := keepB
    have thereB : ∀ b o, sx.heap.get? b = some o → b ∉ frs X.stack → ∃ o', B.get? b = some o' := thereB
    have nx : ∀ b : Addr, b ∉ ([] : List Addr) := fun b => by simp
    have hCx : Hx C = none := Ix.free
    obtain ⟨mC, hmC, _⟩ := Ix.loc
    have hmC : sx.heap.Ns C mC := hmC
    have hCf : C ∉ frs X.stack := fun z => by
      obtain ⟨_, o, ho, _⟩ := I2.stack.mem (show C ∈ X.stack.filterMap (·.frame) from z)
      have l := Heap.lt_size ho
      rw [hCs] at l
      exact absurd (Nat.lt_trans (Nat.lt_succ_self _) l) (Nat.lt_irrefl _)
    obtain ⟨oC, es, ep, hoC, hdC, rC⟩ := id hmC
    have hoCB := keepB C oC hoC hCx hCf
    have aC : a ≠ C := fun z => by have := fly.2.1; rw [z, hoCB] at this; cases this
    have hC' : H' C = none := un.free C oC hoC hCx (nx C)
    have fly2 : Heap.FlyingW (PySem.W.hideAll B [C]) X.stack a Cc (.ref t) s'.heap := PySem.W.flyingW_base (hide_stays B C) fly
    have hm' : s'.heap.Ns C mC := ⟨oC, es, ep, fly.1 C oC hoCB, hdC, rC⟩
    show wpAny _ _ (noteFrame (.ref a) X.env) _ _ s'
    rw [hstk] at fly2
    refine wpAny_looks_onW (I2.ok.frames.trans (congrArg some hstk)) hfr fly2 fun h4 held4 up4 => ?_
    have hm4 : h4.Ns C mC := up4.ns hm'
    refine ⟨mC, hm4, fun h' sb cenv' _ => ?_⟩
    obtain ⟨k1, k2, k3, oe, vs, T', oT, ts, he', hcl, hd', hv1, hnT, hTe, hT, hdT, h3⟩ := held4
    obtain ⟨oC4, es4, ep4, hoC4, hdC4, _⟩ := hm4
    have TC : T' ≠ C := fun z => by rw [z, hoC4] at hT; cases hT; rw [hdC4] at hdT; cases hdT
    have he5 : h'.get? a = some oe := (sb.2 a aC).trans he'
    have hT5 : h'.get? T' = some oT := (sb.2 T' TC).trans hT
    have hsz3 : 3 < ts.size := (Array.getElem?_eq_some_iff.mp h3).1
    unfold PySem.passOn
    refine wpAny_bind (wpAny_field (s := { s' with heap := h' }) he5 hd' hv1 ?_)
    rw [if_neg (show ¬ ((Value.ref T' == Value.none) = true) by simp)]
    first | refine wpAny_bind (wpAny_pure ?_) | skip
    refine wpAny_bind ?_
    unfold setFlight
    refine wpAny_bind (wpAny_field (s := { s' with heap := h' }) he5 hd' hv1 ?_)
    rw [if_pos (show (Value.ref T' != Value.none) = true by simp)]
    refine wpAny_setField (s := { s' with heap := h' }) hT5 hdT hsz3 (wpAny_throw (h2' _ _ ?_))
    generalize hfl : (cenv'.frame.elim Value.none fun f => rawInt f) = fl
    have other : ∀ b, b ≠ T' → (h'.update T' (Obj.mapFields (·.setIfInBounds 3 fl))).get? b = h'.get? b := fun b hb => Heap.get?_update_other _ _ (Ne.symm hb)
    have noR : ∀ b o, h4.get? b = some o → (∀ ws, o.data ≠ .fields ws) → b ≠ T' := fun b o hb hnf z => by
      rw [z, hT] at hb; cases hb; exact hnf ts hdT
    have BT : ∀ b o, (PySem.W.hideAll B [C]).get? b = some o → b ≠ C ∧ b ≠ T' := fun b o e => ⟨fun z => (by rw [z, hide_at] at e; cases e), fun z => (by rw [z, hnT] at e; cases e)⟩
    have stays7 : (PySem.W.hideAll B [C]).StaysIn (h'.update T' (Obj.mapFields (·.setIfInBounds 3 fl))) := fun b o e => (other b (BT b o e).2).trans ((sb.2 b (BT b o e).1).trans (k1 b o e))
    have slot7 : ∀ b o, sx.heap.get? b = some o → Hx b = none → b ∈ frs X.stack → ∃ sl, (h'.update T' (Obj.mapFields (·.setIfInBounds 3 fl))).get? b = some { o with slots := sl } := fun b o e n hb => by
      obtain ⟨sl, e1⟩ := un.slot b o e n hb (nx b)
      obtain ⟨_, o', e3, nf⟩ := fly.2.2.1.mem (show b ∈ X.stack.filterMap (·.frame) from hb)
      rw [e1] at e3; cases e3
      obtain ⟨sl2, e2⟩ := up4 b _ e1 nf
      exact ⟨sl2, (other b (noR b _ e2 nf)).trans ((sb.2 b (fun z => hCf (z ▸ hb))).trans e2)⟩
    have bkX := back Ix (PySem.W.hideAll sx.heap [C]) (hide_same sx.heap C)
    have oh : ∀ b o, (PySem.W.hideAll sx.heap [C]).get? b = some o → b ≠ C ∧ sx.heap.get? b = some o := fun b o e => ⟨fun z => (by rw [z, hide_at] at e; cases e), PySem.W.of_hideAll _ e⟩
    have frN : ∀ b ∈ frs X.stack, Hx b = none := Ix.stkFree
    refine ⟨Hx, _, bkX, a, t, Cc, H', PySem.W.hideAll B [C], fl, rfl, os, bare, ⟨fun b o e n hb hx' => ?_, fun b o e n hb hx' => slot7 b o (oh b o e).2 n hb, fun b o e n hx' => un.free b o (oh b o e).2 n hx', fun b o e hx' => ?_, un.tups, un.frzs, un.tbls⟩, fun b o e => ?_, ⟨stays7, k2, ?_, ?_⟩, fun b o e n hb => ?_, fun b o e hb => ?_, ?_, qx⟩
    · obtain ⟨e1, e2⟩ := oh b o e
      exact stays7 b o ((hide_ne e1).trans (keepB b o e2 n hb))
    · obtain ⟨e1, e2⟩ := oh b o e
      by_cases hb : b ∈ frs X.stack
      · obtain ⟨sl, z⟩ := slot7 b o e2 (frN b hb) hb
        exact ⟨_, z⟩
      · obtain ⟨o', z⟩ := thereB b o e2 hb
        exact ⟨o', stays7 b o' ((hide_ne e1).trans z)⟩
    · refine (hokB b o e).stay (fun c v hb z => (hide_ne fun z2 => ?_).trans z) (fun _ z => z) fun _ _ z => z
      rw [z2] at hb
      rcases hb with hb | hb
      · rw [← hb, hC'] at e; cases e
      · rw [hC'] at hb; cases hb
    · rw [hstk]
      refine funFrames_at k3 fun b hbl o hb hnf => ?_
      have z : b ≠ C := fun z => hCf (by rw [← z, hstk]; exact hbl)
      exact ⟨o, (other b (noR b o hb hnf)).trans ((sb.2 b z).trans hb), rfl⟩
    · exact ⟨oe, vs, T', _, _, (other a (Ne.symm hTe)).trans he5, hcl, hd', hv1, hnT, hTe, Heap.get?_update_self _ hT5 (Obj.isFreed_of_fields (Obj.data_mapFields hdT _)), Obj.data_mapFields hdT _, by simp [hsz3]⟩
    · obtain ⟨e1, e2⟩ := oh b o e
      exact (hide_ne e1).trans (keepB b o e2 n hb)
    · obtain ⟨e1, e2⟩ := oh b o e
      obtain ⟨o', z⟩ := thereB b o e2 hb
      exact ⟨o', (hide_ne e1).trans z⟩
    · show (PySem.W.hideAll sx.heap [C]).get? a = none
      rw [hide_ne aC]
      exact new
  have loop : codeAny (model X.prog X.w) X.A (.compLoop (.ListComp elt [⟨.Name x px, iter, [], 0⟩] scope pos) 0 (.ref it) (.ref s2.heap.objs.size) (compEnvC scope cl C X.env))
      (compPost (model X.prog X.w) X.A E' none (EP X pins σ Q) (.ref s2.heap.objs.size) C) { s2 with heap := h₁, toks := s2.toks + ([] : List (Str × Value)).length } := by
    refine codeAny_loop rfl (fun n s' => ∃ i ys Hk, Inv (compCx X N' scope cl C fp s2 H2) [] (none :: capt σ js) Hk s' ∧ tn i s'.heap ∧ (∀ b ∈ fp, Hk b = none) ∧ W i n ys Hk) ?_ m0 ⟨0, [], _, I3, tn0, fr0, w0⟩
    rintro n s4 ⟨i, ys, Hk, I4, st4, fr4, w4⟩
    show wpAny _ X.A ((compTurn (.ListComp elt [⟨.Name x px, iter, [], 0⟩] scope pos) 0 (.ref it) (.ref s2.heap.objs.size) (compEnvC scope cl C X.env)).onRaise (fun x => do noteFrame x (compEnvC scope cl C X.env); theTreesLotGoes x)) _ _ s4
    refine wpAny_noted ?_
    rw [compTurn_list1]
    refine wpAny_bind (wpAny_standAt (wpAny_bind ?_))
    rcases turn i n ys Hk w4 with ⟨stop, qn⟩ | ⟨go, hz, step⟩
    · refine wpAny_noRaise (thn (T.done (compCx X N' scope cl C fp s2 H2) rfl rfl rfl hc i [] s4 _ Hk _ I4 (stat fr4) st4 stop) fun r s5 ⟨hr, I5⟩ => ?_)
      subst hr
      exact wpAny_pure (fin I5 qn)
    · refine wpAny_noRaise (thn (T.item (compCx X N' scope cl C fp s2 H2) rfl rfl rfl hc i [] s4 _ Hk _ I4 (stat fr4) st4 go) fun r s5 ⟨u, hr, h5⟩ => ?_)
      subst hr
      refine wpAny_bind (wpAny_noRaise (thn h5 fun _ s6 ⟨x6, H6, I6, r6, y6, st6, fr6⟩ => ?_))
      have I6' := I6.pinned (stat fr6) (T.obj _ _ st6)
      refine wpAny_bind (wpAny_noRaise (thn (pg_name (X := compCx X N' scope cl C fp s2 H2) (i := 0) (x := x) G.nd G.x0 (.inl (lookup_relabel_local G.xl)) (.inr (lookup_relabel_local G.xl)) _ s6 _ H6 x6 u (fun σ2 H2' => σ2 = some x6 :: capt σ js ∧ H2' = H6) I6' r6 ⟨rfl, rfl⟩) fun _ s7 ⟨σ7, H7, I7, e7, e7'⟩ => ?_))
      subst e7 e7'
      refine wpAny_bind (wpAny_bind (wpAny_mono (he C fp s2 H2 _ s7 _ H7 _ EX I7 (step x6 H7 y6)) (fun w8 s8 ⟨y8, H8, I8, r8, q8⟩ => ?_) fun e s' z => out z))
      obtain ⟨q8, m', hm', w8'⟩ := q8
      refine wpAny_bind (wpAny_noRaise (thn (mt_append (X := compCx X N' scope cl C fp s2 H2) _ s8 _ H8 (.ref s2.heap.objs.size) [y8] (.ref s2.heap.objs.size) [w8] (fun v H' => H' = upd H8 s2.heap.objs.size (.lst (ys ++ [y8]))) I8 rfl (.cons r8 .nil) ⟨_, ys, y8, rfl, rfl, q8, hz, rfl⟩) fun _ s9 ⟨v9, H9, I9, r9, e9⟩ => ?_))
      subst e9
      refine wpAny_pure (wpAny_pure ⟨rfl, m', hm', i + 1, ys ++ [y8], _, I9.unpinned.weak rfl (fun k v e => ?_), T.keep _ _ _ st6 fun b hb o e => (I9.pin (b, o) (List.mem_append_right _ (List.mem_append_right _ (mem_pinsAt hb e)))).1, fun b hb => ?_, w8'⟩)
      · cases k with
        | zero => cases e
        | succ k => exact e
      · obtain ⟨o, e, d⟩ := T.obj _ _ st6 b hb
        exact (I9.pin (b, o) (List.mem_append_right _ (List.mem_append_right _ (mem_pinsAt hb e)))).2.1
  exact codeAny_compStart_list loop (T.self _ 0 _ _ _ tn0 loop)
end
end L2
namespace L2
open PySem PySem.Spec PyProof.Rows
section
variable {M : Model} {A : Around} {E : Value → Shared → Prop} {s : Shared}
/-- out of a frame, whatever the last traceback entry says -/
theorem leaves_any {B : Heap} {env : Env} {outer : List Env} {L a : Addr} {C a0 fl : Value} {Q : Unit → Shared → Prop} (hfr : A.frames = some (env :: outer)) (hf : env.frame = some L)
    (hh : B.StaysIn s.heap ∧ B.get? a = none ∧ s.heap.FunFrames B (env :: outer) ∧ s.heap.TracedAtW B a C a0 fl) (hQ : ∀ h', Heap.FlyingW B outer a C a0 h' → s.heap.UpToSlots h' → Q () { s with heap := h' }) : wpAny M A (leaving env (.ref a)) Q E s := by
  obtain ⟨f1, f2, f3, f4⟩ := hh
  by_cases hfl : fl = rawInt L
  · subst hfl
    unfold leaving
    refine wpAny_bind (wpAny_noteFrame_againW hf f4 (wpAny_landsW (L := L) ⟨f1, f2, f3, f4⟩ fun h' fly up => ?_))
    obtain ⟨k1, k2, ⟨_, _, k3⟩, k4⟩ := fly
    exact hQ h' ⟨k1, k2, k3, k4⟩ up
  · obtain ⟨oe, vs, T, oT, ts, he, ⟨hcl, h0⟩, hd, h1, hnT, hTe, hT, hdT, h3⟩ := f4
    subst hcl
    have sz3 : 3 < ts.size := (Array.getElem?_eq_some_iff.mp h3).1
    have oth : ∀ b, b ≠ T → (s.heap.update T (Obj.mapFields (·.setIfInBounds 3 Value.none))).get? b = s.heap.get? b := fun b hb => Heap.get?_update_other _ _ (Ne.symm hb)
    have nr : ∀ b o, s.heap.get? b = some o → (∀ ws, o.data ≠ .fields ws) → b ≠ T := fun b o hb nf z => by
      rw [z, hT] at hb; cases hb; exact nf ts hdT
    unfold leaving noteFrame
    simp only [hf]
    refine wpAny_bind (wpAny_bind (wpAny_field he hd h1 ?_))
    rw [if_pos (show (Value.ref T != Value.none) = true by simp)]
    refine wpAny_bind (wpAny_field hT hdT h3 ?_)
    rw [if_neg (show ¬ ((fl == rawInt L) = true) by simpa using hfl)]
    refine wpAny_bind (wpAny_setField hT hdT sz3 ?_)
    refine wpAny_newEntryW hfr (f3.of_keeps fun b o hb nf => ⟨o, (oth b (nr b o hb nf)).trans hb, rfl⟩) hf ((oth a (Ne.symm hTe)).trans he) (fun b o e => (oth b fun z => by rw [z, hnT] at e; cases e).trans (f1 b o e)) f2 hd (Array.getElem?_eq_some_iff.mp h1).1 h0 fun h' hL => ?_
    obtain ⟨x1, ⟨_, _, x2⟩, x3, x4⟩ := hL
    exact hQ h' ⟨x1, f2, x2, x3⟩ fun b o hb nf => x4 b o ((oth b (nr b o hb nf)).trans hb) nf
end
section
variable {P : Program} {w : World} {K : PySem.W.Frag} {mg : Str → Option Value} {base : Heap} {N : List Str} {qual : Str} {scope : Scope} {f : Addr} {cd : Value} {A : Around} {outer : List Env} {s₀ : Shared} {H₀ : Hp} {E : XK}
/-- out of the frame: an error that lay in its hands -/
theorem held_leaves {pins : List (Addr × Obj)} {σ : St} {e : Value} {s' : Shared} (h : XH (cxOf (CXE P w) P w K mg base N qual scope f cd A outer s₀ H₀ E) pins σ E e s') : (cxOf (CXE P w) P w K mg base N qual scope f cd A outer s₀ H₀ E).xe e s' := by
  obtain ⟨H, s, I, a, t, C, H', B, fl, rfl, os, bare, un, hokB, hold, keepB, thereB, new, q⟩ := h
  show wpAny _ _ (leaving _ (.ref a)) _ _ s'
  have u0 : Un (frs outer) [] H₀ H s₀.heap s.heap := I.base
  have neL : ∀ b o, s₀.heap.get? b = some o → b ∉ frs outer → b ∉ frs (envOfC qual scope s₀.heap.objs.size f cd :: outer) := fun b o e hb z => by
    rcases List.mem_cons.mp (show b ∈ s₀.heap.objs.size :: frs outer from z) with z | z
    · rw [z] at e; exact absurd (Heap.lt_size e) (Nat.lt_irrefl _)
    · exact hb z
  have nx : ∀ b : Addr, b ∉ ([] : List Addr) := fun b => by simp
  refine leaves_any I.ok.frames rfl hold fun h' fly' up => ?_
  have slot : ∀ b o, s₀.heap.get? b = some o → H₀ b = none → b ∈ frs outer → ∃ sl, h'.get? b = some { o with slots := sl } := fun b o e n hb => by
    obtain ⟨sl, e1⟩ := u0.slot b o e n hb (nx b)
    obtain ⟨sl2, e2⟩ := un.any e1 (u0.free b o e n (nx b)) (nx b)
    obtain ⟨_, o', e3, nf⟩ := I.ok.funs.mem (show b ∈ outer.filterMap (·.frame) from hb)
    have e4 : s₀.heap.get? b = some o' := e3
    rw [e] at e4; cases e4
    obtain ⟨sl3, e5⟩ := up b _ e2 nf
    exact ⟨sl3, e5⟩
  refine ⟨a, t, C, H', B, rfl, os.trans I.os, bare, ⟨fun b o e n hb hx => ?_, fun b o e n hb hx => slot b o e n hb, fun b o e n hx => ?_, fun b o e hx => ?_, fun b xs e => un.tups b xs (u0.tups b xs e), fun b o xs e => un.frzs b o xs (u0.frzs b o xs e), fun b ps e => ?_⟩, hokB, fly', fun b o e n hb => ?_, fun b o e hb => ?_, ?_, q⟩
  · exact fly'.1 b o (keepB b o (u0.keep b o e n hb hx) (u0.free b o e n hx) (neL b o e hb))
  · obtain ⟨o', e1⟩ := u0.there b o e hx
    exact un.free b o' e1 (u0.free b o e n hx) hx
  · by_cases hb : b ∈ frs outer
    · obtain ⟨sl, z⟩ := slot b o e (I.ok.frf b hb) hb
      exact ⟨_, z⟩
    · obtain ⟨o', e1⟩ := u0.there b o e hx
      obtain ⟨o2, e2⟩ := thereB b o' e1 (neL b o e hb)
      exact ⟨o2, fly'.1 b o2 e2⟩
  · obtain ⟨m1, e1⟩ := u0.tbls b ps e
    obtain ⟨m2, e2⟩ := un.tbls b _ e1
    exact ⟨m1 ++ m2, by rw [e2, Array.append_assoc]⟩
  · exact keepB b o (u0.keep b o e n hb (nx b)) (u0.free b o e n (nx b)) (neL b o e hb)
  · obtain ⟨o', e1⟩ := u0.there b o e (nx b)
    exact thereB b o' e1 (neL b o e hb)
  · cases z : s₀.heap.get? a with
    | none => rfl
    | some o =>
      obtain ⟨o', e1⟩ := u0.there a o z (nx a)
      rw [new] at e1; cases e1
end
abbrev TSH := Ends → XK → St → Hp → Prop
def PSHs (X : Cx) (sts : List Stmt) (t : TSH) : Prop :=
  ∀ (pins : List (Addr × Obj)) (s : Shared) (σ : St) (H : Hp) (D : Ends) (E : XK), Inv X pins σ H s → t D E σ H → wpAny (model X.prog X.w) X.A (execs sts X.env) (SP X pins D) (fun e s' => ∃ σ, XH X pins σ E e s') s
section
variable {X : Cx} {st : Stmt} {rest : List Stmt} {t : TS} {u : TSH} {pos : Pos}
theorem psh_cons (h1 : PS X.nox st t) (h2 : PSHs X rest u) : PSHs X (st :: rest) (fun D E σ H => t { D with nx := fun σ' H' => u D E σ' H' } σ H) := by
  intro pins s σ H D E I h
  refine wpAny_execs_cons (wpAny_mono (h1 pins s σ H { D with nx := fun σ' H' => u D E σ' H' } (I.wish _) h) (fun f s1 q => ?_) fun _ _ z => z.elim)
  have q := SP.unwish q
  cases f with
  | next =>
    obtain ⟨σ', H', I', q⟩ := q
    exact h2 pins s1 σ' H' D E I' q
  | ret v => exact q
  | brk => exact q
  | cont => exact q
/-- return [..], an element may be refused -/
theorem psh_comp {wi : TI} {telt : TEX} {N' : List Str} {js : List Nat} {cl : List (Str × Addr)} {elt iter : Expr} {x : Str} {px : Pos} {scope : Scope} {cpos : Pos} (hstk : X.stack = X.env :: X.outer) (hfr : X.env.frame = some X.env.locals) (hc : X.calm = true)
    (hi : PI X.nox (.Name x px) iter wi) (G : CompOk X N' js x scope cl) (he : ∀ C fp s2 H2, PEX (compCx X N' scope cl C fp s2 H2) elt telt) (hs : ∀ x, foldedSetIterable iter X.env x = pure x := by intro _; rfl) :
    PSHs X [.Return (some (.ListComp elt [⟨.Name x px, iter, [], 0⟩] scope cpos)) pos] (fun D E σ H => tLCX (xIn wi) js telt E σ H D.rt E0) := by
  intro pins s σ H D E I h
  refine wpAny_execs_cons (wpAny_Return_some (wpAny_mono (comp_gen (EI := E0) (EX := E) (E' := fun e s' => ∃ σ, XH X pins σ E e s') hstk hfr hc (PI.x hi) G he I h (fun e s' z => ?_) (fun e s' z => ⟨σ, z⟩) hs) (fun v s1 ⟨y, H1, I1, r1, q1⟩ => ⟨y, σ, H1, I1, r1, q1⟩) fun _ _ z => z))
  obtain ⟨_, _, _, _, _, _, _, _, _, _, _, _, _, _, _, _, _, q⟩ := z
  exact q.elim
/-- a comprehension over a list that may be refused -/
theorem pex_comp {wi : TIX} {telt : TE} {N' : List Str} {js : List Nat} {cl : List (Str × Addr)} {elt iter : Expr} {x : Str} {px : Pos} {scope : Scope} {cpos : Pos} (hstk : X.stack = X.env :: X.outer) (hfr : X.env.frame = some X.env.locals) (hc : X.calm = true)
    (hi : PIX X (.Name x px) iter wi) (G : CompOk X N' js x scope cl) (he : ∀ C fp s2 H2, PE (compCx X N' scope cl C fp s2 H2) elt telt) (hs : ∀ x, foldedSetIterable iter X.env x = pure x := by intro _; rfl) :
    PEX X (.ListComp elt [⟨.Name x px, iter, [], 0⟩] scope cpos) (tLCX wi js (fun σ H Q _ => telt σ H Q) E0) := by
  intro pins s σ H Q E I h
  refine comp_gen (EI := E) (EX := E0) hstk hfr hc hi G (fun C fp s2 H2 => PE.x (he C fp s2 H2)) I h (fun e s' z => z) (fun e s' z => ?_) hs
  obtain ⟨_, _, _, _, _, _, _, _, _, _, _, _, _, _, _, _, _, _, q⟩ := z
  exact q.elim
/-- f(..), f a built-in; an argument may be refused -/
theorem pex_callB {id : String} {r : List V → Hp → VK → Prop} {x : Str} {p : Pos} {e : Expr} {es : List Expr} {ta : TAX} (hc : CallR X.nox (.builtin id) r) (hg : Gl X x) (hm : X.mg x = none) (hv : bootBuiltins x = some (.builtin id)) (ha : PAX X (e :: es) ta) (hn : x ≠ "__name__" := by decide)
    (hdb : (x == ("__debug__" : Str)) = false := by decide) (he : starEach (e :: es) X.env = (false, eval e X.env) :: starEach es X.env := by rfl) (hpl : (backTo pos (starEach es X.env)).any (·.1) = false := by rfl) :
    PEX X (.Call (.Name x p) (e :: es) [] pos) (fun σ H Q E => ta σ H (fun vs H1 => r vs H1 Q) E) := by
  intro pins s σ H Q E I h
  refine wpAny_Call_Name_kw (ld_blt I hg hm hv ?_ hn hdb)
  exact PyProof.Rows.callWith_builtin1 (thn (ha pos pins s σ H _ E I h) fun us s1 ⟨vs, H1, I1, r1, q1⟩ => wpAny_mono (hc pins s1 σ H1 vs us Q (I1.wish _) r1 q1) (fun u s2 ⟨v, H2, I2, rv, q2⟩ => ⟨v, H2, I2.unwish, rv, q2⟩) fun _ _ z => z.elim) he hpl
end
section
variable {P : Program} {w : World} {K : PySem.W.Frag} {mg : Str → Option Value} {base : Heap}
theorem Fun.okH {x qual : Str} {st : Stmt} {f : Addr} {fd : FuncData} {N ps : List Str} {k : Nat} {sp : Sp} (F : Fun K x qual st f fd) (S : FnScope N ps (defScope st)) (len : ∀ vs H Q E, sp vs H Q E → vs.length = ps.length)
    (hbody : ∀ (cdv : Value) (A : Around) (outer : List Env) (s : Shared) (H : Hp) (vs : List V) (Q : VK) (E : XK), Room k (A.deeper (envOfC qual (defScope st) s.heap.objs.size f cdv)) → sp vs H Q E →
      ∃ t, PSHs (cxOf (CXE P w) P w K mg base N qual (defScope st) f cdv A outer s H E) (defBody st) t ∧ t { nx := fun _ H' => Q .non H', rt := Q } E (start N vs) H) : FnOk P w K mg base (CXE P w) (k + 1) f fd ps sp := by
  obtain ⟨oc, od, kV, doc, pm, an, cdv, ct, osl, rfl, lk, hcd⟩ := F.ex
  refine fn_of lk hcd S len fun A outer s H vs Q E hr hsp => ?_
  obtain ⟨t, h, q⟩ := hbody cdv A outer s H vs Q E hr hsp
  refine ⟨fun D σ H' => t D E σ H', fun pins s1 σ H1 D I hw => ?_, q⟩
  exact wpAny_mono (h pins s1 σ H1 D E I hw) (fun _ _ z => z) fun e s' ⟨σ2, z⟩ => held_leaves z
end
end L2
/-! An error raised while another is handled: raise C(..) from None within except. -/
namespace L2
open PySem PySem.Spec PyProof.Rows
/-- the context of the error at a -/
def CtxV (x : Value) (a : Addr) (h : Heap) : Prop := ∃ (o : Obj) (vs : Array Value), h.get? a = some o ∧ o.data = .fields vs ∧ vs[2]? = some x
abbrev Ctx0 : Addr → Heap → Prop := CtxV .none
/-- an error with a traceback, over a base -/
def TrW (B : Heap) (l : List Env) (a : Addr) (C a0 fl : Value) (h : Heap) : Prop := B.StaysIn h ∧ B.get? a = none ∧ h.FunFrames B l ∧ h.TracedAtW B a C a0 fl
section
variable {M : Model} {A : Around} {E : Value → Shared → Prop} {s : Shared} {B : Heap} {env : Env} {outer : List Env} {L a : Addr} {ob : Obj} {vs : Array Value} {head C a0 fl cv : Value} {Q : Unit → Shared → Prop}
theorem entry_ctx {hn : Bool} (hfr : A.frames = some (env :: outer)) (hl : s.heap.FunFrames B (env :: outer)) (hf : env.frame = some L) (ho : s.heap.get? a = some ob) (st : B.StaysIn s.heap) (na : B.get? a = none) (hd : ob.data = .fields vs) (sz : 1 < vs.size) (h0 : vs[0]? = some a0) (h2 : vs[2]? = some cv)
    (k : ∀ h', TrW B (env :: outer) a ob.cls a0 (rawInt L) h' → CtxV cv a h' → s.heap.UpToSlots h' → Q () { s with heap := h' }) :
    wpAny M A (do let x ← frameOf env; let pl ← entryPlaceOf L hn; let b ← EntryCells.newEntry head x .none (rawInt L) .none pl; setField (.ref a) 1 b) Q E s := by
  have nfr : a ∉ (env :: outer).filterMap (·.frame) := fun z => by
    obtain ⟨_, o, e, nf⟩ := hl.mem z
    rw [ho] at e; cases e; exact nf vs hd
  refine wpAny_bind (wpAny_frameOf_fun hfr hl hf fun g1 k1 => wpAny_bind (wpAny_entryPlaceOf fun pl hpl => ?_))
  unfold EntryCells.newEntry newFields
  refine wpAny_bind (wpAny_newObj_type ?_ (hpl.sizeOk5 _ _ _ _ _))
  generalize hob : (⟨.type "traceback", none, .fields ([head, .ref L, .none, rawInt L, .none] ++ (if pl.isEmpty then List.replicate 6 Value.none else pl)).toArray, #[]⟩ : Obj) = tb
  have tbd : tb.data = .fields ([head, .ref L, .none, rawInt L, .none] ++ (if pl.isEmpty then List.replicate 6 Value.none else pl)).toArray := by rw [← hob]
  have tbl : tb.isFreed = false := by rw [← hob]; rfl
  have e1 : g1.get? a = some ob := (k1.2.1 a nfr).trans ho
  have st1 : B.StaysIn g1 := fun b o e => (k1.2.1 b fun z => by rw [(hl.mem z).1] at e; cases e).trans (st b o e)
  have e2 := Heap.get?_push_of_some (h := g1) tb e1
  refine wpAny_setField e2 hd sz ?_
  have neT : g1.objs.size ≠ a := Nat.ne_of_gt (Heap.lt_size e1)
  have d3 := Obj.data_mapFields hd (·.setIfInBounds 1 (Value.ref g1.objs.size))
  have e3 := Heap.get?_update_self (Obj.mapFields (·.setIfInBounds 1 (Value.ref g1.objs.size))) e2 (Obj.isFreed_of_fields d3)
  have t3 := (Heap.get?_update_other (g1.push tb) (Obj.mapFields (·.setIfInBounds 1 (Value.ref g1.objs.size))) (Ne.symm neT)).trans (Heap.get?_push_size g1 tbl)
  have keep : ∀ b o, b ≠ a → g1.get? b = some o → ((g1.push tb).update a (Obj.mapFields (·.setIfInBounds 1 (Value.ref g1.objs.size)))).get? b = some o := fun b o nb e => (Heap.get?_update_other _ _ (Ne.symm nb)).trans (Heap.get?_push_of_some _ e)
  have nr : ∀ b o, s.heap.get? b = some o → (∀ ws, o.data ≠ .fields ws) → b ≠ a := fun b o e nf z => by rw [z, ho] at e; cases e; exact nf vs hd
  refine k _ ⟨fun b o e => keep b o (fun z => by rw [z, na] at e; cases e) (st1 b o e), na, hl.of_keeps fun b o e nf => ?_, ⟨_, _, g1.objs.size, _, _, e3, ⟨Obj.cls_mapFields _ _, by rw [Array.getElem?_setIfInBounds_ne (by decide)]; exact h0⟩, d3, by simp [sz], st1.fresh, neT, t3, tbd, ?_⟩⟩ ⟨_, _, e3, d3, by rw [Array.getElem?_setIfInBounds_ne (by decide)]; exact h2⟩ fun b o e nf => ?_
  · obtain ⟨sl, z⟩ := k1.2.2 b o e
    exact ⟨_, keep b _ (nr b o e nf) z, rfl⟩
  · rcases hpl with rfl | ⟨_, _, _, _, _, _, _, rfl⟩ <;> simp
  · obtain ⟨sl, z⟩ := k1.2.2 b o e
    exact ⟨sl, keep b _ (nr b o e nf) z⟩
theorem note_first (hfr : A.frames = some (env :: outer)) (hl : s.heap.FunFrames B (env :: outer)) (hf : env.frame = some L) (ho : s.heap.get? a = some ob) (st : B.StaysIn s.heap) (na : B.get? a = none) (hd : ob.data = .fields vs) (h1 : vs[1]? = some .none) (h0 : vs[0]? = some a0) (h2 : vs[2]? = some cv)
    (k : ∀ h', TrW B (env :: outer) a ob.cls a0 (rawInt L) h' → CtxV cv a h' → s.heap.UpToSlots h' → Q () { s with heap := h' }) : wpAny M A (noteFrame (.ref a) env) Q E s := by
  unfold noteFrame
  simp only [hf]
  refine wpAny_bind (wpAny_field ho hd h1 ?_)
  rw [if_neg (by decide)]
  exact entry_ctx hfr hl hf ho st na hd (Array.getElem?_eq_some_iff.mp h1).1 h0 h2 k
theorem note_next (hfr : A.frames = some (env :: outer)) (hf : env.frame = some L) (hh : TrW B (env :: outer) a C a0 fl s.heap) (c : CtxV cv a s.heap) (hfl : fl ≠ rawInt L) (k : ∀ h', TrW B (env :: outer) a C a0 (rawInt L) h' → CtxV cv a h' → s.heap.UpToSlots h' → Q () { s with heap := h' }) : wpAny M A (noteFrame (.ref a) env) Q E s := by
  obtain ⟨f1, f2, f3, oe, ws, T, oT, ts, he, ⟨hcl, h0⟩, hd, h1, hnT, hTe, hT, hdT, h3⟩ := hh
  subst hcl
  obtain ⟨o', ws', e', d', c2⟩ := c
  rw [he] at e'; cases e'
  rw [hd] at d'; cases d'
  have sz3 : 3 < ts.size := (Array.getElem?_eq_some_iff.mp h3).1
  have oth : ∀ b, b ≠ T → (s.heap.update T (Obj.mapFields (·.setIfInBounds 3 Value.none))).get? b = s.heap.get? b := fun b hb => Heap.get?_update_other _ _ (Ne.symm hb)
  have nr : ∀ b o, s.heap.get? b = some o → (∀ ws, o.data ≠ .fields ws) → b ≠ T := fun b o hb nf z => by
    rw [z, hT] at hb; cases hb; exact nf ts hdT
  unfold noteFrame
  simp only [hf]
  refine wpAny_bind (wpAny_field he hd h1 ?_)
  rw [if_pos (show (Value.ref T != Value.none) = true by simp)]
  refine wpAny_bind (wpAny_field hT hdT h3 ?_)
  rw [if_neg (show ¬ ((fl == rawInt L) = true) by simpa using hfl)]
  refine wpAny_bind (wpAny_setField hT hdT sz3 (entry_ctx hfr (f3.of_keeps fun b o hb nf => ⟨o, (oth b (nr b o hb nf)).trans hb, rfl⟩) hf ((oth a (Ne.symm hTe)).trans he) (fun b o e => (oth b fun z => by rw [z, hnT] at e; cases e).trans (f1 b o e)) f2 hd (Array.getElem?_eq_some_iff.mp h1).1 h0 c2 fun h' t c' up => k h' t c' fun b o hb nf => up b o ((oth b (nr b o hb nf)).trans hb) nf))
theorem land_ctx {fr : Option Addr} {l : List Env} (hh : TrW B l a C a0 fl s.heap) (c : CtxV cv a s.heap) (k : ∀ h', TrW B l a C a0 (fr.elim Value.none fun f => rawInt f) h' → CtxV cv a h' → s.heap.UpToSlots h' → Q () { s with heap := h' }) : wpAny M A (setFlight (.ref a) fr) Q E s := by
  obtain ⟨f1, f2, f3, oe, ws, T, oT, ts, he, hcl, hd, h1, hnT, hTe, hT, hdT, h3⟩ := hh
  have sz3 : 3 < ts.size := (Array.getElem?_eq_some_iff.mp h3).1
  have oth : ∀ (g : Obj → Obj) b, b ≠ T → (s.heap.update T g).get? b = s.heap.get? b := fun g b hb => Heap.get?_update_other _ _ (Ne.symm hb)
  have nr : ∀ b o, s.heap.get? b = some o → (∀ ws, o.data ≠ .fields ws) → b ≠ T := fun b o hb nf z => by
    rw [z, hT] at hb; cases hb; exact nf ts hdT
  obtain ⟨o', ws', e', d', c2⟩ := c
  unfold setFlight
  refine wpAny_bind (wpAny_field he hd h1 ?_)
  rw [if_pos (show (Value.ref T != Value.none) = true by simp)]
  refine wpAny_setField hT hdT sz3 (k _ ⟨fun b o e => (oth _ b fun z => by rw [z, hnT] at e; cases e).trans (f1 b o e), f2, f3.of_keeps fun b o hb nf => ⟨o, (oth _ b (nr b o hb nf)).trans hb, rfl⟩, ⟨oe, ws, T, _, _, (oth _ a (Ne.symm hTe)).trans he, hcl, hd, h1, hnT, hTe, Heap.get?_update_self _ hT (Obj.isFreed_of_fields (Obj.data_mapFields hdT _)), Obj.data_mapFields hdT _, by simp [sz3]⟩⟩
    ⟨o', ws', (oth _ a (Ne.symm hTe)).trans e', d', c2⟩ fun b o hb nf => ⟨o.slots, (oth _ b (nr b o hb nf)).trans hb⟩)
/-- out of the frame that made it -/
theorem leave_made {h : Heap} {args : List Value} (hfr : A.frames = some (env :: outer)) (hf : env.frame = some L) (st : B.StaysIn h) (hl : h.FunFrames B (env :: outer)) (hx : Heap.MadeExcOf h s.heap a C args)
    (k : ∀ h' t, Heap.FlyingW B outer a C (.ref t) h' → Ctx0 a h' → s.heap.UpToSlots h' → Q () { s with heap := h' }) : wpAny M A (leaving env (.ref a)) Q E s := by
  obtain ⟨t, he, htn, ht⟩ := hx.there
  have fresh : ∀ b, h.get? b = none → B.get? b = none := fun b hb => by
    cases q : B.get? b with
    | none => rfl
    | some o => have := st b o q; rw [hb] at this; cases this
  unfold leaving
  refine wpAny_bind (note_first (a0 := .ref t) hfr (hl.of_keeps fun b o hb _ => ⟨o, hx.keeps b o hb, rfl⟩) hf he (fun b o hb => hx.keeps b o (st b o hb)) (fresh a hx.new) rfl rfl rfl rfl fun h4 t4 c4 up4 => ?_)
  refine land_ctx (s := { s with heap := h4 }) (fr := none) t4 c4 fun h5 t5 c5 up5 => ?_
  obtain ⟨g1, g2, ⟨_, _, g3⟩, g4⟩ := t5
  exact k h5 t ⟨g1, g2, g3, g4⟩ c5 (up4.trans up5)
end
def CXC (P : Program) (w : World) : CXT := fun outer H s E e s' => CXE P w outer H s E e s' ∧ ∃ a, e = .ref a ∧ Ctx0 a s'.heap
section
variable {P : Program} {w : World} {K : PySem.W.Frag} {mg : Str → Option Value} {base : Heap} {N : List Str} {qual : Str} {scope : Scope} {f : Addr} {cd : Value} {A : Around} {outer : List Env} {s₀ : Shared} {H₀ : Hp} {E : XK}
theorem raise_leavesC {pins : List (Addr × Obj)} {σ : St} {H : Hp} {s : Shared} {h' : Heap} {e : Addr} {C : Value} {vs : List Value} (I : Inv (cxOf (CXC P w) P w K mg base N qual scope f cd A outer s₀ H₀ E) pins σ H s)
    (hx : Heap.MadeExcOf s.heap h' e C vs) (q : E C none H) : (cxOf (CXC P w) P w K mg base N qual scope f cd A outer s₀ H₀ E).xe (.ref e) { s with heap := h' } := by
  show wpAny _ _ (leaving _ (.ref e)) _ _ { s with heap := h' }
  have u0 : Un (frs outer) [] H₀ H s₀.heap s.heap := I.base
  have neL : ∀ b o, s₀.heap.get? b = some o → b ∉ frs outer → b ∉ frs (envOfC qual scope s₀.heap.objs.size f cd :: outer) := fun b o e hb z => by
    rcases List.mem_cons.mp (show b ∈ s₀.heap.objs.size :: frs outer from z) with z | z
    · rw [z] at e; exact absurd (Heap.lt_size e) (Nat.lt_irrefl _)
    · exact hb z
  have nx : ∀ b : Addr, b ∉ ([] : List Addr) := fun b => by simp
  have frF : ∀ b ∈ frs (envOfC qual scope s₀.heap.objs.size f cd :: outer), H b = none := I.stkFree
  refine leave_made (B := PySem.W.hideAll s.heap (frs (envOfC qual scope s₀.heap.objs.size f cd :: outer))) I.ok.frames rfl (fun b o z => PySem.W.of_hideAll _ z)
    (PySem.W.funFrames_hide I.stack fun env he a ha => List.mem_filterMap.mpr ⟨env, he, ha⟩) hx fun h'' t fly ctx up => ?_
  have slot : ∀ b o, s₀.heap.get? b = some o → H₀ b = none → b ∈ frs outer → ∃ sl, h''.get? b = some { o with slots := sl } := fun b o z n hb => by
    obtain ⟨sl, e1⟩ := u0.slot b o z n hb (nx b)
    obtain ⟨_, o', e3, nf⟩ := I.ok.funs.mem (show b ∈ outer.filterMap (·.frame) from hb)
    have e4 : s₀.heap.get? b = some o' := e3
    rw [z] at e4; cases e4
    obtain ⟨sl3, e5⟩ := up b _ (hx.keeps b _ e1) nf
    exact ⟨sl3, e5⟩
  refine ⟨⟨e, t, C, H, _, rfl, I.os, I.bare, ⟨fun b o z n hb hx' => ?_, fun b o z n hb hx' => slot b o z n hb, fun b o z n hx' => u0.free b o z n hx', fun b o z hx' => ?_, u0.tups, u0.frzs, u0.tbls⟩, fun a o z => ?_, fly, fun b o z n hb => ?_, fun b o z hb => ?_, ?_, q⟩, e, rfl, ctx⟩
  · exact fly.1 b o (PySem.W.hideAll_get _ (u0.keep b o z n hb hx') (neL b o z hb))
  · by_cases hb : b ∈ frs outer
    · obtain ⟨sl, z2⟩ := slot b o z (I.ok.frf b hb) hb
      exact ⟨_, z2⟩
    · obtain ⟨o', e1⟩ := u0.there b o z hx'
      exact ⟨o', fly.1 b o' (PySem.W.hideAll_get _ e1 (neL b o z hb))⟩
  · refine (I.hok a o z).stay (fun b u hb z2 => PySem.W.hideAll_get _ z2 fun z3 => ?_) (fun _ z2 => z2) fun _ _ z2 => z2
    have z4 := frF b z3
    rcases hb with hb | hb
    · rw [← hb, z4] at z; cases z
    · rw [z4] at hb; cases hb
  · exact PySem.W.hideAll_get _ (u0.keep b o z n hb (nx b)) (neL b o z hb)
  · obtain ⟨o', e1⟩ := u0.there b o z (nx b)
    exact ⟨o', PySem.W.hideAll_get _ e1 (neL b o z hb)⟩
  · cases z : s₀.heap.get? e with
    | none => rfl
    | some o =>
      obtain ⟨o', e1⟩ := u0.there e o z (nx e)
      rw [hx.new] at e1; cases e1
end
section
variable {P : Program} {w : World} {K : PySem.W.Frag} {mg : Str → Option Value} {base : Heap}
/-- a def that raises by itself alone: its errors have no context -/
theorem Fun.okC {x qual : Str} {st : Stmt} {f : Addr} {fd : FuncData} {N ps : List Str} {k : Nat} {sp : Sp} (F : Fun K x qual st f fd) (S : FnScope N ps (defScope st)) (len : ∀ vs H Q E, sp vs H Q E → vs.length = ps.length)
    (hbody : ∀ (cdv : Value) (A : Around) (outer : List Env) (s : Shared) (H : Hp) (vs : List V) (Q : VK) (E : XK), Room k (A.deeper (envOfC qual (defScope st) s.heap.objs.size f cdv)) → sp vs H Q E →
      ∃ t, PSXs (cxOf (CXC P w) P w K mg base N qual (defScope st) f cdv A outer s H E) (defBody st) t ∧ t { nx := fun _ H' => Q .non H', rt := Q } (fun _ => E0) (fun _ => E) (start N vs) H) : FnOk P w K mg base (CXC P w) (k + 1) f fd ps sp := by
  obtain ⟨oc, od, kV, doc, pm, an, cdv, ct, osl, rfl, lk, hcd⟩ := F.ex
  refine fn_of lk hcd S len fun A outer s H vs Q E hr hsp => ?_
  obtain ⟨t, h, q⟩ := hbody cdv A outer s H vs Q E hr hsp
  refine ⟨fun D σ H' => t D (fun _ => E0) (fun _ => E) σ H', fun pins s1 σ H1 D I hw => ?_, q⟩
  refine wpAny_mono (h pins s1 σ H1 D _ _ I hw) (fun _ _ z => z) fun e s' ⟨σ2, H2, s2, I2, hx⟩ => ?_
  rcases hx with hx | ⟨a, C, vs', h', rfl, rfl, hm, q'⟩
  · obtain ⟨_, _, _, _, _, _, _, _, _, _, _, _, _, _, q⟩ := hx
    exact q.elim
  · exact raise_leavesC I2 hm q'
end
end L2
namespace L2
open PySem PySem.Spec PyProof.Rows
theorem entry_unchain : entryFor table "proto.unchain" = some Builtin.«proto.unchain» := entryFor_of_tree (by kernel_rfl)
section
variable {prog : Program} {w : World} {A : Around} {R : Result → Shared → Prop} {E : Value → Shared → Prop} {s : Shared} {env : Env} {e a : Addr}
theorem unchain_none (c : Ctx0 a s.heap) (h : R (.ok (.ret .none)) s) : codeAny (model prog w) A (.builtin "proto.unchain" ⟨[.ref e, .ref a, .ref a, .bool false], []⟩) R s := by
  obtain ⟨o, vs, ho, hd, h2⟩ := c
  refine codeAny_builtin entry_unchain ?_
  unfold Builtin.«proto.unchain»
  dsimp only
  refine wpAny_bind (wpAny_field ho hd h2 ?_)
  rw [if_pos (by rfl)]
  refine wpAny_bind (wpAny_pure ?_)
  exact wpAny_pure h
theorem raiseNew_held {α : Type} {Q : α → Shared → Prop} {o : Obj} {vs : Array Value} (hh : A.handled = some (.ref a)) (ne : e ≠ a) (c : Ctx0 a s.heap) (ho : s.heap.get? e = some o) (hd : o.data = .fields vs) (hz : 2 < vs.size)
    (h : E (.ref e) { s with heap := s.heap.update e (Obj.mapFields (·.setIfInBounds 2 (.ref a))) }) : wpAny (model prog w) A (raiseNew (.ref e) : Sem α) Q E s := by
  unfold raiseNew
  refine wpAny_bind (wpAny_handled ?_)
  rw [hh]
  dsimp only
  rw [if_pos (show (Value.ref a != Value.ref e) = true by simpa using fun z => ne z.symm)]
  refine wpAny_bind (wpAny_holding (wpAny_runValue (unchain_none c ?_)))
  dsimp only
  refine wpAny_bind ?_
  have z : wpAny (model prog w) A (setField (.ref e) 2 (.ref a)) (fun _ s' => wpAny (model prog w) A (throw (Value.ref e) : Sem α) Q E s') E s := wpAny_setField ho hd hz (wpAny_throw h)
  exact z
end
section
variable {prog : Program} {w : World} {A : Around} {E : Value → Shared → Prop} {s : Shared} {env : Env} {a : Addr}
variable {nm q : Str} {C N : Addr} {bs bm bmB : List Value} {hdct : Bool} {sn : List Str} {sub : List Value} {ab : Bool} {col : Option Bool} {dd : Option Addr} {k0 k1 k2 k3 k5 : Option Value} {newId : String}
theorem raiseStmt_from {x c : Sem Value} {Q : Flow → Shared → Prop} (hbase : bm.contains (.type "BaseException") = true) (hh : A.handled = some (.ref a)) (hcn : ∀ s E Q, Q Value.none s → wpAny (model prog w) A c Q E s)
    (h : wpAny (model prog w) A x (fun v s1 => ∃ e t, v = .ref e ∧ e ≠ a ∧ s1.heap.get? C = some (excClassObj nm q C N bs bm hdct sn sub ab col dd k0 k1 k2 k3 k5 newId) ∧ s1.heap.get? e = some { cls := .ref C, data := .fields #[.ref t, .none, .none, .none, .bool false, .none] } ∧ Ctx0 a s1.heap ∧
      ∀ h', Heap.SameBut e s1.heap h' → h'.get? e = some { cls := .ref C, data := .fields #[.ref t, .none, .ref a, .none, .bool true, .none] } → E (.ref e) { s1 with heap := h' }) E s) :
    wpAny (model prog w) A (raiseStmt env (some x) (some c)) Q E s := by
  have hcB : (Value.ref C :: bm).contains (.type "BaseException") = true := by rw [List.contains_cons, hbase, Bool.or_true]
  unfold raiseStmt
  refine wpAny_bind (wpAny_mono h (fun v s1 h1 => ?_) fun _ _ z => z)
  obtain ⟨e, t, rfl, ne, hC, he, cx, hE⟩ := h1
  refine wpAny_bind (wpAny_holding (hcn _ _ _ (wpAny_bind (wpAny_pure ?_))))
  have hCe : C ≠ e := fun z => by rw [z, he] at hC; cases hC
  obtain ⟨hp, g, d, tk, os⟩ := s1
  repeat (first | with_reducible refine wpAny_loadPart_at he ?_ | with_reducible refine wpAny_loadPart_at hC ?_ | (with_reducible refine wpAny_isSubtype_exc hC ?_; rw [hcB]) | wp_step)
  have he' : hp.get? e = some { cls := .ref C, data := .fields #[.ref t, .none, .none, .none, .bool false, .none] } := he
  have e3 : (hp.update e (Obj.mapFields fun x => x.setIfInBounds 3 Value.none)).get? e = some { cls := .ref C, data := .fields #[.ref t, .none, .none, .none, .bool false, .none] } := Heap.get?_update_self _ he' rfl
  have e4 : ((hp.update e (Obj.mapFields fun x => x.setIfInBounds 3 Value.none)).update e (Obj.mapFields fun x => x.setIfInBounds 4 (Value.bool true))).get? e = some { cls := .ref C, data := .fields #[.ref t, .none, .none, .none, .bool true, .none] } := Heap.get?_update_self _ e3 rfl
  obtain ⟨oc, vc, hoc, hdc, h2c⟩ := cx
  have hoc' : hp.get? a = some oc := hoc
  refine raiseNew_held (vs := #[.ref t, .none, .none, .none, .bool true, .none]) hh ne ⟨oc, vc, (Heap.get?_update_other _ _ ne).trans ((Heap.get?_update_other _ _ ne).trans hoc'), hdc, h2c⟩ e4 rfl (by show 2 < 6; decide) (hE _ (((Heap.SameBut.update ..).trans (Heap.SameBut.update ..)).trans (Heap.SameBut.update ..)) ?_)
  exact Heap.get?_update_self _ e4 rfl
theorem exec_raise_from {B initId : String} (FB : ExcBaseFacts B newId initId bmB) {mN : Str → Option Value} {x : Str} {np cpos pos kp : Pos} {j} {args : List Expr} {Q : Flow → Shared → Prop} (hbase : bm.contains (.type "BaseException") = true) (hh : A.handled = some (.ref a)) (hplain : (backTo cpos (starEach args env)).any (·.1) = false) (hni : mN "__init__" = none)
    (h : wpAny (model prog w) A (eval (.Name x np) env) (fun f s1 => f = .ref C ∧ wpAny (model prog w) A (evalArgs (.ref C) true (backTo cpos (starEach args env)) [])
      (fun ar s2 => ar.kw = [] ∧ ar.pos.length ≤ sizeLine ∧ s2.heap.get? C = some (excClassObj nm q C N bs bm hdct sn sub ab col dd k0 k1 k2 k3 k5 newId) ∧ s2.heap.Ns N mN ∧ OwnTail s2.heap bmB bm ∧ Ctx0 a s2.heap ∧
        ∀ hm e t h', Heap.MadeExcOf s2.heap hm e (.ref C) ar.pos → Heap.SameBut e hm h' → h'.get? e = some { cls := .ref C, data := .fields #[.ref t, .none, .ref a, .none, .bool true, .none] } → E (.ref e) { s2 with heap := h' }) E s1) E s) :
    wpAny (model prog w) A (exec (.Raise (some (.Call (.Name x np) args [] cpos)) (some (.Constant .none j kp)) pos) env) Q E s := by
  rw [arm_exec_Raise]
  simp only [evalOpt, Option.map]
  refine wpAny_bind (wpAny_standAt (raiseStmt_from (C := C) (nm := nm) (q := q) (N := N) (bs := bs) (bm := bm) (hdct := hdct) (sn := sn) (sub := sub) (ab := ab) (col := col) (dd := dd) (k0 := k0) (k1 := k1) (k2 := k2) (k3 := k3) (k5 := k5) (newId := newId) hbase hh (fun s E Q hq => wpAny_bind (Constant_none (wpAny_bind (wpAny_standAt (wpAny_pure hq))))) ?_))
  refine wpAny_bind (wpAny_mono (wpAny_Call_ofName (wpAny_mono h (fun f s1 h1 => ?_) fun _ _ z => z)) (fun v s3 h3 => wpAny_bind (wpAny_standAt (wpAny_pure h3))) fun _ _ z => z)
  obtain ⟨rfl, h1⟩ := h1
  unfold callWith
  refine wpAny_bind (wpAny_holding (wpAny_mono h1 (fun ar s2 h2 => wpAny_bind (wpAny_standAt ?_)) fun _ _ z => z))
  obtain ⟨apos, akw⟩ := ar
  obtain ⟨hkw, hlen, hC, hn, T, cx, h2⟩ := h2
  obtain rfl : akw = [] := hkw
  obtain ⟨hp, g, d, tk, os⟩ := s2
  simp only [hplain]
  refine wpAny_bind (wpAny_keeperOf_exc hC (wpAny_bind (wpAny_call_exc_subT (hrest := hlen) FB T hC hn hni fun hm e mx => wpAny_bind (wpAny_holding (wpAny_point (wpAny_pure ?_))))))
  obtain ⟨t, ht, _, _⟩ := mx.there
  obtain ⟨oc, vc, hoc, hdc, h2c⟩ := cx
  exact ⟨e, t, rfl, fun z => (by have := mx.new; rw [z] at this; rw [show hp.get? a = some oc from hoc] at this; cases this), mx.keeps _ _ hC, ht, ⟨oc, vc, mx.keeps _ _ hoc, hdc, h2c⟩, fun h' sb he => h2 hm e t h' mx sb he⟩
end

section
variable {X : Cx} {k : Nat} {f C' Cr : Addr} {fd : FuncData} {ps : List Str} {sp : Sp} {x y z : Str} {yp cp rp np zp cpos kp rpos hpos pos : Pos} {j} {e e₀ : Expr} {es rest : List Expr} {ta ta2 : TA} {bmB : List Value} {B newId initId : String}
/-- try: return f(..) except C: raise D(..) from None -/
theorem psh_tryRaise (hstk : X.stack = X.env :: X.outer) (hfr : X.env.frame = some X.env.locals) (F : FnOk X.prog X.w X.K X.mg X.base (CXC X.prog X.w) k f fd ps sp) (hr : Room k X.A) (hgf : Gl X y) (hmf : X.mg y = some (.ref f)) (hkf : PySem.W.keepIn X.K (.ref f) = true) (hbf : Binds X.K fd ps []) (haf : PA X.nox (e :: es) ta)
    (hg : Gl X x) (hm : X.mg x = some (.ref C')) (cc : CatchCls X.K C') (hg2 : Gl X z) (hm2 : X.mg z = some (.ref Cr)) (ec : PySem.W.excIn X.K Cr bmB newId = true) (FB : ExcBaseFacts B newId initId bmB) (ha2 : ∀ a, PA (hCx X a) (e₀ :: rest) ta2)
    (hdy : (y == ("__debug__" : Str)) = false := by decide) (hdx : (x == ("__debug__" : Str)) = false := by decide) (hdz : (z == ("__debug__" : Str)) = false := by decide) (he : starEach (e :: es) X.env = (false, eval e X.env) :: starEach es X.env := by rfl) (hpl : (backTo cp (starEach es X.env)).any (·.1) = false := by rfl)
    (he2 : starEach (e₀ :: rest) X.env = (false, eval e₀ X.env) :: starEach rest X.env := by rfl) (hpl2 : (backTo cpos (starEach rest X.env)).any (·.1) = false := by rfl) :
    PSHs X [.Try [.Return (some (.Call (.Name y yp) (e :: es) [] cp)) rp] [.ExceptHandler (some (.Name x np)) none [.Raise (some (.Call (.Name z zp) (e₀ :: rest) [] cpos)) (some (.Constant .none j kp)) rpos] hpos] [] [] pos]
      (fun D E σ H => ta σ H fun vs H1 => sp (vs ++ []) H1 D.rt (fun C _ H2 => Caught X.K C' C ∧ ta2 σ H2 fun ws H3 => ws.length ≤ sizeLine ∧ E (.ref Cr) none H3)) := by
  intro pins s σ H D E I h
  have body : wpAny (model X.prog X.w) X.A (execs [.Return (some (.Call (.Name y yp) (e :: es) [] cp)) rp] X.env) (SP X pins D) (fun v s' => ∃ H s, Inv X pins σ H s ∧ CXC X.prog X.w X.stack H s (fun C _ H2 => Caught X.K C' C ∧ ta2 σ H2 fun ws H3 => ws.length ≤ sizeLine ∧ E (.ref Cr) none H3) v s') s := by
    refine wpAny_execs_cons (wpAny_Return_some (wpAny_Call_Name_kw (ld_glob I hgf hmf ?_ hdy)))
    refine PySem.W.callWith_K (h₀ := X.base) I.ok.mod.kin hkf (wpAny_mono (haf cp pins s σ H _ (I.wish _) h) (fun us s1 ⟨vs, H1, I1', r, q⟩ => ?_) fun _ _ z => z.elim) he hpl
    have I1 := I1'.unwish
    refine ⟨I1.kIn, ?_⟩
    have r2 : Vals (vs ++ []) (us ++ []) := r.append .nil
    have hl : (us ++ []).length = ps.length := by rw [← r2.length]; exact F.len _ _ _ _ q
    refine wpAny_call (codeAny_mono (F.run X.A X.stack s1 H1 ⟨us, []⟩ (us ++ []) (vs ++ []) _ _ hr I1.env0 (hbf s1 us I1.kIn hl) r2 q) fun r s' hq => ?_)
    cases r with
    | error e => exact ⟨H1, s1, I1, hq⟩
    | ok fl =>
      cases fl with
      | ret u =>
        obtain ⟨v, H2, I2, rv, q2⟩ := I1.after hq
        exact ⟨v, σ, H2, I2, rv, q2⟩
      | next => exact False.elim hq
      | brk => exact False.elim hq
      | cont => exact False.elim hq
  refine wpAny_execs_cons (wpAny_mono (Q := SP X pins D) (wpAny_Try_except (wpAny_mono body (fun f s1 q => ?_) fun v s1 q => ?_)) (fun f s1 q => ?_) fun _ _ z => z)
  · cases f with
    | next => exact wpAny_execs_nil q
    | ret v => exact q
    | brk => exact q
    | cont => exact q
  · obtain ⟨H1, s2, I2, ⟨a, t, C, H', B, rfl, os, bare, un, hokB, fly, keepB, thereB, new, ⟨Ce, rfl, hsub⟩, q⟩, a', ea, cx⟩ := q
    cases ea
    have tr : TrW B (X.env :: X.outer) a (.ref Ce) (.ref t) .none s1.heap := by rw [← hstk]; exact fly
    refine note_next (I2.ok.frames.trans (congrArg some hstk)) hfr tr cx (by simp [rawInt]) fun h4 t4 c4 up4 => ?_
    refine land_ctx (s := { s1 with heap := h4 }) (fr := none) t4 c4 fun h5 t5 c5 up5 => ?_
    have I5 : Inv X pins σ H' { s1 with heap := h5 } := I2.landed (h1 := h4) os bare un hokB t5.1 keepB thereB (up4.trans up5)
    refine wpAny_handleBy_cons (codeAny_handlers_test (ld_glob (X := hCx X a) (I5.held a) hg hm ?_ hdx)) (by intro z; cases z)
    refine excMatches_own (s := { s1 with heap := h5 }) I5.kIn cc hsub t5.2.2.2.there (codeAny_handlers_suite ?_)
    refine land_ctx (s := { s1 with heap := h5 }) (fr := none) t5 c5 fun h6 t6 c6 up6 => ?_
    have I6 : Inv X pins σ H' { s1 with heap := h6 } := I2.landed (h1 := h4) os bare un hokB t6.1 keepB thereB ((up4.trans up5).trans up6)
    -- the handled error stays as it is
    obtain ⟨o6, v6, e6, d6, c62⟩ := id c6
    have han : H' a = none := hokB.noneAt fly.2.1
    have I6p : Inv X (pins ++ [(a, o6)]) σ H' { s1 with heap := h6 } := by
      refine I6.pins_of fun p hp => ?_
      rcases List.mem_append.mp hp with hp | hp
      · exact I6.pin p (List.mem_append_right _ hp)
      · rw [List.mem_singleton.mp hp]
        refine ⟨e6, han, fun z => ?_, fun z => ?_, fun v z => ?_⟩
        · obtain ⟨m, ⟨o, es, ep, ho, hd, _⟩, _⟩ := I6.loc
          rw [← z] at ho
          have ho' : h6.get? a = some o := ho
          rw [e6] at ho'
          cases ho'
          rw [d6] at hd
          cases hd
        · obtain ⟨_, o, ho, nf⟩ := t6.2.2.1.2.2.mem (show a ∈ X.outer.filterMap (·.frame) from z)
          rw [e6] at ho
          cases ho
          exact nf _ d6
        · have z' : o6.data = .cell v := z
          rw [d6] at z'
          cases z'
    obtain ⟨bm, N, nm, qn, bs, hdct, sn, sub, ab, col, dd, k0, k1, k2, k3, k5, lk, tl, ok, ni⟩ := exc_obj ec
    have KB := I.mod.kin
    have hN : X.base.Ns N (X.base.nsMap N) := .of_isNs (PySem.W.isNs_of_in KB ok)
    refine wpAny_execs_cons (exec_raise_from (a := a) (C := Cr) (nm := nm) (q := qn) (N := N) (bs := bs) (bm := bm) (hdct := hdct) (sn := sn) (sub := sub) (ab := ab) (col := col) (dd := dd) (k0 := k0) (k1 := k1) (k2 := k2) (k3 := k3) (k5 := k5) FB (mN := X.base.nsMap N) ((PySem.W.tail_of_in KB tl).hasType FB.hasBase) rfl
      (by rw [he2]; show (false || (backTo cpos (starEach rest X.env)).any (·.1)) = false; rw [hpl2]; rfl) (PySem.W.nsMap_none_of_in KB ok ni) (ld_glob (X := hCx X a) (I6p.held a) hg2 hm2 ⟨rfl, ?_⟩ hdz))
    have hA := ha2 a cpos (pins ++ [(a, o6)]) _ σ H' _ (I6p.held a) q
    rw [show starEach (e₀ :: rest) (hCx X a).env = starEach (e₀ :: rest) X.env from rfl, he2] at hA
    rw [he2]
    refine Calls.evalArgs_plain (wpAny_mono hA (fun us s7 ⟨ws, H7, I7', r7, hz, q7⟩ => ?_) fun _ _ z => z.elim)
    have I7 := I7'.back I6.ok
    have p7 := I7.pin (a, o6) (List.mem_append_right _ (List.mem_append_right _ (List.mem_singleton.mpr rfl)))
    refine ⟨rfl, by rw [← r7.length]; exact hz, I7.bk _ _ (KB _ _ lk), hN.keeps I7.bk, (PySem.W.tail_of_in KB tl).keeps I7.bk, ⟨o6, v6, p7.1, d6, c62⟩, fun hm e2 t2 h8 mx sb he8 => ?_⟩
    have I7b : Inv X pins σ H7 s7 := I7.unpinned
    have hnew : s7.heap.get? e2 = none := mx.new
    have k8 : ∀ b o, s7.heap.get? b = some o → h8.get? b = some o := fun b o e => (sb.2 b (fun z => by rw [z, hnew] at e; cases e)).trans (mx.keeps b o e)
    have st8 : (PySem.W.hideAll s7.heap (frs X.stack)).StaysIn h8 := fun b o e => k8 b o (PySem.W.of_hideAll _ e)
    have ne2 : (PySem.W.hideAll s7.heap (frs X.stack)).get? e2 = none := by
      cases z : (PySem.W.hideAll s7.heap (frs X.stack)).get? e2 with
      | none => rfl
      | some o => rw [PySem.W.of_hideAll _ z] at hnew; cases hnew
    have ff8 : h8.FunFrames (PySem.W.hideAll s7.heap (frs X.stack)) (X.env :: X.outer) := by
      have z := PySem.W.funFrames_hide (as := frs X.stack) I7b.stack fun env he b hb => List.mem_filterMap.mpr ⟨env, he, hb⟩
      rw [hstk] at z ⊢
      exact z.of_keeps fun b o hb _ => ⟨o, k8 b o hb, rfl⟩
    show wpAny _ _ (noteFrame (.ref e2) X.env) _ _ { s7 with heap := h8 }
    refine note_first (s := { s7 with heap := h8 }) (a0 := .ref t2) (cv := .ref a) (I2.ok.frames.trans (congrArg some hstk)) ff8 hfr he8 st8 ne2 rfl rfl rfl rfl fun h9 t9 c9 up9 => ?_
    unfold cameBackBy
    obtain ⟨oe9, v9, T9, oT9, ts9, he9, _, hd9, h19, _⟩ := t9.2.2.2
    refine wpAny_bind (wpAny_field (s := { s7 with heap := h9 }) he9 hd9 h19 ?_)
    rw [if_neg (show ¬ ((Value.ref T9 == Value.none) = true) by simp)]
    first | refine wpAny_bind (wpAny_pure ?_) | skip
    rw [hfr]
    refine land_ctx (s := { s7 with heap := h9 }) (fr := some X.env.locals) t9 c9 fun h10 t10 c10 up10 => ?_
    have ff10 : ∀ l, l = X.env :: X.outer → h10.FunFrames (PySem.W.hideAll s7.heap (frs X.stack)) l := fun l e => by rw [e]; exact t10.2.2.1
    have frF : ∀ b ∈ frs X.stack, H7 b = none := I7b.stkFree
    have slot : ∀ b o, s7.heap.get? b = some o → b ∈ frs X.stack → ∃ sl, h10.get? b = some { o with slots := sl } := fun b o e hb => by
      obtain ⟨_, o', e3, nf⟩ := I7b.stack.mem (show b ∈ X.stack.filterMap (·.frame) from hb)
      rw [e] at e3; cases e3
      obtain ⟨sl, e4⟩ := (up9.trans up10) b o (k8 b o e) nf
      exact ⟨sl, e4⟩
    refine ⟨σ, H7, s7, I7b, e2, t2, .ref Cr, H7, PySem.W.hideAll s7.heap (frs X.stack), _, rfl, rfl, I7b.bare, ⟨fun b o e n hb hx => t10.1 b o (PySem.W.hideAll_get _ e hb), fun b o e n hb hx => slot b o e hb, fun b o e n hx => n, fun b o e hx => ?_, fun _ _ e => e, fun _ _ _ e => e, fun b ps e => ⟨#[], by rw [Array.append_empty]; exact e⟩⟩, fun c o e => ?_, ⟨t10.1, t10.2.1, ff10 X.stack hstk, t10.2.2.2⟩, fun b o e n hb => PySem.W.hideAll_get _ e hb, fun b o e hb => ⟨o, PySem.W.hideAll_get _ e hb⟩, hnew, q7⟩
    · by_cases hb : b ∈ frs X.stack
      · obtain ⟨sl, z⟩ := slot b o e hb
        exact ⟨_, z⟩
      · exact ⟨o, t10.1 b o (PySem.W.hideAll_get _ e hb)⟩
    · refine (I7b.hok c o e).stay (fun b u hb z2 => PySem.W.hideAll_get _ z2 fun z3 => ?_) (fun _ z2 => z2) fun _ _ z2 => z2
      have z4 := frF b z3
      rcases hb with hb | hb
      · rw [← hb, z4] at e; cases e
      · rw [z4] at hb; cases hb
  · cases f with
    | next => exact wpAny_execs_nil q
    | ret v => exact q
    | brk => exact q
    | cont => exact q
end
end L2
namespace Rp
open PySem PySem.NumText L2 Fig
/-! ### what the program's functions promise, refusals and all -/
def spNumInX (C : Addr) : Sp := fun vs H Q E => ∃ z : Str, vs = [.str z] ∧ Small z ∧ (∀ n, numIn z.cps.toList = some n → ∀ H', Same H H' → Q (.int n) H') ∧ (numIn z.cps.toList = none → ∀ H', Same H H' → E (.ref C) none H')
def spPartOfX (C : Addr) : Sp := fun vs H Q E => ∃ z : Str, vs = [.str z] ∧ Small z ∧ (∀ p, parse z.cps.toList = some p → ∀ (t : Addr) (H' : Hp), Same H H' → H t = none → H' t = some (.tup p.tup) → Q (.ref t) H') ∧ (parse z.cps.toList = none → ∀ H', Same H H' → E (.ref C) none H')
def spPartsX (C : Addr) : Sp := fun vs H Q E => ∃ z : Str, vs = [.str z] ∧ Small z ∧
  (∀ ps, readT z.cps.toList = some ps → ∀ (p : Addr) (H' : Hp), Same H H' → H p = none → PartsAt H' p ps → Q (.ref p) H') ∧ (readT z.cps.toList = none → ∀ H', Same H H' → E (.ref C) none H')
def RdyC (P : Program) (w : World) (K : PySem.W.Frag) (mg : Str → Option Value) (base : Heap) (n : Nat) (x : Str) (ps : List Str) (sp : Sp) : Prop :=
  ∃ a d, FnOk P w K mg base (CXC P w) n a d ps sp ∧ Binds K d ps [] ∧ PySem.W.keepIn K (.ref a) = true ∧ mg x = some (.ref a)
section
variable {P : Program} {w : World} {K : PySem.W.Frag} {mg : Str → Option Value} {base h : Heap} {x : Str} {ps : List Str} {sp sp' : Sp} {n m : Nat} {a : Addr} {d : FuncData}
theorem rdyC (X : K.In h) (G : h.Ns mainGlobals mg) (F : FnOk P w K mg base (CXC P w) n a d ps sp) (b : Binds K d ps []) (k : PySem.W.keepIn K (.ref a) = true) (z : PySem.W.nsIn K mainGlobals x = some (some (.ref a))) : RdyC P w K mg base n x ps sp := ⟨a, d, F, b, k, PySem.W.mg_of X G z⟩
theorem RdyX.imp (r : RdyX P w K mg base n x ps sp) (i : ∀ vs H Q E, sp' vs H Q E → sp vs H Q E) : RdyX P w K mg base n x ps sp' := let ⟨a, d, F, b, k, z⟩ := r; ⟨a, d, FnOk.imp F i, b, k, z⟩
end
theorem parts_x (C : Addr) (vs : List V) (H : Hp) (Q : VK) (E : XK) (h : spParts C vs H Q E) : spPartsX C vs H Q E := by
  obtain ⟨z, rfl, sm, q1, q2⟩ := h
  exact ⟨z, rfl, sm, fun ps e p H' s _ hp => q1 ps e p H' s hp, q2⟩
theorem parseAll_snoc : ∀ (ts : List (List Nat)) (t : List Nat), parseAll (ts ++ [t]) = (parseAll ts).bind fun qs => (parse t).map fun p => qs ++ [p]
  | [], t => by
    show (parse t).bind (fun p => (parseAll []).map (p :: ·)) = (parse t).map fun p => [] ++ [p]
    cases parse t <;> rfl
  | u :: r, t => by
    show (parse u).bind (fun p => (parseAll (r ++ [t])).map (p :: ·)) = ((parse u).bind fun p => (parseAll r).map (p :: ·)).bind _
    rw [parseAll_snoc r t]
    cases parse u with
    | none => rfl
    | some p =>
      show ((parseAll r).bind _).map _ = ((parseAll r).map _).bind _
      cases parseAll r with
      | none => rfl
      | some qs =>
        show ((parse t).map _).map _ = (parse t).map _
        cases parse t <;> rfl
theorem parseAll_len : ∀ {ts : List (List Nat)} {ps : List Part}, parseAll ts = some ps → ts.length = ps.length := fun h => (parseAll_get h).1
end Rp
namespace Rp
open PySem PySem.NumText L2 Fig
section
variable {P : Program} {w : World} {K : PySem.W.Frag} {mg : Str → Option Value} {base : Heap} {f : Addr} {fd : FuncData}
theorem scNumC : FnScope ["words"] ["words"] (defScope sNumberOf) := ⟨rfl, rfl, rfl, by decide +kernel, rfl, by decide +kernel, by decide +kernel⟩
theorem ok_numC {C gi gv : Addr} {di dv : FuncData} (F : Fun K "number_of" "number_of" sNumberOf f fd) (GI : FnOk P w K mg base CX0 1 gi di ["words"] spIs) (bI : Binds K di ["words"] []) (kI : PySem.W.keepIn K (.ref gi) = true) (mI : mg "is_number" = some (.ref gi))
    (GV : FnOk P w K mg base CX0 1 gv dv ["figures"] spVal) (bV : Binds K dv ["figures"] []) (kV : PySem.W.keepIn K (.ref gv) = true) (mV : mg "value_of" = some (.ref gv)) (mN : mg "NoNumber" = some (.ref C)) (ec : PySem.W.excIn K C bmV "ValueError.__new__" = true) :
    FnOk P w K mg base (CXC P w) 2 f fd ["words"] (spNum C) := by
  refine F.okC scNumC (fun vs H Q E h => ?_) (fun cdv A outer s H vs Q E hr h => ?_)
  · obtain ⟨n, rfl, _⟩ := h
    rfl
  obtain ⟨z, rfl, sm, q1, q2⟩ := h
  have line := line_big
  have zl := txt_len z
  have hl := sm.1
  refine ⟨_, psx_cons (psx_if (pt_not (pt_val (pe_call GI hr rfl mI kI bI .nil pass0 (pa_cons (pv 0) pa_nil)))) (psx_one (psx_raise rfl rfl mN ec PySem.F.excBase_ValueError (pa_cons (pe_fmtR (by decide +kernel) (pv 0)) pa_nil))) psx_nil)
    (psx_cons (psx_if (pt_val (pe_bm PySem.F.plainAttrs_str PySem.F.slot_str_startswith PySem.F.type_str_startswith mt_startswith (pv 0) (pa_cons pe_str pa_nil)))
      (psx_one (PS.x (ps_ret (pe_un un_neg (pe_call GV hr rfl mV kV bV .nil pass0 (pa_cons (pe_slice sl_str (pv 0) (po_some pe_int) po_none) pa_nil)))))) psx_nil)
    (psx_one (PS.x (ps_ret (pe_call GV hr rfl mV kV bV .nil pass0 (pa_cons (pv 0) pa_nil)))))), ?_⟩
  refine ⟨_, rfl, z, rfl, hl, fun H1 g1 => ⟨_, rfl, ite2 (fun c => ?_) (fun c => ?_)⟩⟩
  · have c' : isNum z.cps.toList = false := by simpa using c
    exact ⟨_, rfl, z, rfl, sm, by show 1 ≤ sizeLine; omega, q2 c' H1 g1⟩
  · have c' : isNum z.cps.toList = true := by simpa using c
    have qq := q1 c' H1 g1
    have hd : figs z.cps.toList ≠ [] ∧ AllDigits (figs z.cps.toList) := by
      have k := c'
      unfold isNum at k
      by_cases h48 : z.cps.toList = [48]
      · rw [h48]
        exact ⟨by decide, allDig_iff.mp (by decide)⟩
      · rw [decide_eq_false h48, Bool.false_or, Bool.and_eq_true, Bool.and_eq_true] at k
        exact ⟨by simpa using k.1.1, allDig_iff.mp k.2⟩
    refine ⟨_, rfl, rfl, _, _, rfl, rfl, _, rfl, ite2 (fun c2 => ?_) (fun c2 => ?_)⟩
    · rw [lit_dash, sw_one, decide_eq_true_iff] at c2
      have ef : figs z.cps.toList = z.cps.toList.tail := if_pos c2
      have z1 : 1 ≤ z.length := by
        rw [← zl]
        cases e : z.cps.toList with
        | nil => rw [e] at c2; cases c2
        | cons d r => simp
      have sc := sl_from z z1
      have e1 : z.cps.toList.drop 1 = z.cps.toList.tail := by cases z.cps.toList <;> rfl
      rw [e1] at sc
      refine ⟨_, rfl, _, rfl, z, rfl, by omega, _, rfl, by rw [sc, ← ef]; exact hd.2, Nat.le_trans (Txt.slice_le _ _ _) hl, _, rfl, ?_⟩
      rw [sc]
      have e2 : valOf z.cps.toList = -((digitsVal z.cps.toList.tail : Nat) : Int) := if_pos c2
      rw [e2] at qq
      exact qq
    · have c3 : ¬ z.cps.toList.head? = some 45 := fun e => c2 (by rw [lit_dash, sw_one]; exact decide_eq_true e)
      have ef : figs z.cps.toList = z.cps.toList := if_neg c3
      refine ⟨_, rfl, z, rfl, by rw [← ef]; exact hd.2, hl, ?_⟩
      have e2 : valOf z.cps.toList = ((digitsVal z.cps.toList : Nat) : Int) := if_neg c3
      rw [e2] at qq
      exact qq
theorem ok_numC2 {C : Addr} (F : Fun K "number_of" "number_of" sNumberOf f fd) (fI : Rdy P w K mg base 1 "is_number" ["words"] spIs) (fV : Rdy P w K mg base 1 "value_of" ["figures"] spVal) (mN : mg "NoNumber" = some (.ref C)) (ec : PySem.W.excIn K C bmV "ValueError.__new__" = true) : FnOk P w K mg base (CXC P w) 2 f fd ["words"] (spNum C) := by
  obtain ⟨a, d, G, b, k, m⟩ := fI
  obtain ⟨a2, d2, G2, b2, k2, m2⟩ := fV
  exact ok_numC F G b k m G2 b2 k2 m2 mN ec
end
end Rp
namespace Rp
open PySem PySem.NumText L2 Fig
section
variable {P : Program} {w : World} {K : PySem.W.Frag} {mg : Str → Option Value} {base : Heap} {f : Addr} {fd : FuncData}
theorem scSame : FnScope ["row", "at", "end"] ["row", "at"] (defScope sSame) := ⟨rfl, rfl, rfl, by decide +kernel, rfl, by decide +kernel, by decide +kernel⟩
theorem ok_same (F : Fun K "same_from" "same_from" sSame f fd) (g : GB mg) : FnOk P w K mg base CX0 1 f fd ["row", "at"] (spRun K 0) := by
  refine F.ok scSame (fun vs H Q E h => ?_) (fun cdv A outer s H vs Q E hr h => ?_)
  · obtain ⟨a, ns, k, v, rfl, _⟩ := h
    rfl
  obtain ⟨a, ns, k, v, rfl, hS, hl, hv, q⟩ := h
  have line := line_big
  have hk := (List.getElem?_eq_some_iff.mp hv).1
  refine ⟨_, pss_cons (ps_set (i := 2) scSame.nd rfl (Or.inl rfl) (pe_op op_add (pv 1) pe_int))
    (pss_cons (ps_while PassesOwn.never (PW.pt (pw_and (pt_cmpR op_lt (pv 2) (pe_callB call_len_seq rfl g.len PySem.boot_len (pa_cons (pv 0) pa_nil)) (nomark _))
        (pw_and1 (pt_cmpR op_eq (pe_ix ix_list (pv 0) (pv 2) (fun _ _ => rfl)) (pe_ix ix_list (pv 0) (pv 1) (fun _ _ => rfl)) (nomark _)))))
      (pss_one (ps_set (i := 2) scSame.nd rfl (Or.inl rfl) (pe_op op_add (pv 2) pe_int))))
    (pss_one (ps_ret (pe_op op_sub (pv 2) (pv 1))))), ?_⟩
  refine ⟨_, rfl, _, _, rfl, rfl, ?_⟩
  show tWhile _ _ _ [some (.ref a), some (.int k), some (.int ((k + 1 : Nat) : Int))] H
  have z0 : ∀ j : Nat, (ns.drop k)[j]? = ns[k + j]? := fun j => by rw [List.getElem?_drop]
  have zat : ∀ (j : Nat) (u : Int), ns[j]? = some u → atI (ns.map V.int) (j : Int) = some (.int u) := fun j u h => atI_nat (by rw [List.getElem?_map, h]; rfl)
  have h3 := runN_le 0 (ns.drop k) v
  rw [List.length_drop] at h3
  refine while_t (fun σ H' => H' = H ∧ ∃ e : Nat, σ = [some (.ref a), some (.int k), some (.int e)] ∧ k + 1 ≤ e ∧ e ≤ k + runN 0 v (ns.drop k))
    (fun σ _ => match σ with | [_, _, some (.int m)] => ns.length - m.toNat | _ => 0)
    (fun σ H' b H1 => H1 = H ∧ ∀ e : Nat, σ = [some (.ref a), some (.int k), some (.int e)] → b = decide (e < k + runN 0 v (ns.drop k)))
    ⟨rfl, k + 1, rfl, Nat.le_refl _, Nat.add_le_add_left (runN_pos (by rw [z0]; exact hv)) k⟩ ?_ ?_ ?_
  · rintro σ H1 ⟨rfl, e, rfl, h1, h2⟩ Q' kk
    refine ⟨_, rfl, _, rfl, a, _, rfl, .inl hS, _, _, rfl, rfl, _, rfl, ite2 (fun c => ?_) (fun c => ?_)⟩
    · have c' : (e : Int) < (((ns.map V.int).length : Nat) : Int) := of_decide_eq_true c
      rw [List.length_map] at c'
      have hb : e < ns.length := by omega
      obtain ⟨m, rfl⟩ : ∃ m, e = k + m := ⟨e - k, by omega⟩
      refine ⟨_, rfl, _, rfl, a, _, _, _, rfl, rfl, hS, zat (k + m) _ (List.getElem?_eq_getElem hb), _, rfl, _, rfl, a, _, _, _, rfl, rfl, hS, zat k v hv, rfl, _, rfl, kk _ _ ⟨rfl, fun e' e1 => ?_⟩⟩
      have e'' : e' = k + m := Int.ofNat.inj (by simpa using e1.symm)
      subst e''
      have t := run_test (show m ≤ runN 0 v (ns.drop k) by omega)
      rw [z0, List.getElem?_eq_getElem hb, Int.mul_zero, Int.add_zero] at t
      have t2 : decide (k + m < k + runN 0 v (ns.drop k)) = decide (m < runN 0 v (ns.drop k)) := decide_eq_decide.mpr (by omega)
      rw [t2]
      refine decide_eq_decide.mpr (Iff.trans ⟨fun z => ?_, fun z => ?_⟩ t)
      · injection z with z; rw [z]
      · rw [Option.some.inj z]
    · have c' : ¬ (e : Int) < (((ns.map V.int).length : Nat) : Int) := of_decide_eq_false (Bool.eq_false_iff.mpr c)
      rw [List.length_map] at c'
      refine kk _ _ ⟨rfl, fun e' e1 => ?_⟩
      have e'' : e' = e := Int.ofNat.inj (by simpa using e1.symm)
      subst e''
      exact (decide_eq_false (by omega)).symm
  · rintro σ H0 H1 ⟨rfl, e, rfl, h1, h2⟩ ⟨rfl, r⟩
    have c := of_decide_eq_true (r e rfl).symm
    refine ⟨_, rfl, _, _, rfl, rfl, ⟨rfl, e + 1, rfl, by omega, c⟩, ?_⟩
    show ns.length - ((e : Int) + 1).toNat < ns.length - (e : Int).toNat
    omega
  · rintro σ H0 H1 ⟨rfl, e, rfl, h1, h2⟩ ⟨rfl, r⟩
    have r' := of_decide_eq_false (r e rfl).symm
    refine ⟨_, rfl, _, rfl, _, _, rfl, rfl, ?_⟩
    show Q (V.int ((e : Int) - (k : Int))) _
    rw [show (e : Int) - (k : Int) = ((runN 0 v (ns.drop k) : Nat) : Int) by omega]
    exact q _ (Same.refl _)
end
end Rp
namespace Rp
open PySem PySem.NumText L2 Fig
section
variable {P : Program} {w : World} {K : PySem.W.Frag} {mg : Str → Option Value} {base : Heap} {f : Addr} {fd : FuncData}
theorem scRising : FnScope ["row", "at", "end"] ["row", "at"] (defScope sRising) := ⟨rfl, rfl, rfl, by decide +kernel, rfl, by decide +kernel, by decide +kernel⟩
theorem ok_rising (F : Fun K "rising_from" "rising_from" sRising f fd) (g : GB mg) : FnOk P w K mg base CX0 1 f fd ["row", "at"] (spRun K 1) := by
  refine F.ok scRising (fun vs H Q E h => ?_) (fun cdv A outer s H vs Q E hr h => ?_)
  · obtain ⟨a, ns, k, v, rfl, _⟩ := h
    rfl
  obtain ⟨a, ns, k, v, rfl, hS, hl, hv, q⟩ := h
  have line := line_big
  have hk := (List.getElem?_eq_some_iff.mp hv).1
  refine ⟨_, pss_cons (ps_set (i := 2) scRising.nd rfl (Or.inl rfl) (pe_op op_add (pv 1) pe_int))
    (pss_cons (ps_while PassesOwn.never (PW.pt (pw_and (pt_cmpR op_lt (pv 2) (pe_callB call_len_seq rfl g.len PySem.boot_len (pa_cons (pv 0) pa_nil)) (nomark _))
        (pw_and1 (pt_cmpR op_eq (pe_ix ix_list (pv 0) (pv 2) (fun _ _ => rfl)) (pe_op op_add (pe_ix ix_list (pv 0) (pe_op op_sub (pv 2) pe_int) (fun _ _ => rfl)) pe_int) (nomark _)))))
      (pss_one (ps_set (i := 2) scRising.nd rfl (Or.inl rfl) (pe_op op_add (pv 2) pe_int))))
    (pss_one (ps_ret (pe_op op_sub (pv 2) (pv 1))))), ?_⟩
  refine ⟨_, rfl, _, _, rfl, rfl, ?_⟩
  show tWhile _ _ _ [some (.ref a), some (.int k), some (.int ((k + 1 : Nat) : Int))] H
  have z0 : ∀ j : Nat, (ns.drop k)[j]? = ns[k + j]? := fun j => by rw [List.getElem?_drop]
  have zat : ∀ (j : Nat) (u : Int), ns[j]? = some u → atI (ns.map V.int) (j : Int) = some (.int u) := fun j u h => atI_nat (by rw [List.getElem?_map, h]; rfl)
  have h3 := runN_le 1 (ns.drop k) v
  rw [List.length_drop] at h3
  refine while_t (fun σ H' => H' = H ∧ ∃ e : Nat, σ = [some (.ref a), some (.int k), some (.int e)] ∧ k + 1 ≤ e ∧ e ≤ k + runN 1 v (ns.drop k))
    (fun σ _ => match σ with | [_, _, some (.int m)] => ns.length - m.toNat | _ => 0)
    (fun σ H' b H1 => H1 = H ∧ ∀ e : Nat, σ = [some (.ref a), some (.int k), some (.int e)] → b = decide (e < k + runN 1 v (ns.drop k)))
    ⟨rfl, k + 1, rfl, Nat.le_refl _, Nat.add_le_add_left (runN_pos (by rw [z0]; exact hv)) k⟩ ?_ ?_ ?_
  · rintro σ H1 ⟨rfl, e, rfl, h1, h2⟩ Q' kk
    refine ⟨_, rfl, _, rfl, a, _, rfl, .inl hS, _, _, rfl, rfl, _, rfl, ite2 (fun c => ?_) (fun c => ?_)⟩
    · have c' : (e : Int) < (((ns.map V.int).length : Nat) : Int) := of_decide_eq_true c
      rw [List.length_map] at c'
      have hb : e < ns.length := by omega
      obtain ⟨m, rfl⟩ : ∃ m, e = k + m := ⟨e - k, by omega⟩
      have hm1 : 1 ≤ m := by omega
      have zp : atI (ns.map V.int) (((k + m : Nat) : Int) - 1) = some (.int (v + ((m - 1 : Nat) : Int) * 1)) := by
        rw [show ((k + m : Nat) : Int) - 1 = ((k + (m - 1) : Nat) : Int) by omega]
        exact zat (k + (m - 1)) _ (by rw [← z0]; exact runN_at 1 (ns.drop k) v (m - 1) (by omega))
      refine ⟨_, rfl, _, rfl, a, _, _, _, rfl, rfl, hS, zat (k + m) _ (List.getElem?_eq_getElem hb), _, rfl, _, rfl, _, _, rfl, rfl, a, _, _, _, rfl, rfl, hS, zp, _, _, rfl, rfl, rfl, _, rfl, kk _ _ ⟨rfl, fun e' e1 => ?_⟩⟩
      have e'' : e' = k + m := Int.ofNat.inj (by simpa using e1.symm)
      subst e''
      have t := run_test (show m ≤ runN 1 v (ns.drop k) by omega)
      rw [z0, List.getElem?_eq_getElem hb, Int.mul_one] at t
      have t2 : decide (k + m < k + runN 1 v (ns.drop k)) = decide (m < runN 1 v (ns.drop k)) := decide_eq_decide.mpr (by omega)
      rw [t2]
      refine decide_eq_decide.mpr (Iff.trans ⟨fun z => ?_, fun z => ?_⟩ t)
      · injection z with z
        rw [z]
        congr 1
        omega
      · have z2 := Option.some.inj z
        rw [z2]
        congr 1
        omega
    · have c' : ¬ (e : Int) < (((ns.map V.int).length : Nat) : Int) := of_decide_eq_false (Bool.eq_false_iff.mpr c)
      rw [List.length_map] at c'
      refine kk _ _ ⟨rfl, fun e' e1 => ?_⟩
      have e'' : e' = e := Int.ofNat.inj (by simpa using e1.symm)
      subst e''
      exact (decide_eq_false (by omega)).symm
  · rintro σ H0 H1 ⟨rfl, e, rfl, h1, h2⟩ ⟨rfl, r⟩
    have c := of_decide_eq_true (r e rfl).symm
    refine ⟨_, rfl, _, _, rfl, rfl, ⟨rfl, e + 1, rfl, by omega, c⟩, ?_⟩
    show ns.length - ((e : Int) + 1).toNat < ns.length - (e : Int).toNat
    omega
  · rintro σ H0 H1 ⟨rfl, e, rfl, h1, h2⟩ ⟨rfl, r⟩
    have r' := of_decide_eq_false (r e rfl).symm
    refine ⟨_, rfl, _, rfl, _, _, rfl, rfl, ?_⟩
    show Q (V.int ((e : Int) - (k : Int))) _
    rw [show (e : Int) - (k : Int) = ((runN 1 v (ns.drop k) : Nat) : Int) by omega]
    exact q _ (Same.refl _)
end
end Rp
namespace Rp
open PySem PySem.NumText L2 Fig
section
variable {P : Program} {w : World} {K : PySem.W.Frag} {mg : Str → Option Value} {base : Heap} {f : Addr} {fd : FuncData}
theorem scPartAt : FnScope ["row", "at", "same", "rising"] ["row", "at"] (defScope sPartAt) := ⟨rfl, rfl, rfl, by decide +kernel, rfl, by decide +kernel, by decide +kernel⟩
theorem ok_partat (F : Fun K "part_at" "part_at" sPartAt f fd) (gL : Least mg) (fS : Rdy P w K mg base 1 "same_from" ["row", "at"] (spRun K 0)) (fR : Rdy P w K mg base 1 "rising_from" ["row", "at"] (spRun K 1)) : FnOk P w K mg base CX0 2 f fd ["row", "at"] (spPartAt K) := by
  refine F.ok scPartAt (fun vs H Q E h => ?_) (fun cdv A outer s H vs Q E hr h => ?_)
  · obtain ⟨a, ns, k, v, rfl, _⟩ := h
    rfl
  obtain ⟨a, ns, k, v, rfl, hS, hl, hv, q⟩ := h
  obtain ⟨aS, dS, GS, bS, kS, mS⟩ := fS
  obtain ⟨aR, dR, GR, bR, kR, mR⟩ := fR
  have line := line_big
  have zat : ∀ (j : Nat) (u : Int), ns[j]? = some u → atI (ns.map V.int) (j : Int) = some (.int u) := fun j u h => atI_nat (by rw [List.getElem?_map, h]; rfl)
  have h3 : (3 : Nat) ≤ sizeLine := by omega
  refine ⟨_, (pss_cons (ps_set (i := 2) scPartAt.nd rfl (Or.inl rfl) (pe_call GS hr rfl mS kS bS .nil pass0 (pa_cons (pv 0) (pa_cons (pv 1) pa_nil))))
    (pss_cons (ps_if (pt_cmpR op_ge (pv 2) (pg_int _ gL) (nomark _)) (pss_one (ps_ret (pe_tup (pa_cons pe_str (pa_cons (pe_ix ix_list (pv 0) (pv 1) (fun _ _ => rfl)) (pa_cons (pv 2) pa_nil)))))) pss_nil)
    (pss_cons (ps_set (i := 3) scPartAt.nd rfl (Or.inl rfl) (pe_call GR hr rfl mR kR bR .nil pass0 (pa_cons (pv 0) (pa_cons (pv 1) pa_nil))))
    (pss_cons (ps_if (pt_cmpR op_ge (pv 3) (pg_int _ gL) (nomark _)) (pss_one (ps_ret (pe_tup (pa_cons pe_str (pa_cons (pe_ix ix_list (pv 0) (pv 1) (fun _ _ => rfl)) (pa_cons (pe_ix ix_list (pv 0) (pe_op op_sub (pe_op op_add (pv 1) (pv 3)) pe_int) (fun _ _ => rfl)) pa_nil)))))) pss_nil)
    (pss_one (ps_ret (pe_tup (pa_cons pe_str (pa_cons (pe_ix ix_list (pv 0) (pv 1) (fun _ _ => rfl)) pa_nil))))))))), ?_⟩
  refine seq (fun σ' H' => Same H H' ∧ σ' = [some (.ref a), some (.int k), some (.int (runN 0 v (ns.drop k) : Nat)), none]) (fun D' _ kk => ?_) ?_
  · exact ⟨_, rfl, _, rfl, a, ns, k, v, rfl, hS, hl, hv, fun H' sm => kk _ _ ⟨sm, rfl⟩⟩
  rintro σ1 H1 ⟨sm1, rfl⟩
  have hS1 := sm1.seq hS
  refine ⟨_, rfl, _, _, rfl, rfl, _, rfl, ite2 (fun c => ?_) (fun c => ?_)⟩
  · have c' : (3 : Int) ≤ (runN 0 v (ns.drop k) : Nat) := of_decide_eq_true c
    have ef : first v (ns.drop k) = .same v (runN 0 v (ns.drop k) : Nat) := if_pos (by omega)
    refine ⟨_, rfl, _, rfl, a, _, _, _, rfl, rfl, hS1, zat k v hv, _, rfl, h3, fun p hp => q p _ (sm1.trans (same_new hp _)) (sm1.free hp) ?_⟩
    rw [upd_same, ef]
    rfl
  have c0 : ¬ (3 : Int) ≤ (runN 0 v (ns.drop k) : Nat) := of_decide_eq_false (Bool.eq_false_iff.mpr c)
  dsimp only [tNext]
  refine seq (fun σ' H' => Same H H' ∧ σ' = [some (.ref a), some (.int k), some (.int (runN 0 v (ns.drop k) : Nat)), some (.int (runN 1 v (ns.drop k) : Nat))]) (fun D' _ kk => ?_) ?_
  · exact ⟨_, rfl, _, rfl, a, ns, k, v, rfl, hS1, hl, hv, fun H' sm => kk _ _ ⟨sm1.trans sm, rfl⟩⟩
  rintro σ2 H2 ⟨sm2, rfl⟩
  have hS2 := sm2.seq hS
  refine ⟨_, rfl, _, _, rfl, rfl, _, rfl, ite2 (fun c => ?_) (fun c => ?_)⟩
  · have c' : (3 : Int) ≤ (runN 1 v (ns.drop k) : Nat) := of_decide_eq_true c
    have ef : first v (ns.drop k) = .rise v (v + (runN 1 v (ns.drop k) : Nat) - 1) := (if_neg (by omega)).trans (if_pos (by omega))
    have z1 : atI (ns.map V.int) ((k : Int) + (runN 1 v (ns.drop k) : Nat) - 1) = some (.int (v + (runN 1 v (ns.drop k) : Nat) - 1)) := by
      rw [show (k : Int) + (runN 1 v (ns.drop k) : Nat) - 1 = ((k + (runN 1 v (ns.drop k) - 1) : Nat) : Int) by omega]
      refine zat _ _ ?_
      have := runN_at 1 (ns.drop k) v (runN 1 v (ns.drop k) - 1) (by omega)
      rw [List.getElem?_drop] at this
      rw [this]
      congr 1
      omega
    refine ⟨_, rfl, _, rfl, a, _, _, _, rfl, rfl, hS2, zat k v hv, _, rfl, _, rfl, _, rfl, _, _, rfl, rfl, _, _, rfl, rfl, a, _, _, _, rfl, rfl, hS2, z1, h3, fun p hp => q p _ (sm2.trans (same_new hp _)) (sm2.free hp) ?_⟩
    rw [upd_same, ef]
    rfl
  · have c1 : ¬ (3 : Int) ≤ (runN 1 v (ns.drop k) : Nat) := of_decide_eq_false (Bool.eq_false_iff.mpr c)
    have ef : first v (ns.drop k) = .one v := (if_neg (by omega)).trans (if_neg (by omega))
    refine ⟨_, rfl, _, rfl, a, _, _, _, rfl, rfl, hS2, zat k v hv, by show 2 ≤ sizeLine; omega, fun p hp => q p _ (sm2.trans (same_new hp _)) (sm2.free hp) ?_⟩
    rw [upd_same, ef]
    rfl
end
end Rp
namespace Rp
open PySem PySem.NumText L2 Fig
section
variable {P : Program} {w : World} {K : PySem.W.Frag} {mg : Str → Option Value} {base : Heap} {f : Addr} {fd : FuncData}
theorem scCount : FnScope ["part"] ["part"] (defScope sCount) := ⟨rfl, rfl, rfl, by decide +kernel, rfl, by decide +kernel, by decide +kernel⟩
theorem ok_count (F : Fun K "count_of" "count_of" sCount f fd) : FnOk P w K mg base CX0 1 f fd ["part"] (spCount K) := by
  refine F.ok scCount (fun vs H Q E h => ?_) (fun cdv A outer s H vs Q E hr h => ?_)
  · obtain ⟨t, p, rfl, _⟩ := h
    rfl
  obtain ⟨t, p, rfl, hT, q⟩ := h
  refine ⟨_, (pss_cons (ps_if (pt_cmpR op_eq (pe_ix ix_tup (pv 0) pe_int (fun _ _ => rfl)) pe_str (nomark _)) (pss_one (ps_ret (pe_ix ix_tup (pv 0) pe_int (fun _ _ => rfl)))) pss_nil)
    (pss_cons (ps_if (pt_cmpR op_eq (pe_ix ix_tup (pv 0) pe_int (fun _ _ => rfl)) pe_str (nomark _)) (pss_one (ps_ret (pe_op op_add (pe_op op_sub (pe_ix ix_tup (pv 0) pe_int (fun _ _ => rfl)) (pe_ix ix_tup (pv 0) pe_int (fun _ _ => rfl))) pe_int))) pss_nil)
    (pss_one (ps_ret pe_int)))), ?_⟩
  cases p with
  | same n k => exact ⟨_, rfl, t, _, 0, _, rfl, rfl, hT, rfl, rfl, _, rfl, ite_y d_ss ⟨_, rfl, t, _, 2, _, rfl, rfl, hT, rfl, q⟩⟩
  | rise a b => exact ⟨_, rfl, t, _, 0, _, rfl, rfl, hT, rfl, rfl, _, rfl, ite_n d_rs ⟨_, rfl, t, _, 0, _, rfl, rfl, hT, rfl, rfl, _, rfl, ite_y d_rr ⟨_, rfl, t, _, 2, _, rfl, rfl, hT, rfl, _, rfl, t, _, 1, _, rfl, rfl, hT, rfl, _, _, rfl, rfl, _, _, rfl, rfl, q⟩⟩⟩
  | one n => exact ⟨_, rfl, t, _, 0, _, rfl, rfl, hT, rfl, rfl, _, rfl, ite_n d_os ⟨_, rfl, t, _, 0, _, rfl, rfl, hT, rfl, rfl, _, rfl, ite_n d_or q⟩⟩
end
end Rp
namespace Rp
open PySem PySem.NumText L2 Fig
section
variable {P : Program} {w : World} {K : PySem.W.Frag} {mg : Str → Option Value} {base : Heap} {f : Addr} {fd : FuncData}
theorem scNumberIn : FnScope ["words"] ["words"] (defScope sNumberIn) := ⟨rfl, rfl, rfl, by decide +kernel, rfl, by decide +kernel, by decide +kernel⟩
theorem ok_numinX {cn cr : Addr} (F : Fun K "number_in" "number_in" sNumberIn f fd) (fN : RdyC P w K mg base 2 "number_of" ["words"] (spNum cn)) (mC : mg "NoNumber" = some (.ref cn)) (cc : CatchCls K cn) (sub : PySem.W.subIn K (.ref cn) (.ref cn) = some true) (mR : mg "NoRow" = some (.ref cr)) (ec : PySem.W.excIn K cr bmV "ValueError.__new__" = true) : FnOk P w K mg base (CXE P w) 3 f fd ["words"] (spNumInX cr) := by
  refine F.okH scNumberIn (fun vs H Q E h => ?_) (fun cdv A outer s H vs Q E hr h => ?_)
  · obtain ⟨z, rfl, _⟩ := h
    rfl
  obtain ⟨z, rfl, sm, q1, q2⟩ := h
  obtain ⟨aN, dN, GN, bN, kN, mN⟩ := fN
  have line := line_big
  refine ⟨_, psh_tryRaise rfl rfl GN hr rfl mN kN bN (pa_cons (pv 0) pa_nil) rfl mC cc rfl mR ec PySem.F.excBase_ValueError (fun a => pa_cons (pe_fmtR (by decide +kernel) (pv 0)) pa_nil), ?_⟩
  refine ⟨_, rfl, z, rfl, sm, fun hi H' s' => ?_, fun hi H' s' => ⟨⟨cn, rfl, sub⟩, _, rfl, z, rfl, sm, by show 1 ≤ sizeLine; omega, ?_⟩⟩
  · exact q1 _ (by unfold numIn; rw [if_pos hi]) H' s'
  · exact q2 (by unfold numIn; rw [if_neg (by rw [hi]; exact Bool.false_ne_true)]) H' s'
end
end Rp
namespace Rp
open PySem PySem.NumText L2 Fig
section
variable {P : Program} {w : World} {K : PySem.W.Frag} {mg : Str → Option Value} {base : Heap} {f : Addr} {fd : FuncData}
theorem scPartOf : FnScope ["words", "sides", "part"] ["words"] (defScope sPartOf) := ⟨rfl, rfl, rfl, by decide +kernel, rfl, by decide +kernel, by decide +kernel⟩
theorem sameOf_none1 {a b : List Nat} (h : numIn a = none) : sameOf a b = none := by unfold sameOf; rw [h]; rfl
theorem sameOf_none2 {a b : List Nat} {n : Int} (h : numIn a = some n) (h2 : numIn b = none) : sameOf a b = none := by unfold sameOf; rw [h, h2]; rfl
theorem sameOf_is {a b : List Nat} {n k : Int} (h : numIn a = some n) (h2 : numIn b = some k) : sameOf a b = if 3 ≤ k then some (.same n k) else none := by unfold sameOf; rw [h, h2]; rfl
theorem riseOf_none1 {a b : List Nat} (h : numIn a = none) : riseOf a b = none := by unfold riseOf; rw [h]; rfl
theorem riseOf_none2 {a b : List Nat} {n : Int} (h : numIn a = some n) (h2 : numIn b = none) : riseOf a b = none := by unfold riseOf; rw [h, h2]; rfl
theorem riseOf_is {a b : List Nat} {n k : Int} (h : numIn a = some n) (h2 : numIn b = some k) : riseOf a b = if n + 2 ≤ k then some (.rise n k) else none := by unfold riseOf; rw [h, h2]; rfl
theorem ok_partofX {cr : Addr} (F : Fun K "part_of" "part_of" sPartOf f fd) (gL : Least mg) (fN : RdyX P w K mg base 3 "number_in" ["words"] (spNumInX cr)) (fC : Rdy P w K mg base 1 "count_of" ["part"] (spCount K)) (mR : mg "NoRow" = some (.ref cr)) (ec : PySem.W.excIn K cr bmV "ValueError.__new__" = true) : FnOk P w K mg base (CXE P w) 4 f fd ["words"] (spPartOfX cr) := by
  refine F.okX scPartOf (fun vs H Q E h => ?_) (fun cdv A outer s H vs Q E hr h => ?_)
  · obtain ⟨z, rfl, _⟩ := h
    rfl
  obtain ⟨z, rfl, sm, q1, q2⟩ := h
  obtain ⟨aN, dN, GN, bN, kN, mN⟩ := fN
  obtain ⟨aC, dC, GC, bC, kC, mC⟩ := fC.up (show 1 ≤ 3 by decide)
  have line := line_big
  have hz := sm.1
  have h3 : (3 : Nat) ≤ sizeLine := by omega
  refine ⟨_, (psx_cons (psx_if (pt_cmpR op_in_str pe_str (pv 0) (by with_unfolding_all rfl)) (psx_cons (PS.x (ps_set (i := 1) scPartOf.nd rfl (Or.inl rfl) (pe_bm PySem.F.plainAttrs_str PySem.F.slot_str_partition PySem.F.type_str_partition mt_partition (pv 0) (pa_cons pe_str pa_nil)))) (psx_one (psx_set (i := 2) scPartOf.nd rfl (Or.inl rfl) (pex_tup (pax_cons (PE.x pe_str) (pax_cons (pex_call GN hr rfl mN kN bN .nil (pa_cons (pe_ix ix_tup (pv 1) pe_int (fun _ _ => rfl)) pa_nil)) (pax_cons (pex_call GN hr rfl mN kN bN .nil (pa_cons (pe_ix ix_tup (pv 1) pe_int (fun _ _ => rfl)) pa_nil)) pax_nil)))))))
      (psx_one (psx_if (pt_cmpR op_in_str pe_str (pv 0) (by with_unfolding_all rfl)) (psx_cons (PS.x (ps_set (i := 1) scPartOf.nd rfl (Or.inl rfl) (pe_bm PySem.F.plainAttrs_str PySem.F.slot_str_partition PySem.F.type_str_partition mt_partition (pv 0) (pa_cons pe_str pa_nil)))) (psx_one (psx_set (i := 2) scPartOf.nd rfl (Or.inl rfl) (pex_tup (pax_cons (PE.x pe_str) (pax_cons (pex_call GN hr rfl mN kN bN .nil (pa_cons (pe_ix ix_tup (pv 1) pe_int (fun _ _ => rfl)) pa_nil)) (pax_cons (pex_call GN hr rfl mN kN bN .nil (pa_cons (pe_ix ix_tup (pv 1) pe_int (fun _ _ => rfl)) pa_nil)) pax_nil)))))))
        (psx_one (psx_ret (pex_tup (pax_cons (PE.x pe_str) (pax_cons (pex_call GN hr rfl mN kN bN .nil (pa_cons (pv 0) pa_nil)) pax_nil))))))))
    (psx_cons (psx_if (pt_cmpR op_lt (pe_call GC hr rfl mC kC bC .nil pass0 (pa_cons (pv 2) pa_nil)) (pg_int _ gL) (nomark _)) (psx_one (psx_raise rfl rfl mR ec PySem.F.excBase_ValueError (pa_cons (pe_fmtR (by decide +kernel) (pv 0)) pa_nil))) psx_nil)
    (psx_one (PS.x (ps_ret (pv 2)))))), ?_⟩
  unfold parse at q1 q2
  rcases part_x z with ⟨h1, h2⟩ | ⟨h1, h2⟩
  · rw [h2] at q1 q2
    dsimp only at q1 q2
    obtain ⟨s1, s2⟩ := part_small (y := ex) sm
    refine ⟨_, rfl, _, _, rfl, rfl, _, rfl, ite_y h1 ⟨_, rfl, rfl, z, _, rfl, rfl, rfl, by omega, fun p hp0 => ?_⟩⟩
    refine ⟨_, rfl, p, _, 0, _, rfl, rfl, SqT.of upd_same, rfl, _, rfl, s1, fun n e1 H2 m2 => ⟨_, rfl, p, _, 2, _, rfl, rfl, SqT.of (m2 _ _ upd_same), rfl, _, rfl, s2, fun k e2 H3 m3 => ⟨h3, fun t ht => ?_⟩, fun e2 H3 m3 => ?_⟩, fun e1 H2 m2 => ?_⟩
    · have m : Same H H3 := ((same_new hp0 _).trans m2).trans m3
      rw [sameOf_is e1 e2] at q1 q2
      refine ⟨_, rfl, t, .same n k, rfl, SqT.of upd_same, _, _, rfl, rfl, _, rfl, ite2 (fun c => ?_) (fun c => ?_)⟩
      · have c' : k < 3 := of_decide_eq_true c
        exact ⟨_, rfl, z, rfl, sm, by show 1 ≤ sizeLine; omega, q2 (if_neg (by omega)) _ (m.trans (same_new ht _))⟩
      · have c' : ¬ k < 3 := of_decide_eq_false (Bool.eq_false_iff.mpr c)
        exact ⟨_, rfl, q1 _ (if_pos (by omega)) t _ (m.trans (same_new ht _)) (m.free ht) upd_same⟩
    · exact q2 (sameOf_none2 e1 e2) _ (((same_new hp0 _).trans m2).trans m3)
    · exact q2 (sameOf_none1 e1) _ ((same_new hp0 _).trans m2)
  · rw [h2] at q1 q2
    dsimp only at q1 q2
    rcases part_dots z with ⟨h4, h5⟩ | ⟨h4, h5⟩
    · rw [h5] at q1 q2
      dsimp only at q1 q2
      obtain ⟨s1, s2⟩ := part_small (y := dots) sm
      refine ⟨_, rfl, _, _, rfl, rfl, _, rfl, ite_n h1 ⟨_, rfl, _, _, rfl, rfl, _, rfl, ite_y h4 ⟨_, rfl, rfl, z, _, rfl, rfl, rfl, by omega, fun p hp0 => ?_⟩⟩⟩
      refine ⟨_, rfl, p, _, 0, _, rfl, rfl, SqT.of upd_same, rfl, _, rfl, s1, fun n e1 H2 m2 => ⟨_, rfl, p, _, 2, _, rfl, rfl, SqT.of (m2 _ _ upd_same), rfl, _, rfl, s2, fun k e2 H3 m3 => ⟨h3, fun t ht => ?_⟩, fun e2 H3 m3 => ?_⟩, fun e1 H2 m2 => ?_⟩
      · have m : Same H H3 := ((same_new hp0 _).trans m2).trans m3
        rw [riseOf_is e1 e2] at q1 q2
        refine ⟨_, rfl, t, .rise n k, rfl, SqT.of upd_same, _, _, rfl, rfl, _, rfl, ite2 (fun c => ?_) (fun c => ?_)⟩
        · have c' : k - n + 1 < 3 := of_decide_eq_true c
          exact ⟨_, rfl, z, rfl, sm, by show 1 ≤ sizeLine; omega, q2 (if_neg (by omega)) _ (m.trans (same_new ht _))⟩
        · have c' : ¬ k - n + 1 < 3 := of_decide_eq_false (Bool.eq_false_iff.mpr c)
          exact ⟨_, rfl, q1 _ (if_pos (by omega)) t _ (m.trans (same_new ht _)) (m.free ht) upd_same⟩
      · exact q2 (riseOf_none2 e1 e2) _ (((same_new hp0 _).trans m2).trans m3)
      · exact q2 (riseOf_none1 e1) _ ((same_new hp0 _).trans m2)
    · rw [h5] at q1 q2
      dsimp only at q1 q2
      refine ⟨_, rfl, _, _, rfl, rfl, _, rfl, ite_n h1 ⟨_, rfl, _, _, rfl, rfl, _, rfl, ite_n h4 ⟨_, rfl, z, rfl, sm, fun n e H2 m2 => ⟨by show 2 ≤ sizeLine; omega, fun t ht => ?_⟩, fun e H2 m2 => ?_⟩⟩⟩
      · exact q1 (.one n) (by rw [e]; rfl) t _ (m2.trans (same_new ht _)) (m2.free ht) upd_same
      · exact q2 (by rw [e]; rfl) _ m2
end
end Rp
namespace Rp
open PySem PySem.NumText L2 Fig
section
variable {P : Program} {w : World} {K : PySem.W.Frag} {mg : Str → Option Value} {base : Heap} {f : Addr} {fd : FuncData}
theorem scPartsOf : FnScope ["line"] ["line"] (defScope sPartsOf) := ⟨rfl, rfl, rfl, by decide +kernel, rfl, by decide +kernel, by decide +kernel⟩
theorem ok_partsX {cr : Addr} (F : Fun K "parts_of" "parts_of" sPartsOf f fd) (fP : RdyX P w K mg base 4 "part_of" ["words"] (spPartOfX cr)) : FnOk P w K mg base (CXE P w) 5 f fd ["line"] (spPartsX cr) := by
  refine F.okH scPartsOf (fun vs H Q E h => ?_) (fun cdv A outer s H vs Q E hr h => ?_)
  · obtain ⟨z, rfl, _⟩ := h
    rfl
  obtain ⟨z, rfl, sm, q1, q2⟩ := h
  obtain ⟨aP, dP, GP, bP, kP, mP⟩ := fP
  have line := line_big
  have hz := sm.1
  refine ⟨_, psh_cons (ps_if (pt_cmpR op_eq (pv 0) pe_str (nomark _)) (pss_one (ps_ret (pe_lst pa_nil))) pss_nil) (psh_comp rfl rfl rfl (pi_list (pe_bm PySem.F.plainAttrs_str PySem.F.slot_str_split PySem.F.type_str_split mt_split (pv 0) (pa_cons pe_str pa_nil))) (compOk0 (by decide +kernel)) (fun C fp s2 H2 => pex_call GP hr rfl mP kP bP .nil (pa_cons (pv 0) pa_nil))), ?_⟩
  unfold readT at q1 q2
  refine ⟨_, rfl, rfl, _, rfl, ite2 (fun c => ?_) (fun c => ?_)⟩
  · rw [dec_str_codes, decide_eq_true_iff, show (Str.ofString "").cps.toList = [] by decide +kernel] at c
    rw [if_pos c] at q1
    exact ⟨Nat.zero_le _, fun l hl => q1 [] rfl l _ (same_new hl _) hl ⟨[], upd_same, rfl, fun i r q' e _ => by simp at e⟩⟩
  have c' : ¬ z.cps.toList = [] := fun e => c (by rw [dec_str_codes, show (Str.ofString "").cps.toList = [] by decide +kernel]; exact decide_eq_true e)
  rw [if_neg c'] at q1 q2
  have sp := txt_split z 32
  rw [← sp] at q1 q2
  have hspl := PyProof.Rows.split_le z (Str.ofString " ")
  rw [lit_blank] at hspl
  have wd : ∀ (i : Nat) (y : Str), (Txt.split z ⟨#[32]⟩)[i]? = some y → Small y := fun i y e => by
    have hm : y.cps.toList ∈ splitC 32 z.cps.toList := by
      rw [← sp]
      exact List.mem_map.mpr ⟨y, List.mem_of_getElem? e, rfl⟩
    have := split_mem 32 z.cps.toList _ hm
    rw [txt_len, txt_len] at this
    exact ⟨Nat.le_trans this.1 hz, fun x hx => sm.2 x (this.2 x hx)⟩
  dsimp only [tNext]
  refine ⟨_, rfl, rfl, z, _, rfl, rfl, rfl, by omega, fun p hp0 => ⟨p, rfl, ⟨_, SqL.of upd_same⟩, fun D hD => ?_⟩⟩
  have eb : (Txt.split z (Str.ofString " ")).map V.str = (Txt.split z ⟨#[32]⟩).map V.str := by rw [lit_blank]
  have nD : p ≠ D := ne_of_none (upd_same (H := H) (a := p) (o := .lst ((Txt.split z (Str.ofString " ")).map V.str))) hD
  have hDn : H D = none := (same_new hp0 _).free hD
  refine lc_listG (telt := fun σ H Q => xCall (spPartOfX cr) [] (tCons (tVar 0) tNil) σ H Q E) (a := p) (xs := (Txt.split z ⟨#[32]⟩).map V.str) (fun i ys Hk => i ≤ (Txt.split z ⟨#[32]⟩).length ∧ Same H Hk ∧ Hk p = some (.lst ((Txt.split z ⟨#[32]⟩).map V.str)) ∧ ∃ (rs : List Addr) (qs : List Part), parseAll (((Txt.split z ⟨#[32]⟩).take i).map fun y => y.cps.toList) = some qs ∧ ys = rs.map V.ref ∧ TupsAt Hk rs qs ∧ Hk D = some (.lst ys)) (by rw [List.length_map]; omega) ?_ ?_ ?_ ?_
  · refine ⟨Nat.zero_le _, (same_new hp0 _).trans (same_new hD _), ?_, [], [], rfl, rfl, ⟨rfl, fun i r q' e _ => by simp at e⟩, upd_same⟩
    rw [upd_ne nD, upd_same, eb]
  · rintro i ys Hk ⟨hi, _, hpk, rs, qs, hq, rfl, ht, _⟩
    refine ⟨SqL.of hpk, ?_⟩
    have := parseAll_len hq
    rw [List.length_map, List.length_take] at this
    rw [List.length_map, ht.1]
    omega
  · rintro i x ys Hk hx ⟨hi, smk, hpk, rs, qs, hq, rfl, ht, hDk⟩
    rw [List.getElem?_map] at hx
    cases ey : (Txt.split z ⟨#[32]⟩)[i]? with
    | none => rw [ey] at hx; cases hx
    | some y =>
      rw [ey] at hx
      cases hx
      have hil := (List.getElem?_eq_some_iff.mp ey).1
      have sn : ∀ o, parse y.cps.toList = o → parseAll (((Txt.split z ⟨#[32]⟩).take (i + 1)).map fun y => y.cps.toList) = o.map fun p => qs ++ [p] := fun o ho => by
        rw [List.take_add_one, ey, List.map_append]
        show parseAll (_ ++ [y.cps.toList]) = _
        rw [parseAll_snoc, hq, ← ho]
        rfl
      refine ⟨_, rfl, y, rfl, wd i y ey, fun pt hpt t H2 m2 ht0 ht2 => ⟨m2 _ _ hDk, hil, ?_, ?_, rs ++ [t], qs ++ [pt], sn _ hpt, by rw [List.map_append]; rfl, ((ht.same m2).push ht2).upd (m2 _ _ hDk), upd_same⟩, fun hpt H2 m2 => q2 ?_ H2 (smk.trans m2)⟩
      · intro b u hbu
        rw [upd_ne (ne_of_none hbu hDn)]
        exact m2 b u (smk b u hbu)
      · rw [upd_ne nD]
        exact m2 _ _ hpk
      · exact parseAll_bad (List.mem_map.mpr ⟨y, List.mem_of_getElem? ey, rfl⟩) hpt
  · rintro ys Hk ⟨hi, smk, hpk, rs, qs, hq, rfl, ht, hDk⟩
    rw [List.length_map, List.take_length] at hq
    exact q1 qs hq D Hk smk hDn ⟨rs, hDk, ht.1, ht.2⟩
end
end Rp
namespace Rp
open PySem PySem.NumText L2 Fig
section
variable {P : Program} {w : World} {K : PySem.W.Frag} {mg : Str → Option Value} {base : Heap} {f : Addr} {fd : FuncData}
theorem scNumbers : FnScope ["part"] ["part"] (defScope sNumbersOf) := ⟨rfl, rfl, rfl, by decide +kernel, rfl, by decide +kernel, by decide +kernel⟩
theorem ok_numbers (F : Fun K "numbers_of" "numbers_of" sNumbersOf f fd) (g : GB mg) : FnOk P w K mg base CX0 1 f fd ["part"] (spNumbers K) := by
  refine F.ok scNumbers (fun vs H Q E h => ?_) (fun cdv A outer s H vs Q E hr h => ?_)
  · obtain ⟨t, p, rfl, _⟩ := h
    rfl
  obtain ⟨t, p, rfl, hT, ok, hl, q⟩ := h
  have line := line_big
  refine ⟨_, (pss_cons (ps_if (pt_cmpR op_eq (pe_ix ix_tup (pv 0) pe_int (fun _ _ => rfl)) pe_str (nomark _)) (pss_one (ps_ret (pe_op op_rep (pe_lst (pa_cons (pe_ix ix_tup (pv 0) pe_int (fun _ _ => rfl)) pa_nil)) (pe_ix ix_tup (pv 0) pe_int (fun _ _ => rfl))))) pss_nil)
    (pss_cons (ps_if (pt_cmpR op_eq (pe_ix ix_tup (pv 0) pe_int (fun _ _ => rfl)) pe_str (nomark _)) (pss_one (ps_ret (pe_callTy (call_list_rng rfl) rfl g.list b_list (pa_cons (pe_callTy call_rng rfl g.range b_range (pa_cons (pe_ix ix_tup (pv 0) pe_int (fun _ _ => rfl)) (pa_cons (pe_op op_add (pe_ix ix_tup (pv 0) pe_int (fun _ _ => rfl)) pe_int) pa_nil))) pa_nil)))) pss_nil)
    (pss_one (ps_ret (pe_lst (pa_cons (pe_ix ix_tup (pv 0) pe_int (fun _ _ => rfl)) pa_nil)))))), ?_⟩
  cases p with
  | same n k =>
    have hk : 3 ≤ k := ok
    have hl' : (List.replicate k.toNat n).length ≤ 100000 := hl
    rw [List.length_replicate] at hl'
    refine ⟨_, rfl, t, _, 0, _, rfl, rfl, hT, rfl, rfl, _, rfl, ite_y d_ss ⟨_, rfl, t, _, 1, _, rfl, rfl, hT, rfl, by show 1 ≤ sizeLine; omega, fun l1 hl1 => ⟨_, rfl, t, _, 2, _, rfl, rfl, sqT_same (same_new hl1 _) hT, rfl, l1, k, _, rfl, rfl, upd_same, by omega, by omega, by show 1 * k.toNat ≤ sizeLine; omega, fun l2 hl2 => q l2 _ ((same_new hl1 _).trans (same_new hl2 _)) ((same_new hl1 _).free hl2) ?_⟩⟩⟩
    rw [upd_same, rep_ints]
    rfl
  | rise a b =>
    have hk : a + 2 ≤ b := ok
    have hl' : ((List.range (b - a + 1).toNat).map fun i : Nat => a + (i : Int)).length ≤ 100000 := hl
    rw [List.length_map, List.length_range] at hl'
    refine ⟨_, rfl, t, _, 0, _, rfl, rfl, hT, rfl, rfl, _, rfl, ite_n d_rs ⟨_, rfl, t, _, 0, _, rfl, rfl, hT, rfl, rfl, _, rfl, ite_y d_rr ⟨_, rfl, t, _, 1, _, rfl, rfl, hT, rfl, _, rfl, t, _, 2, _, rfl, rfl, hT, rfl, _, _, rfl, rfl, _, _, rfl, fun p hp => ⟨p, _, _, rfl, upd_same, by omega, fun l hl2 => q l _ ((same_new hp _).trans (same_new hl2 _)) ((same_new hp _).free hl2) ?_⟩⟩⟩⟩
    rw [upd_same]
    show some (HO.lst ((List.range (b + 1 - a).toNat).map fun k : Nat => V.int (a + (k : Int)))) = some (HO.lst (((List.range (b - a + 1).toNat).map fun i : Nat => a + (i : Int)).map V.int))
    rw [List.map_map, show b + 1 - a = b - a + 1 by omega]
    rfl
  | one n =>
    exact ⟨_, rfl, t, _, 0, _, rfl, rfl, hT, rfl, rfl, _, rfl, ite_n d_os ⟨_, rfl, t, _, 0, _, rfl, rfl, hT, rfl, rfl, _, rfl, ite_n d_or ⟨_, rfl, t, _, 1, _, rfl, rfl, hT, rfl, by show 1 ≤ sizeLine; omega, fun l hl2 => q l _ (same_new hl2 _) hl2 upd_same⟩⟩⟩
end
end Rp
namespace Rp
open PySem PySem.NumText L2 Fig
section
variable {P : Program} {w : World} {K : PySem.W.Frag} {mg : Str → Option Value} {base : Heap} {f : Addr} {fd : FuncData}
theorem scRead : FnScope ["line", "row", "part"] ["line"] (defScope sRead) := ⟨rfl, rfl, rfl, by decide +kernel, rfl, by decide +kernel, by decide +kernel⟩
theorem seqX {t u : TSX} {D : Ends} {E EM : XQ} {σ : St} {H : Hp} (R : St → Hp → Prop) (h : ∀ D' : Ends, D'.rt = D.rt → (∀ σ' H', R σ' H' → D'.nx σ' H') → t D' E EM σ H) (q : ∀ σ' H', R σ' H' → u D E EM σ' H') : xSeq t u D E EM σ H := h { D with nx := fun σ' H' => u D E EM σ' H' } rfl q
theorem ok_readX {cr : Addr} (F : Fun K "read" "read" sRead f fd) (fP : RdyX P w K mg base 5 "parts_of" ["line"] (spPartsX cr)) (fN : Rdy P w K mg base 1 "numbers_of" ["part"] (spNumbers K)) : FnOk P w K mg base (CXE P w) 6 f fd ["line"] (spRead cr) := by
  refine F.okX scRead (fun vs H Q E h => ?_) (fun cdv A outer s H vs Q E hr h => ?_)
  · obtain ⟨z, rfl, _⟩ := h
    rfl
  obtain ⟨z, rfl, sm, q1, q2⟩ := h
  obtain ⟨aP, dP, GP, bP, kP, mP⟩ := fP
  obtain ⟨aN, dN, GN, bN, kN, mN⟩ := fN.up (show 1 ≤ 5 by decide)
  have line := line_big
  refine ⟨_, psx_cons (PS.x (ps_set (i := 1) scRead.nd rfl (Or.inl rfl) (pe_lst pa_nil)))
    (psx_cons (psx_for rfl (pix_list (pex_call GP hr rfl mP kP bP .nil (pa_cons (pv 0) pa_nil))) (pg_name (i := 2) scRead.nd rfl (Or.inl rfl))
      (pss_one (ps_expr (pe_bm PySem.F.plainAttrs_list PySem.F.slot_list_extend PySem.F.type_list_extend mt_extend (pv 1) (pa_cons (pe_call GN hr rfl mN kN bN .nil pass0 (pa_cons (pv 2) pa_nil)) pa_nil)))))
    (psx_one (PS.x (ps_ret (pv 1))))), ?_⟩
  refine seqX (fun σ' H' => ∃ l : Addr, σ' = [some (.str z), some (.ref l), none] ∧ H l = none ∧ H' = upd H l (.lst [])) (fun D' _ kk => ?_) ?_
  · exact ⟨Nat.zero_le _, fun l hl0 => kk _ _ ⟨l, rfl, hl0, rfl⟩⟩
  rintro σ0 H0 ⟨l, rfl, hl0, rfl⟩
  refine seqX (fun σ' H' => ∃ (d : Option V) (ps : List Part), readT z.cps.toList = some ps ∧ σ' = [some (.str z), some (.ref l), d] ∧ Same H H' ∧ H' l = some (.lst ((valsAll ps).map V.int))) (fun D' _ kk => ?_) ?_
  · refine ⟨_, rfl, z, rfl, sm, fun ps hp p H2 m2 hp0 hpa => ⟨p, rfl, ?_⟩, fun hp H2 m2 => q2 hp H2 ((same_new hl0 _).trans m2)⟩
    have hl := (q1 ps hp).1
    have okP : ∀ (i : Nat) (r : Part), ps[i]? = some r → r.ok := fun i r e => by
      have hp' := hp
      unfold readT at hp'
      split at hp'
      · cases hp'
        simp at e
      · obtain ⟨hlen, hget⟩ := parseAll_get hp'
        obtain ⟨hi, _⟩ := List.getElem?_eq_some_iff.mp e
        obtain ⟨p, hp1, hp2⟩ := hget i _ (List.getElem?_eq_getElem (by omega))
        rw [e] at hp2
        cases hp2
        exact ok_of_parse hp1
    obtain ⟨rs, hr2, hlen, htup⟩ := hpa
    have hl2 : H2 l = some (.lst []) := m2 _ _ upd_same
    have npl : p ≠ l := fun e => by rw [e, upd_same] at hp0; cases hp0
    refine ⟨⟨_, SqL.of hr2⟩, ?_⟩
    refine for_list (xs := rs.map V.ref) (fun i σ H' => i ≤ ps.length ∧ ∃ d : Option V, σ = [some (.str z), some (.ref l), d] ∧ (∀ b o, b ≠ l → H2 b = some o → H' b = some o) ∧ H' l = some (.lst ((valsAll (ps.take i)).map V.int))) ?_ ?_ ?_ ?_
    · exact ⟨Nat.zero_le _, _, rfl, fun b o _ e => e, hl2⟩
    · rintro i σ H' _ ⟨_, d, rfl, kp, _⟩
      exact SqL.of (kp _ _ npl hr2)
    · rintro i x σ H' hx ⟨hi, d, rfl, kp, hv⟩
      rw [List.getElem?_map] at hx
      cases er : rs[i]? with
      | none => rw [er] at hx; cases hx
      | some r =>
        rw [er] at hx
        cases hx
        obtain ⟨hir, _⟩ := List.getElem?_eq_some_iff.mp er
        have hip : i < ps.length := by omega
        have epi : ps[i]? = some ps[i] := List.getElem?_eq_getElem hip
        have ht := htup i r _ er epi
        have nrl : r ≠ l := ne_of ht hl2 (fun w => by cases w)
        have vt : valsAll (ps.take (i + 1)) = valsAll (ps.take i) ++ ps[i].vals := by rw [List.take_add_one, epi]; exact vals_push _ _
        have vl : (valsAll (ps.take (i + 1))).length ≤ (valsAll ps).length := by
          have e : ps = ps.take (i + 1) ++ ps.drop (i + 1) := (List.take_append_drop _ _).symm
          conv => rhs; rw [e]
          unfold valsAll
          rw [List.flatMap_append, List.length_append]
          exact Nat.le_add_right _ _
        rw [vt, List.length_append] at vl
        refine ⟨_, rfl, .inl ⟨rfl, _, SqL.of hv⟩, _, rfl, r, ps[i], rfl, SqT.of (kp _ _ nrl ht), okP i _ epi, by omega, fun lb Hb mb hb0 hb => ⟨l, lb, _, _, rfl, rfl, mb _ _ hv, hb, by rw [List.length_map, List.length_map]; omega, ?_⟩⟩
        refine ⟨hip, _, rfl, fun b o hb' e => by rw [upd_ne hb']; exact mb _ _ (kp b o hb' e), ?_⟩
        rw [upd_same, vt, List.map_append]
    · rintro σ H' ⟨_, d, rfl, kp, hv⟩
      rw [List.length_map, hlen, List.take_length] at hv
      refine kk _ _ ⟨d, ps, hp, rfl, fun b o e => kp b o (ne_of_none e hl0) (m2 b o (by rw [upd_ne (ne_of_none e hl0)]; exact e)), hv⟩
  rintro σ3 H3 ⟨d, ps, hp, rfl, m3, hv⟩
  exact ⟨_, rfl, (q1 ps hp).2 l H3 m3 hl0 hv⟩
end
end Rp
namespace Rp
open PySem PySem.NumText L2 Fig
section
variable {P : Program} {w : World} {K : PySem.W.Frag} {mg : Str → Option Value} {base : Heap} {f : Addr} {fd : FuncData}
theorem scMany : FnScope ["line"] ["line"] (defScope sManyIn) := ⟨rfl, rfl, rfl, by decide +kernel, rfl, by decide +kernel, by decide +kernel⟩
theorem many_sum (ps : List Part) : manyAll ps = (ps.map Part.many).sum := by
  unfold manyAll
  have key : ∀ (l : List Part) (m : Int), l.foldl (fun m p => m + p.many) m = m + (l.map Part.many).sum := fun l => by
    induction l with
    | nil => intro m; simp
    | cons p r ih => intro m; rw [List.foldl_cons, ih, List.map_cons, List.sum_cons, Int.add_assoc]
  rw [key, Int.zero_add]
theorem ok_manyX {cr : Addr} (F : Fun K "many_in" "many_in" sManyIn f fd) (gs : mg "sum" = none) (fP : RdyX P w K mg base 5 "parts_of" ["line"] (spPartsX cr)) (fC : Rdy P w K mg base 1 "count_of" ["part"] (spCount K)) : FnOk P w K mg base (CXE P w) 6 f fd ["line"] (spMany cr) := by
  refine F.okX scMany (fun vs H Q E h => ?_) (fun cdv A outer s H vs Q E hr h => ?_)
  · obtain ⟨z, rfl, _⟩ := h
    rfl
  obtain ⟨z, rfl, sm, q1, q2⟩ := h
  obtain ⟨aP, dP, GP, bP, kP, mP⟩ := fP
  obtain ⟨aC, dC, GC, bC, kC, mC⟩ := fC.up (show 1 ≤ 5 by decide)
  have line := line_big
  refine ⟨_, psx_one (psx_ret (pex_callB (call_sum_ints rfl) rfl gs b_sum (pax_cons (pex_comp rfl rfl rfl (pix_list (pex_call GP hr rfl mP kP bP .nil (pa_cons (pv 0) pa_nil))) (compOk0 (by decide +kernel)) (fun C fp s2 H2 => pe_call GC hr rfl mC kC bC .nil pass0 (pa_cons (pv 0) pa_nil))) pax_nil))), ?_⟩
  refine ⟨_, rfl, z, rfl, sm, fun ps hp p H2 m2 hp0 hpa => ?_, fun hp H2 m2 => q2 hp H2 m2⟩
  have hn : ps.length ≤ 100002 := by
    have hp' := hp
    unfold readT at hp'
    split at hp'
    · cases hp'
      exact Nat.zero_le _
    · obtain ⟨hlen, _⟩ := parseAll_get hp'
      rw [← txt_split, List.length_map] at hlen
      have h1 := PyProof.Rows.split_le z ⟨#[32]⟩
      have h2 := sm.1
      omega
  obtain ⟨rs, hr2, hlen, htup⟩ := hpa
  refine ⟨p, rfl, ⟨_, SqL.of hr2⟩, fun D hD => ?_⟩
  refine lc_listG (telt := tCall (spCount K) [] E0 (tCons (tVar 0) tNil)) (Q := fun v H' => ∃ (p : Addr) (ns : List Int), [v] = [V.ref p] ∧ SqL K H' p (ns.map V.int) ∧ Q (.int ns.sum) H') (a := p) (xs := rs.map V.ref) (fun i ys Hk => i ≤ ps.length ∧ Same H2 Hk ∧ ys = ((ps.take i).map Part.many).map V.int ∧ Hk D = some (.lst ys)) (by rw [List.length_map]; omega) ?_ ?_ ?_ ?_
  · exact ⟨Nat.zero_le _, same_new hD _, rfl, upd_same⟩
  · rintro i ys Hk ⟨hi, mk, rfl, _⟩
    refine ⟨SqL.of (mk _ _ hr2), ?_⟩
    rw [List.length_map, List.length_map, List.length_take]
    omega
  · rintro i x ys Hk hx ⟨hi, mk, rfl, hDk⟩
    rw [List.getElem?_map] at hx
    cases er : rs[i]? with
    | none => rw [er] at hx; cases hx
    | some r =>
      rw [er] at hx
      cases hx
      obtain ⟨hir, _⟩ := List.getElem?_eq_some_iff.mp er
      have hip : i < ps.length := by omega
      have epi : ps[i]? = some ps[i] := List.getElem?_eq_getElem hip
      refine ⟨_, rfl, r, ps[i], rfl, SqT.of (mk _ _ (htup i r _ er epi)), hDk, hip, fun b o e => ?_, ?_, upd_same⟩
      · rw [upd_ne (ne_of_none e hD)]
        exact mk b o e
      · rw [List.take_add_one, epi, List.map_append, List.map_append]
        rfl
  · rintro ys Hk ⟨hi, mk, rfl, hDk⟩
    rw [List.length_map, hlen, List.take_length] at hDk
    refine ⟨D, ps.map Part.many, rfl, SqL.of hDk, ?_⟩
    rw [← many_sum]
    exact q1 ps hp _ (m2.trans mk)
end
end Rp
namespace Rp
open PySem PySem.NumText L2 Fig
section
variable {P : Program} {w : World} {K : PySem.W.Frag} {mg : Str → Option Value} {base : Heap} {f : Addr} {fd : FuncData}
theorem scFirstTwo : FnScope ["part"] ["part"] (defScope sFirstTwo) := ⟨rfl, rfl, rfl, by decide +kernel, rfl, by decide +kernel, by decide +kernel⟩
theorem ok_first (F : Fun K "first_two" "first_two" sFirstTwo f fd) : FnOk P w K mg base CX0 1 f fd ["part"] (spTwo K) := by
  refine F.ok scFirstTwo (fun vs H Q E h => ?_) (fun cdv A outer s H vs Q E hr h => ?_)
  · obtain ⟨t, p, rfl, _⟩ := h
    rfl
  obtain ⟨t, p, rfl, hT, q⟩ := h
  have line := line_big
  refine ⟨_, (pss_cons (ps_if (pt_cmpR op_eq (pe_ix ix_tup (pv 0) pe_int (fun _ _ => rfl)) pe_str (nomark _)) (pss_one (ps_ret (pe_lst (pa_cons (pe_ix ix_tup (pv 0) pe_int (fun _ _ => rfl)) (pa_cons (pe_ix ix_tup (pv 0) pe_int (fun _ _ => rfl)) pa_nil))))) pss_nil)
    (pss_cons (ps_if (pt_cmpR op_eq (pe_ix ix_tup (pv 0) pe_int (fun _ _ => rfl)) pe_str (nomark _)) (pss_one (ps_ret (pe_lst (pa_cons (pe_ix ix_tup (pv 0) pe_int (fun _ _ => rfl)) (pa_cons (pe_op op_add (pe_ix ix_tup (pv 0) pe_int (fun _ _ => rfl)) pe_int) pa_nil))))) pss_nil)
    (pss_one (ps_ret (pe_lst (pa_cons (pe_ix ix_tup (pv 0) pe_int (fun _ _ => rfl)) pa_nil)))))), ?_⟩
  cases p with
  | same n k => exact ⟨_, rfl, t, _, 0, _, rfl, rfl, hT, rfl, rfl, _, rfl, ite_y d_ss ⟨_, rfl, t, _, 1, _, rfl, rfl, hT, rfl, _, rfl, t, _, 1, _, rfl, rfl, hT, rfl, by show 2 ≤ sizeLine; omega, fun l hl => q l _ (same_new hl _) hl upd_same⟩⟩
  | rise a b => exact ⟨_, rfl, t, _, 0, _, rfl, rfl, hT, rfl, rfl, _, rfl, ite_n d_rs ⟨_, rfl, t, _, 0, _, rfl, rfl, hT, rfl, rfl, _, rfl, ite_y d_rr ⟨_, rfl, t, _, 1, _, rfl, rfl, hT, rfl, _, rfl, t, _, 1, _, rfl, rfl, hT, rfl, _, _, rfl, rfl, by show 2 ≤ sizeLine; omega, fun l hl => q l _ (same_new hl _) hl upd_same⟩⟩⟩
  | one n => exact ⟨_, rfl, t, _, 0, _, rfl, rfl, hT, rfl, rfl, _, rfl, ite_n d_os ⟨_, rfl, t, _, 0, _, rfl, rfl, hT, rfl, rfl, _, rfl, ite_n d_or ⟨_, rfl, t, _, 1, _, rfl, rfl, hT, rfl, by show 1 ≤ sizeLine; omega, fun l hl => q l _ (same_new hl _) hl upd_same⟩⟩⟩
end
end Rp
namespace Rp
open PySem PySem.NumText L2 Fig
section
variable {P : Program} {w : World} {K : PySem.W.Frag} {mg : Str → Option Value} {base : Heap} {f : Addr} {fd : FuncData}
theorem scTwoBehind : FnScope ["parts", "at", "numbers", "part"] ["parts", "at"] (defScope sTwoBehind) := ⟨rfl, rfl, rfl, by decide +kernel, rfl, by decide +kernel, by decide +kernel⟩
theorem two_le (p : Part) : p.two.length ≤ 2 := by cases p <;> simp [Part.two]
theorem ok_behind (F : Fun K "two_behind" "two_behind" sTwoBehind f fd) (fF : Rdy P w K mg base 1 "first_two" ["part"] (spTwo K)) : FnOk P w K mg base CX0 2 f fd ["parts", "at"] spBehind := by
  refine F.ok scTwoBehind (fun vs H Q E h => ?_) (fun cdv A outer s H vs Q E hr h => ?_)
  · obtain ⟨a, ps, k, rfl, _⟩ := h
    rfl
  obtain ⟨a, ps, k, rfl, hP, hk, hl, q⟩ := h
  obtain ⟨aF, dF, GF, bF, kF, mF⟩ := fF
  have line := line_big
  refine ⟨_, (pss_cons (ps_set (i := 2) scTwoBehind.nd rfl (Or.inl rfl) (pe_lst pa_nil))
    (pss_cons (ps_for PassesOwn.never rfl (pi_list (pe_slice sl_list (pv 0) (po_some (pe_op op_add (pv 1) pe_int)) (po_some (pe_op op_add (pv 1) pe_int)))) (pg_name (i := 3) scTwoBehind.nd rfl (Or.inl rfl))
      (pss_one (ps_expr (pe_bm PySem.F.plainAttrs_list PySem.F.slot_list_extend PySem.F.type_list_extend mt_extend (pv 2) (pa_cons (pe_call GF hr rfl mF kF bF .nil pass0 (pa_cons (pv 3) pa_nil)) pa_nil)))))
    (pss_one (ps_ret (pe_slice sl_list (pv 2) po_none (po_some pe_int)))))), ?_⟩
  refine seq (fun σ' H' => ∃ l : Addr, σ' = [some (.ref a), some (.int k), some (.ref l), none] ∧ H l = none ∧ H' = upd H l (.lst [])) (fun D' _ kk => ?_) ?_
  · exact ⟨Nat.zero_le _, fun l hl0 => kk _ _ ⟨l, rfl, hl0, rfl⟩⟩
  rintro σ0 H0 ⟨l, rfl, hl0, rfl⟩
  obtain ⟨rs, hr2, hlen, htup⟩ := hP
  have sm0 : Same H (upd H l (.lst [])) := same_new hl0 _
  refine seq (fun σ' H' => ∃ d : Option V, σ' = [some (.ref a), some (.int k), some (.ref l), d] ∧ Same H H' ∧ H' l = some (.lst ((((ps.drop (k + 1)).take 2).flatMap Part.two).map V.int))) (fun D' _ kk => ?_) ?_
  · refine ⟨_, rfl, _, rfl, _, _, rfl, rfl, _, rfl, _, rfl, _, _, rfl, rfl, _, rfl, a, _, rfl, SqL.of (sm0 _ _ hr2), fun p hp => ⟨p, rfl, ⟨_, SqL.of upd_same⟩, ?_⟩⟩
    have ecut : cutV (rs.map V.ref) (some ((k : Int) + 1)) (some ((k : Int) + 3)) = ((rs.drop (k + 1)).take 2).map V.ref := by
      rw [cut_two (by rw [List.length_map]; omega), List.map_take, List.map_drop]
    have npl : p ≠ l := fun e => by rw [e, upd_same] at hp; cases hp
    have hpH : H p = none := sm0.free hp
    refine for_list (xs := ((rs.drop (k + 1)).take 2).map V.ref) (fun i σ H' => ∃ d : Option V, σ = [some (.ref a), some (.int k), some (.ref l), d] ∧ Same H H' ∧ H' p = some (.lst (((rs.drop (k + 1)).take 2).map V.ref)) ∧ H' l = some (.lst (((((ps.drop (k + 1)).take 2).take i).flatMap Part.two).map V.int))) ?_ ?_ ?_ ?_
    · refine ⟨_, rfl, sm0.trans (same_new hp _), ?_, ?_⟩
      · rw [upd_same]
        exact congrArg (fun z => some (HO.lst z)) ecut
      · rw [upd_ne (Ne.symm npl), upd_same]
        rfl
    · rintro i σ H' _ ⟨d, rfl, _, hpp, _⟩
      exact SqL.of hpp
    · rintro i x σ H' hx ⟨d, rfl, sm, hpp, hv⟩
      rw [List.getElem?_map] at hx
      cases er : ((rs.drop (k + 1)).take 2)[i]? with
      | none => rw [er] at hx; cases hx
      | some r =>
        rw [er] at hx
        cases hx
        have hi2 : i < 2 ∧ rs[k + 1 + i]? = some r := by
          rw [List.getElem?_take] at er
          by_cases c : i < 2
          · rw [if_pos c, List.getElem?_drop] at er
            exact ⟨c, er⟩
          · rw [if_neg c] at er
            cases er
        obtain ⟨hir, _⟩ := List.getElem?_eq_some_iff.mp hi2.2
        have epi : ps[k + 1 + i]? = some ps[k + 1 + i] := List.getElem?_eq_getElem (by omega)
        have ht := sm _ _ (htup _ r _ hi2.2 epi)
        have e3 : ((ps.drop (k + 1)).take 2)[i]? = some ps[k + 1 + i] := by rw [List.getElem?_take, if_pos hi2.1, List.getElem?_drop]; exact epi
        have len : ∀ L : List Part, L.length ≤ 2 → (L.flatMap Part.two).length ≤ 4 := fun L hL => by
          cases L with
          | nil => exact Nat.zero_le _
          | cons p1 L =>
            have h1 := two_le p1
            cases L with
            | nil => simp; omega
            | cons p2 L =>
              have h2 := two_le p2
              cases L with
              | nil => simp; omega
              | cons p3 L => rw [List.length_cons, List.length_cons, List.length_cons] at hL; omega
        have l1 := len (((ps.drop (k + 1)).take 2).take i) (by rw [List.length_take, List.length_take]; omega)
        have l2 := two_le ps[k + 1 + i]
        refine ⟨_, rfl, .inl ⟨rfl, _, SqL.of hv⟩, _, rfl, r, _, rfl, SqT.of ht, fun lb Hb mb hb0 hb => ⟨l, lb, _, _, rfl, rfl, mb _ _ hv, hb, by rw [List.length_map, List.length_map]; omega, ?_⟩⟩
        refine ⟨_, rfl, fun b o e => ?_, ?_, ?_⟩
        · rw [upd_ne (ne_of_none e hl0)]
          exact mb _ _ (sm b o e)
        · rw [upd_ne npl]
          exact mb _ _ hpp
        · rw [upd_same, List.take_add_one (l := (ps.drop (k + 1)).take 2) (i := i), e3, List.flatMap_append, List.map_append]
          show _ = some (HO.lst (_ ++ (ps[k + 1 + i].two ++ []).map V.int))
          rw [List.append_nil]
    · rintro σ H' ⟨d, rfl, sm, _, hv⟩
      refine kk _ _ ⟨d, rfl, sm, ?_⟩
      rw [hv, List.take_of_length_le]
      rw [List.length_map, List.length_take, List.length_take, List.length_drop, List.length_drop]
      omega
  rintro σ3 H3 ⟨d, rfl, sm, hv⟩
  refine ⟨_, rfl, _, rfl, l, _, rfl, SqL.of hv, fun p hp => q p _ (sm.trans (same_new hp _)) (sm.free hp) ?_⟩
  rw [upd_same]
  refine congrArg (fun z => some (HO.lst z)) ((cut_upto _ 2).trans ?_)
  unfold behind
  rw [List.map_take]
end
end Rp
namespace Rp
open PySem PySem.NumText L2 Fig
section
variable {P : Program} {w : World} {K : PySem.W.Frag} {mg : Str → Option Value} {base : Heap} {f : Addr} {fd : FuncData}
theorem scAsPacked : FnScope ["parts", "at", "part", "behind"] ["parts", "at"] (defScope sAsPacked) := ⟨rfl, rfl, rfl, by decide +kernel, rfl, by decide +kernel, by decide +kernel⟩
theorem ok_aspacked (F : Fun K "is_as_packed" "is_as_packed" sAsPacked f fd) (fB : Rdy P w K mg base 2 "two_behind" ["parts", "at"] spBehind) (fA : Rdy P w K mg base 2 "part_at" ["row", "at"] (spPartAt K)) : FnOk P w K mg base CX0 3 f fd ["parts", "at"] spAsP := by
  refine F.ok scAsPacked (fun vs H Q E h => ?_) (fun cdv A outer s H vs Q E hr h => ?_)
  · obtain ⟨a, ps, k, rfl, _⟩ := h
    rfl
  obtain ⟨a, ps, k, rfl, hP, hk, hl, q⟩ := h
  obtain ⟨aB, dB, GB, bB, kB, mB⟩ := fB
  obtain ⟨aA, dA, GA, bA, kA, mA⟩ := fA
  have line := line_big
  refine ⟨_, (pss_cons (ps_set (i := 2) scAsPacked.nd rfl (Or.inl rfl) (pe_ix ix_list (pv 0) (pv 1) (fun _ _ => rfl)))
    (pss_cons (ps_set (i := 3) scAsPacked.nd rfl (Or.inl rfl) (pe_call GB hr rfl mB kB bB .nil pass0 (pa_cons (pv 0) (pa_cons (pv 1) pa_nil))))
    (pss_cons (ps_if (pt_cmpR op_eq (pe_ix ix_tup (pv 2) pe_int (fun _ _ => rfl)) pe_str (nomark _)) (pss_one (ps_ret (pe_cmpR (op_neL hr.units) (pe_slice sl_list (pv 3) po_none (po_some pe_int)) (pe_lst (pa_cons (pe_ix ix_tup (pv 2) pe_int (fun _ _ => rfl)) pa_nil)) (nomark _)))) pss_nil)
    (pss_cons (ps_if (pt_cmpR op_eq (pe_ix ix_tup (pv 2) pe_int (fun _ _ => rfl)) pe_str (nomark _)) (pss_one (ps_ret (pe_cmpR (op_neL hr.units) (pe_slice sl_list (pv 3) po_none (po_some pe_int)) (pe_lst (pa_cons (pe_op op_add (pe_ix ix_tup (pv 2) pe_int (fun _ _ => rfl)) pe_int) pa_nil)) (nomark _)))) pss_nil)
    (pss_one (ps_ret (pe_cmpR (op_eqT hr.units) (pe_call GA hr rfl mA kA bA .nil pass0 (pa_cons (pe_op op_cat (pe_lst (pa_cons (pe_ix ix_tup (pv 2) pe_int (fun _ _ => rfl)) pa_nil)) (pv 3)) (pa_cons pe_int pa_nil))) (pv 2) (nomark _)))))))), ?_⟩
  obtain ⟨rs, hr2, hlen, htup⟩ := id hP
  have hkr : k < rs.length := by omega
  have epk : ps[k]? = some ps[k] := List.getElem?_eq_getElem hk
  have htk := htup k rs[k] ps[k] (List.getElem?_eq_getElem hkr) epk
  refine ⟨_, rfl, _, rfl, a, _, _, _, rfl, rfl, SqL.of hr2, atI_nat (by rw [List.getElem?_map, List.getElem?_eq_getElem hkr]; rfl), ?_⟩
  refine ⟨_, rfl, _, rfl, a, ps, k, rfl, hP, hk, hl, fun l H1 m1 hl0 hb => ?_⟩
  have ht1 := m1 _ _ htk
  have eas : asAt ps k = asP ps[k] (ps.drop (k + 1)) := by unfold asAt; rw [epk]
  rw [eas] at q
  generalize ps[k] = p at ht1 q
  generalize ps.drop (k + 1) = r at hb q
  have e1 : ∀ xs : List Int, cutV (xs.map V.int) none (some 1) = (xs.take 1).map V.int := fun xs => (cut_upto _ 1).trans (by rw [List.map_take])
  generalize rs[k] = t at ht1
  have bl := behind_len r
  cases p with
  | same n c =>
    refine ⟨_, rfl, t, _, 0, _, rfl, rfl, SqT.of ht1, rfl, rfl, _, rfl, ite_y d_ss ⟨_, rfl, _, rfl, l, _, rfl, SqL.of hb, fun p1 hp1 => ⟨_, rfl, t, _, 1, _, rfl, rfl, SqT.of (same_new hp1 _ _ _ ht1), rfl, by show 1 ≤ sizeLine; omega, fun p2 hp2 => ?_⟩⟩⟩
    refine ⟨p1, p2, (behind r).take 1, [n], rfl, rfl, SqL.of (same_new hp2 _ _ _ ?_), SqL.of upd_same, q _ ((m1.trans (same_new hp1 _)).trans (same_new hp2 _))⟩
    rw [upd_same, e1]
  | rise c d =>
    refine ⟨_, rfl, t, _, 0, _, rfl, rfl, SqT.of ht1, rfl, rfl, _, rfl, ite_n d_rs ⟨_, rfl, t, _, 0, _, rfl, rfl, SqT.of ht1, rfl, rfl, _, rfl, ite_y d_rr ⟨_, rfl, _, rfl, l, _, rfl, SqL.of hb, fun p1 hp1 => ⟨_, rfl, t, _, 2, _, rfl, rfl, SqT.of (same_new hp1 _ _ _ ht1), rfl, _, _, rfl, rfl, by show 1 ≤ sizeLine; omega, fun p2 hp2 => ?_⟩⟩⟩⟩
    refine ⟨p1, p2, (behind r).take 1, [d + 1], rfl, rfl, SqL.of (same_new hp2 _ _ _ ?_), SqL.of upd_same, q _ ((m1.trans (same_new hp1 _)).trans (same_new hp2 _))⟩
    rw [upd_same, e1]
  | one n =>
    refine ⟨_, rfl, t, _, 0, _, rfl, rfl, SqT.of ht1, rfl, rfl, _, rfl, ite_n d_os ⟨_, rfl, t, _, 0, _, rfl, rfl, SqT.of ht1, rfl, rfl, _, rfl, ite_n d_or ⟨_, rfl, t, _, 1, _, rfl, rfl, SqT.of ht1, rfl, by show 1 ≤ sizeLine; omega, fun p1 hp1 => ⟨_, rfl, p1, l, _, _, rfl, rfl, upd_same, same_new hp1 _ _ _ hb, by show 1 + _ ≤ sizeLine; rw [List.length_map]; omega, fun p2 hp2 => ?_⟩⟩⟩⟩
    have m2 := (m1.trans (same_new hp1 _)).trans (same_new hp2 (.lst ([V.int n] ++ (behind r).map V.int)))
    refine ⟨p2, n :: behind r, 0, n, rfl, SqL.of upd_same, by rw [List.length_cons]; omega, rfl, fun t2 H3 m3 ht0 ht2 => ?_⟩
    refine ⟨_, rfl, t2, t, first n (n :: behind r), .one n, rfl, rfl, SqT.of ht2, SqT.of (m3 _ _ (same_new hp2 _ _ _ (same_new hp1 _ _ _ ht1))), q _ (m2.trans m3)⟩
end
end Rp
namespace Rp
open PySem PySem.NumText L2 Fig
section
variable {P : Program} {w : World} {K : PySem.W.Frag} {mg : Str → Option Value} {base : Heap} {f : Addr} {fd : FuncData}
theorem scTidy : FnScope ["line", "parts"] ["line"] (defScope sIsTidy) := ⟨rfl, rfl, rfl, by decide +kernel, rfl, by decide +kernel, by decide +kernel⟩
abbrev compTN : List Str := ["line", "parts"]
def compTSc : Scope := { kind := .function, names := [((".0" : Str), NameKind.local), (("at" : Str), NameKind.local), (("is_as_packed" : Str), NameKind.globalImplicit), (("parts" : Str), NameKind.free)], isGenerator := false, isCoroutine := false, more := [] }
theorem compT {X : Cx} {c : Addr} (hN : X.N = compTN) (hs : X.env.scope = defScope sIsTidy) (hc : X.env.cells.lookup ("parts" : Str) = some c) :
    CompOk X ["at", "parts"] [1] "at" compTSc [(("parts" : Str), c)] := by
  have ek : X.env.kindOf "parts" = some .cell := by
    show X.env.scope.names.lookup ("parts" : Str) = some NameKind.cell
    rw [hs]
    decide +kernel
  have er : (relabel compTSc X.env).names = [((".0" : Str), NameKind.local), (("at" : Str), NameKind.local), (("is_as_packed" : Str), NameKind.globalImplicit), (("parts" : Str), NameKind.cell)] := by
    unfold relabel compTSc
    simp only [List.map_cons, List.map_nil]
    rw [ek, show X.env.scope.kind = .function by rw [hs]; rfl]
    rfl
  refine ⟨?_, rfl, by decide +kernel, by decide +kernel, by decide +kernel, fun y d e => ?_, fun p hp z => ?_, by decide +kernel, rfl, fun k y e => ?_, rfl⟩
  · simp [closureFor, compTSc, cellOf, hc]
  · have e2 : y = "parts" ∧ d = c := by
      rw [List.lookup_cons] at e
      split at e
      · rename_i z; exact ⟨by simpa using z, (Option.some.inj e).symm⟩
      · cases e
    rw [e2.1, e2.2]
    exact hc
  · rw [er] at hp
    simp only [List.mem_cons, List.not_mem_nil, or_false] at hp
    rcases hp with rfl | rfl | rfl | rfl
    · rcases z with z | z <;> cases z
    · rcases z with z | z <;> cases z
    · rcases z with z | z <;> cases z
    · exact ⟨c, by simp [List.lookup]⟩
  · cases k with
    | zero =>
      have e2 : y = "parts" := (Option.some.inj e).symm
      subst e2
      refine ⟨1, rfl, by rw [hN]; rfl, .inr (.inl ?_), by rw [ek]; decide, .inl ?_⟩
      · rw [hs]; decide +kernel
      · rw [er]; decide +kernel
    | succ k => simp at e
theorem ok_tidy {cr : Addr} (F : Fun K "is_tidy" "is_tidy" sIsTidy f fd) (g : GB mg) (fP : RdyX P w K mg base 5 "parts_of" ["line"] (spParts cr)) (fA : Rdy P w K mg base 3 "is_as_packed" ["parts", "at"] spAsP) (mC : mg "NoRow" = some (.ref cr)) (cc : CatchCls K cr) (sub : PySem.W.subIn K (.ref cr) (.ref cr) = some true) : FnOk P w K mg base CX0 6 f fd ["line"] spTidyP := by
  refine F.ok scTidy (fun vs H Q E h => ?_) (fun cdv A outer s H vs Q E hr h => ?_)
  · obtain ⟨z, rfl, _⟩ := h
    rfl
  obtain ⟨z, rfl, sm, q⟩ := h
  obtain ⟨aP, dP, GP, bP, kP, mP⟩ := fP
  obtain ⟨aA, dA, GA, bA, kA, mA⟩ := fA.up (show 3 ≤ 5 by decide)
  have line := line_big
  refine ⟨_, pss_cons (ps_try rfl rfl (psx_one (psx_set (i := 1) scTidy.nd rfl (Or.inr rfl) (pex_call GP hr rfl mP kP bP .nil (pa_cons (pv 0) pa_nil)))) rfl mC cc (fun a => pss_one (ps_ret pe_bl)))
    (pss_one (ps_ret (pe_callB (call_all_bools rfl) rfl g.all b_all (pa_cons (pe_listComp rfl (pi_range1 rfl g.range (pa_cons (pe_callB call_len_seq rfl g.len PySem.boot_len (pa_cons (pv 1) pa_nil)) pa_nil)) (compT rfl rfl rfl) (fun C fp s2 H2 => pe_call GA hr rfl mA kA bA .nil pass0 (pa_cons (pv 1) (pa_cons (pv 0) pa_nil)))) pa_nil)))), ?_⟩
  refine ⟨_, rfl, z, rfl, sm, fun ps e p H1 m1 hP => ?_, fun e H1 m1 => ⟨⟨cr, rfl, sub⟩, fun a => ?_⟩⟩
  · have et : tidyP z.cps.toList = goodP ps := by unfold tidyP; rw [e]
    rw [et, ← good_all] at q
    have hn : ps.length ≤ 100002 := by
      unfold readT at e
      split at e
      · cases e
        exact Nat.zero_le _
      · obtain ⟨hlen, _⟩ := parseAll_get e
        rw [← txt_split, List.length_map] at hlen
        have h1 := PyProof.Rows.split_le z ⟨#[32]⟩
        have h2 := sm.1
        omega
    obtain ⟨rs, hr2, hlen, htup⟩ := id hP
    refine ⟨_, rfl, p, _, rfl, .inl (SqL.of hr2), _, rfl, by rw [List.length_map]; omega, by rw [List.length_map]; omega, fun D hD => ?_⟩
    rw [List.length_map, Int.toNat_natCast, hlen]
    refine lc_rangeG (Q := fun v H' => ∃ (p : Addr) (bs : List Bool), [v] = [V.ref p] ∧ SqL K H' p (bs.map V.bl) ∧ Q (.bl (bs.all id)) H') (f := fun i => .int ((0 : Int) + (i : Int))) (fun i ys Hk => Same H1 Hk ∧ ys = ((List.range i).map (asAt ps)).map V.bl ∧ Hk D = some (.lst ys)) (by omega) ?_ ?_ ?_ ?_
    · exact ⟨same_new hD _, rfl, upd_same⟩
    · rintro i ys Hk ⟨_, rfl, _⟩
      rw [List.length_map, List.length_map, List.length_range]
    · rintro i ys Hk hi ⟨mk, rfl, hDk⟩
      refine ⟨_, rfl, _, rfl, p, ps, i, by rw [Int.zero_add]; rfl, hP.same mk, hi, by omega, fun H2 m2 => ⟨m2 _ _ hDk, fun b o e => ?_, ?_, upd_same⟩⟩
      · rw [upd_ne (ne_of_none e hD)]
        exact m2 _ _ (mk b o e)
      · rw [List.range_succ, List.map_append, List.map_append]
        rfl
    · rintro ys Hk ⟨mk, rfl, hDk⟩
      exact ⟨D, _, rfl, SqL.of hDk, q _ (m1.trans mk)⟩
  · have et : tidyP z.cps.toList = false := by unfold tidyP; rw [e]
    rw [et] at q
    exact q H1 m1
end
end Rp
namespace Rp
open PySem PySem.NumText L2 Fig
section
variable {P : Program} {w : World} {K : PySem.W.Frag} {mg : Str → Option Value} {base : Heap} {f : Addr} {fd : FuncData}
def spAsked (C : Addr) : Sp := fun vs H Q E => ∃ (k : Int) (z : Str), vs = [.int k, .str z] ∧ Small z ∧ readT z.cps.toList = none ∧ ∀ H', Same H H' → E (.ref C) none H'
theorem scAsked : FnScope ["_law_which", "_law_line"] ["_law_which", "_law_line"] (defScope sAsked) := ⟨rfl, rfl, rfl, by decide +kernel, rfl, by decide +kernel, by decide +kernel⟩
theorem ok_asked {cr : Addr} (F : Fun K "_law_asked" "_law_asked" sAsked f fd) (fD : ReadyX P w K mg base "read" ["line"] (spRead cr)) (fM : ReadyX P w K mg base "many_in" ["line"] (spMany cr)) (fT : ReadyX P w K mg base "parts_of" ["line"] (spParts cr)) :
    FnOk P w K mg base (CXE P w) 9 f fd ["_law_which", "_law_line"] (spAsked cr) := by
  refine F.okX scAsked (fun vs H Q E h => ?_) (fun cdv A outer s H vs Q E hr h => ?_)
  · obtain ⟨n, z, rfl, _⟩ := h
    rfl
  obtain ⟨n, z, rfl, sm, e, q⟩ := h
  obtain ⟨aD, dD, GD, bD, kD, mD⟩ := fD
  obtain ⟨aM, dM, GM, bM, kM, mM⟩ := fM
  obtain ⟨aT, dT, GT, bT, kT, mT⟩ := fT
  refine ⟨_, psx_one (psx_if (pt_cmpR op_eq (pv 0) pe_int (nomark _)) (psx_one (psx_expr (pex_call GD hr rfl mD kD bD .nil (pa_cons (pv 1) pa_nil))))
    (psx_one (psx_if (pt_cmpR op_eq (pv 0) pe_int (nomark _)) (psx_one (psx_expr (pex_call GM hr rfl mM kM bM .nil (pa_cons (pv 1) pa_nil)))) (psx_one (psx_expr (pex_call GT hr rfl mT kT bT .nil (pa_cons (pv 1) pa_nil))))))), ?_⟩
  refine ⟨_, rfl, rfl, _, rfl, ite2 (fun _ => ?_) (fun _ => ⟨_, rfl, rfl, _, rfl, ite2 (fun _ => ?_) (fun _ => ?_)⟩)⟩
  · exact ⟨_, rfl, z, rfl, sm, fun ps e' => (by rw [e] at e'; cases e'), fun _ H' s' => q H' s'⟩
  · exact ⟨_, rfl, z, rfl, sm, fun ps e' => (by rw [e] at e'; cases e'), fun _ H' s' => q H' s'⟩
  · exact ⟨_, rfl, z, rfl, sm, fun ps e' => (by rw [e] at e'; cases e'), fun _ H' s' => q H' s'⟩
end
end Rp
namespace Rp
open PySem PySem.NumText L2 Fig
section
variable {P : Program} {w : World} {K : PySem.W.Frag} {mg : Str → Option Value} {base : Heap} {f : Addr} {fd : FuncData}
/-- the error classes of a refused row -/
structure ErrR (K : PySem.W.Frag) (mg : Str → Option Value) (cp cr : Addr) : Prop where
  mp : mg "PackError" = some (.ref cp)
  mr : mg "NoRow" = some (.ref cr)
  kp : CatchCls K cp
  kr : CatchCls K cr
  srp : PySem.W.subIn K (.ref cr) (.ref cp) = some true
  srr : PySem.W.subIn K (.ref cr) (.ref cr) = some true
def spRefuses : Sp := fun vs H Q _ => ∃ (k : Int) (z : Str), vs = [.int k, .str z] ∧ Small z ∧ readT z.cps.toList = none ∧ ∀ H', Same H H' → Q (.bl true) H'
theorem scRef : FnScope ["_law_which", "_law_line", "_law_named"] ["_law_which", "_law_line"] (defScope sRefuses) := ⟨rfl, rfl, rfl, by decide +kernel, rfl, by decide +kernel, by decide +kernel⟩
theorem ok_refuses {cp cr : Addr} (F : Fun K "_law_refuses" "_law_refuses" sRefuses f fd) (e : ErrR K mg cp cr)
    (fA : ∃ a d, FnOk P w K mg base (CXE P w) 9 a d ["_law_which", "_law_line"] (spAsked cr) ∧ Binds K d ["_law_which", "_law_line"] [] ∧ PySem.W.keepIn K (.ref a) = true ∧ mg "_law_asked" = some (.ref a)) : FnOk P w K mg base CX0 10 f fd ["_law_which", "_law_line"] spRefuses := by
  refine F.ok scRef (fun vs H Q E h => ?_) (fun cdv A outer s H vs Q E hr h => ?_)
  · obtain ⟨n, z, rfl, _⟩ := h
    rfl
  obtain ⟨n, z, rfl, sm, hz, q⟩ := h
  obtain ⟨aA, dA, GA, bA, kA, mA⟩ := fA
  refine ⟨_, pss_cons (ps_set (i := 2) scRef.nd rfl (Or.inl rfl) pe_bl)
    (pss_cons (ps_try rfl rfl (psx_one (psx_expr (pex_call GA hr rfl mA kA bA .nil (pa_cons (pv 0) (pa_cons (pv 1) pa_nil))))) rfl e.mr e.kr (fun a => pss_one (ps_set (i := 2) scRef.nd rfl (Or.inl rfl) pe_bl)))
    (pss_cons (ps_try rfl rfl (psx_one (psx_expr (pex_call GA hr rfl mA kA bA .nil (pa_cons (pv 0) (pa_cons (pv 1) pa_nil))))) rfl e.mp e.kp (fun a => pss_one (ps_ret (pv 2))))
    (pss_one (ps_ret pe_bl)))), ?_⟩
  refine seq (fun σ' H' => H' = H ∧ σ' = [some (.int n), some (.str z), some (.bl false)]) (fun D' _ k => k _ _ ⟨rfl, rfl⟩) ?_
  rintro σ1 H1 ⟨rfl, rfl⟩
  refine seq (fun σ' H' => Same H1 H' ∧ σ' = [some (.int n), some (.str z), some (.bl true)]) (fun D' _ k => ?_) ?_
  · exact ⟨_, rfl, _, rfl, n, z, rfl, sm, hz, fun H' s' => ⟨⟨cr, rfl, e.srr⟩, fun a => k _ _ ⟨s', rfl⟩⟩⟩
  rintro σ2 H2 ⟨s2, rfl⟩
  exact ⟨_, rfl, _, rfl, n, z, rfl, sm, hz, fun H' s' => ⟨⟨cr, rfl, e.srp⟩, fun a => ⟨_, rfl, q _ (s2.trans s')⟩⟩⟩
end
end Rp
namespace Rp
open PySem PySem.NumText L2 Fig
section
variable {P : Program} {w : World} {K : PySem.W.Frag} {mg : Str → Option Value} {base : Heap} {f : Addr} {fd : FuncData}
def bndF (n : Int) : Int := if n < 0 then 0 - (0 - n) % 10 ^ (60 : Int).toNat else n % 10 ^ (60 : Int).toNat
theorem bndF_lt (n : Int) : (bndF n).natAbs < 10 ^ 60 := by
  have hp : (0 : Int) < 10 ^ (60 : Int).toNat := by decide
  have hb : ∀ a : Int, (a % 10 ^ (60 : Int).toNat).natAbs < 10 ^ 60 := fun a => by
    have h1 := Int.emod_nonneg a (Int.ne_of_gt hp)
    have h2 := Int.emod_lt_of_pos a hp
    have h3 : ((10 : Int) ^ (60 : Int).toNat) = ((10 ^ 60 : Nat) : Int) := by decide
    rw [h3] at h1 h2 ⊢
    omega
  unfold bndF
  split
  · have := hb (0 - n)
    omega
  · exact hb n
def spBnd : Sp := fun vs H Q _ => ∃ n : Int, vs = [.int n] ∧ Q (.int (bndF n)) H
theorem scBnd : FnScope ["_law_cell"] ["_law_cell"] (defScope sBounded) := ⟨rfl, rfl, rfl, by decide +kernel, rfl, by decide +kernel, by decide +kernel⟩
theorem ok_bnd (F : Fun K "_law_bounded" "_law_bounded" sBounded f fd) : FnOk P w K mg base CX0 1 f fd ["_law_cell"] spBnd := by
  refine F.ok scBnd (fun vs H Q E h => ?_) (fun cdv A outer s H vs Q E hr h => ?_)
  · obtain ⟨n, rfl, _⟩ := h
    rfl
  obtain ⟨n, rfl, q⟩ := h
  refine ⟨_, pss_cons (ps_if (pt_cmpR op_lt (pv 0) pe_int (nomark _)) (pss_one (ps_ret (pe_op op_sub pe_int (pe_op op_mod (pe_op op_sub pe_int (pv 0)) (pe_op op_pow pe_int pe_int))))) pss_nil) (pss_one (ps_ret (pe_op op_mod (pv 0) (pe_op op_pow pe_int pe_int)))), ?_⟩
  have cp : CPow 10 60 := ⟨by decide, by decide, by decide⟩
  have hp : (0 : Int) < 10 ^ (60 : Int).toNat := by decide
  refine ⟨_, rfl, _, _, rfl, rfl, _, rfl, ite2 (fun c => ?_) (fun c => ?_)⟩
  · have c' : n < 0 := of_decide_eq_true c
    unfold bndF at q
    rw [if_pos c'] at q
    exact ⟨_, rfl, _, _, rfl, rfl, _, _, rfl, rfl, cp, _, _, rfl, rfl, hp, _, _, rfl, rfl, q⟩
  · have c' : ¬ n < 0 := of_decide_eq_false (Bool.eq_false_iff.mpr c)
    unfold bndF at q
    rw [if_neg c'] at q
    exact ⟨_, rfl, _, _, rfl, rfl, cp, _, _, rfl, rfl, hp, q⟩
end
end Rp
namespace Rp
open PySem PySem.NumText L2 Fig
section
variable {P : Program} {w : World} {K : PySem.W.Frag} {mg : Str → Option Value} {base : Heap} {f : Addr} {fd : FuncData}
def bads1 : List Str := [Str.ofString "x3", Str.ofString "4x2", Str.ofString "4x-3", Str.ofString "4x", Str.ofString "4x03", Str.ofString "1..2", Str.ofString "5..3", Str.ofString "1..", Str.ofString "1...4", Str.ofString "-0", Str.ofString "007"]
def bads2 : List Str := [Str.ofString "+4", Str.ofString "a", Str.ofString "", Str.ofString "4x3x3", Str.ofString "1..4..9", Str.ofString "4X3", Str.ofString "1.4", Str.ofString "--4", Str.ofString "4x0", Str.ofString "4x1", Str.ofString "9..11x3"]
def bads : List Str := bads1 ++ bads2
theorem bads_bad : ∀ b ∈ bads, parse b.cps.toList = none ∧ 32 ∉ b.cps.toList ∧ b.length ≤ 60 ∧ ∀ c ∈ b.cps.toList, c < 128 := by decide +kernel
theorem bads_len : bads.length = 22 := rfl
def gB : V → V
  | .int c => .int (bndF c)
  | v => v
def gS : V → V
  | .int c => .str (Str.ofString (toString c))
  | v => v
theorem map_gB (cs : List Int) : (cs.map V.int).map gB = (cs.map bndF).map V.int := by
  rw [List.map_map, List.map_map]
  rfl
theorem map_gS (cs : List Int) : (cs.map V.int).map gS = (cs.map fun n => Str.ofString (toString n)).map V.str := by
  rw [List.map_map, List.map_map]
  rfl
theorem tx_ones : ∀ ns : List Int, (∀ n ∈ ns, n.natAbs < 10 ^ 60) → Tx 60 (ns.map fun n => Str.ofString (toString n)) (ns.map Part.one)
  | [], _ => Tx.nil 60
  | n :: r, h => by
    have ih := tx_ones r fun m hm => h m (List.mem_cons_of_mem _ hm)
    refine ⟨?_, fun p hp => ?_⟩
    · rw [List.map_cons, List.map_cons, List.map_cons, List.map_cons, ih.1, str_part1]
    · rcases List.mem_cons.mp hp with rfl | hp
      · exact ⟨trivial, h n List.mem_cons_self⟩
      · exact ih.2 p hp
theorem vals_ones (ns : List Int) : valsAll (ns.map Part.one) = ns := by
  induction ns with
  | nil => rfl
  | cons n r ih =>
    show [n] ++ valsAll (r.map Part.one) = _
    rw [ih]
    rfl
/-- a text with a bad part in it -/
theorem bad_line {ns : List Int} (hb : ∀ n ∈ ns, n.natAbs < 10 ^ 60) (h0 : ns ≠ []) (hl : ns.length ≤ 11) {b : Str} (mb : b ∈ bads) (k : Nat) :
    JoinOk (Str.ofString " ") (((ns.map fun n => Str.ofString (toString n)).take k) ++ b :: (ns.map fun n => Str.ofString (toString n)).drop k) = true ∧
      Small (Txt.join (Str.ofString " ") (((ns.map fun n => Str.ofString (toString n)).take k) ++ b :: (ns.map fun n => Str.ofString (toString n)).drop k)) ∧
      readT (Txt.join (Str.ofString " ") (((ns.map fun n => Str.ofString (toString n)).take k) ++ b :: (ns.map fun n => Str.ofString (toString n)).drop k)).cps.toList = none := by
  obtain ⟨b1, b2, b3, b4⟩ := bads_bad b mb
  generalize hys : (ns.map fun n => Str.ofString (toString n)) = ys
  have hy : ∀ y ∈ ys, ∃ n : Int, n.natAbs < 10 ^ 60 ∧ y.cps.toList = codesOf n := fun y h => by
    rw [← hys] at h
    obtain ⟨n, hn, rfl⟩ := List.mem_map.mp h
    exact ⟨n, hb n hn, str_all n⟩
  have ylen : ys.length ≤ 11 := by rw [← hys, List.length_map]; exact hl
  have all : ∀ y ∈ ys.take k ++ b :: ys.drop k, y.length ≤ 61 ∧ 32 ∉ y.cps.toList ∧ ∀ c ∈ y.cps.toList, c < 128 := fun y h => by
    have own : ∀ y ∈ ys, y.length ≤ 61 ∧ 32 ∉ y.cps.toList ∧ ∀ c ∈ y.cps.toList, c < 128 := fun y h => by
      obtain ⟨n, hn, e⟩ := hy y h
      have := codes_len2 (by decide : 0 < 60) hn
      rw [← txt_len, e]
      exact ⟨this, codes_no (.inr (.inr rfl)), fun c hc => by have := codes_mem hc; omega⟩
    rcases List.mem_append.mp h with h | h
    · exact own y (List.mem_of_mem_take h)
    · rcases List.mem_cons.mp h with rfl | h
      · exact ⟨by omega, b2, b4⟩
      · exact own y (List.mem_of_mem_drop h)
  have len : (ys.take k ++ b :: ys.drop k).length ≤ 12 := by
    rw [List.length_append, List.length_cons, List.length_take, List.length_drop]
    omega
  have mem : ∃ y ∈ ys.take k ++ b :: ys.drop k, y.cps.toList ≠ [] := by
    cases ns with
    | nil => exact absurd rfl h0
    | cons n r =>
      have hm : Str.ofString (toString n) ∈ ys := by rw [← hys]; exact List.mem_cons_self
      refine ⟨Str.ofString (toString n), ?_, by rw [str_all]; exact codes_ne n⟩
      rw [← List.take_append_drop k ys] at hm
      rcases List.mem_append.mp hm with h | h
      · exact List.mem_append.mpr (.inl h)
      · exact List.mem_append.mpr (.inr (List.mem_cons_of_mem _ h))
  have mb' : b ∈ ys.take k ++ b :: ys.drop k := List.mem_append.mpr (.inr List.mem_cons_self)
  generalize ys.take k ++ b :: ys.drop k = zs at all len mem mb'
  have e : (Txt.join (Str.ofString " ") zs).cps.toList = inter 32 (zs.map fun y => y.cps.toList) := by rw [lit_blank, txt_join]
  refine ⟨join_ok (L := 61) (fun y h => (all y h).1) (by omega), ⟨?_, fun c hc => ?_⟩, ?_⟩
  · rw [← txt_len, e]
    have := inter_len 32 61 (zs.map fun y => y.cps.toList) fun t ht => by
      obtain ⟨y, hy, rfl⟩ := List.mem_map.mp ht
      rw [txt_len]
      exact (all y hy).1
    rw [List.length_map] at this
    omega
  · rw [e] at hc
    rcases inter_mem hc with z1 | ⟨t, ht, z1⟩
    · rw [z1]; decide
    · obtain ⟨y, hy, rfl⟩ := List.mem_map.mp ht
      exact Nat.lt_trans ((all y hy).2.2 c z1) (by decide)
  · rw [e]
    unfold readT
    obtain ⟨y, hy, ye⟩ := mem
    rw [if_neg (inter_ne (List.mem_map.mpr ⟨y, hy, rfl⟩) ye), split_inter]
    · exact parseAll_bad (List.mem_map.mpr ⟨b, mb', rfl⟩) b1
    · intro z
      rw [List.map_eq_nil_iff.mp z] at mb'
      cases mb'
    · intro t ht
      obtain ⟨y, hy, rfl⟩ := List.mem_map.mp ht
      exact (all y hy).2.1
end
end Rp
/-! name = [.. for ..]: the name is bound within the comprehension. -/
namespace L2
open PySem PySem.Spec PyProof.Rows
section
variable {X : Cx} {wi : TI} {telt : TE} {N' : List Str} {js : List Nat} {cl : List (Str × Addr)}
theorem ps_setLC {i : Nat} {y : Str} {py spos : Pos} {elt iter : Expr} {x : Str} {px : Pos} {scope : Scope} {pos : Pos} (hc : X.calm = true) (hN : X.N.Nodup) (hi' : X.N[i]? = some y) (hy : X.env.scope.names.lookup y = some .local) (hi : PI X (.Name x px) iter wi) (G : CompOk X N' js x scope cl)
    (he : ∀ C fp s2 H2, PE (compCx X N' scope cl C fp s2 H2) elt telt) (hsw : swapsWith (.ListComp elt [⟨.Name x px, iter, [], 0⟩] scope pos) (some (.Name y py)) spos.line X.env = pure true := by rfl) (hs : ∀ x, foldedSetIterable iter X.env x = pure x := by intro _; rfl) :
    PS X (.Assign [.Name y py] (.ListComp elt [⟨.Name x px, iter, [], 0⟩] scope pos) spos) (tAsg (tLC wi js telt) (gName i)) := by
  intro pins s σ H Dn I h
  rw [exec_Assign_Name_used _ _ _ _ hsw]
  refine wpAny_bind (wpAny_standAt (wpAny_bind ?_))
  show wpAny _ X.A (do let _ ← comprehension (.ListComp elt [⟨.Name x px, iter, [], 0⟩] scope pos) scope X.env _ (newList []) false (eval iter X.env) (some (assign (.Name y py) X.env))) _ _ s
  refine wpAny_bind (wpAny_mono (wpAny_comprehension_free (use := some (assign (.Name y py) X.env)) (Q := fun _ s' => SP X pins Dn .next s') rfl hs G.clos G.kind G.names (thn (hi pins s σ H _ I h) fun v s1 h1 => thn h1 fun itv s2 h2 => ?_)) (fun _ s' hq => wpAny_pure (wpAny_pure hq)) fun _ _ e => e)
  obtain ⟨it, fp, tn, J, H2, rfl, I2, T, st2, f2, q⟩ := h2
  obtain ⟨W, ⟨m0, w0⟩, turn⟩ := q s2.heap.objs.size (I2.hok.fresh (Nat.le_refl _))
  refine wpAny_newObj_type (wpAny_newFunctionEnv G.cell (by intro y hy; simp at hy) (fun h₁ hns₁ hsb₁ => ?_) G.kind)
  dsimp only at hns₁ hsb₁ ⊢
  generalize hH3 : s2.heap.push { cls := .type "list", dict := none, data := .seq ([] : List Value).toArray } = H3 at hns₁ hsb₁ ⊢
  have hC : H3.objs.size = s2.heap.objs.size + 1 := by rw [← hH3, Heap.size_push]
  generalize hCe : H3.objs.size = C at hns₁ hsb₁ ⊢
  have hCs : C = s2.heap.objs.size + 1 := hCe.symm.trans hC
  have below : ∀ b, b < s2.heap.objs.size → b ≠ C ∧ b ≠ s2.heap.objs.size := fun b hb => ⟨by rw [hCs]; exact Nat.ne_of_lt (Nat.lt_succ_of_lt hb), Nat.ne_of_lt hb⟩
  have hDC : s2.heap.objs.size ≠ C := by rw [hCs]; exact Nat.ne_of_lt (Nat.lt_succ_self _)
  have old : ∀ b o, s2.heap.get? b = some o → h₁.get? b = some o := fun b o e => hsb₁.extBut b o (below b (Heap.lt_size e)).1 (Heap.get?_push_of_some _ (hH3 ▸ Heap.get?_push_of_some _ e))
  have hD : h₁.get? s2.heap.objs.size = some { cls := .type "list", dict := none, data := .seq ([] : List Value).toArray } := hsb₁.extBut _ _ hDC (Heap.get?_push_of_some _ (hH3 ▸ Heap.get?_push_size _ rfl))
  have fpLt : ∀ b ∈ fp, b < s2.heap.objs.size := fun b hb => let ⟨o, e, _⟩ := T.obj _ _ st2 b hb; Heap.lt_size e
  have hCn : H2 C = none := I2.hok.fresh (by rw [hCs]; exact Nat.le_succ _)
  have hfs : ∀ b ∈ fp, b ∉ frs X.stack := fun b hb z => (List.mem_cons.mp (I2.stkSub b z)).elim (f2 b hb).2.1 (f2 b hb).2.2.1
  have I3 : Inv (compCx X N' scope cl C fp s2 H2) [] (none :: capt σ js) (upd H2 s2.heap.objs.size (.lst [])) { s2 with heap := h₁, toks := s2.toks + ([] : List (Str × Value)).length } := by
    refine ⟨⟨I2.ok.mod, G.kind, I2.ok.glob, I2.ok.blt, by show s2.heap.objs.size ≤ C; rw [hCs]; exact Nat.le_succ _, fun y z c h1 h2 => I2.ok.inj y z c (G.sub y c h1) (G.sub z c h2), fun y hy => ?_, fun y c hf => absurd hf Bool.false_ne_true, I2.ok.hd, I2.ok.frames, .inl rfl, fun b hb => ⟨(below b (fpLt b hb)).1, fun y c e => (f2 b hb).2.2.2.2.1 y c (G.sub y c e)⟩, I2.bs, Nat.le_trans I2.ok.bsz I2.sz, fun b o e hb => ?_, hfs, I2.stack, I2.stkFree⟩,
      rfl, I2.bare, Un.laid old (Nat.le_refl _) (I2.hok.fresh (Nat.le_refl _)), ⟨_, hns₁, fun i y v e1 e2 e3 => ?_⟩, fun y c e => ?_, ?_, fun y c e => ?_, fun p hp => absurd (show p ∈ ([] : List (Addr × Obj)) from hp) (by simp), I2.hok.laid old (Nat.le_refl _) ⟨Nat.zero_le _, [], 0, .nil, hD⟩, ?_⟩
    · rcases hy with hy | hy
      · exact G.has _ (PySem.mem_of_lookup hy) (.inl rfl)
      · exact G.has _ (PySem.mem_of_lookup hy) (.inr rfl)
    · obtain ⟨k1, k2, k3, k4, k5, k6⟩ := f2 b hb
      rcases k4 with k4 | k4
      · exact I2.ok.noex b o e k4
      · exact absurd (Nat.lt_of_lt_of_le (Heap.lt_size (I2.ok.bs b o e).1) k4) (Nat.lt_irrefl _)
    · cases i with
      | zero => cases e2
      | succ k =>
        obtain ⟨j, hj, hn, hv, hk, hr⟩ := G.cap k y e1
        have e4 : (capt σ js)[k]? = some (some v) := e2
        unfold capt at e4
        rw [List.getElem?_map, hj] at e4
        have e5 : (σ[j]?).join = some v := Option.some.inj e4
        have e6 : σ[j]? = some (some v) := by
          cases z : σ[j]? with
          | none => rw [z] at e5; cases e5
          | some o => rw [z] at e5; exact congrArg some e5
        obtain ⟨m, hm, hl⟩ := I2.loc
        obtain ⟨u, ru, lk⟩ := hl j y v hn e6 hv
        refine ⟨u, ru, .inr ⟨hr, ?_⟩⟩
        rcases lk with ⟨k1, _⟩ | ⟨k1, c, k2, k3⟩
        · exact absurd k1 hk
        · obtain ⟨c', hc'⟩ : ∃ c', cl.lookup y = some c' := by
            rcases hr with hr | hr
            · exact G.has _ (PySem.mem_of_lookup hr) (.inl rfl)
            · exact G.has _ (PySem.mem_of_lookup hr) (.inr rfl)
          have z := (G.sub y c' hc').symm.trans k2
          cases z
          obtain ⟨o, ho, hd⟩ := k3
          exact ⟨c, hc', o, old c o ho, hd⟩
    · obtain ⟨v, o, ho, hd⟩ := I2.cell y c (G.sub y c e)
      exact ⟨v, o, old c o ho, hd⟩
    · show upd H2 s2.heap.objs.size (.lst []) C = none
      rw [upd_ne (Ne.symm hDC)]
      exact hCn
    · obtain ⟨v, o, ho, hd⟩ := I2.cell y c (G.sub y c e)
      rw [upd_ne (below c (Heap.lt_size ho)).2]
      exact I2.freeC y c (G.sub y c e)
    · show (none :: capt σ js).length = N'.length
      unfold capt
      rw [List.length_cons, List.length_map, G.len]
  have stat : ∀ {Hk : Hp}, (∀ b ∈ fp, Hk b = none) → ∀ b ∈ fp, FpOk (compCx X N' scope cl C fp s2 H2) [] Hk b := fun hn b hb =>
    ⟨hn b hb, (below b (fpLt b hb)).1, hfs b hb, .inl hb, fun y c e => (f2 b hb).2.2.2.2.1 y c (G.sub y c e), fun p hp => absurd (show p ∈ ([] : List (Addr × Obj)) from hp) (by simp)⟩
  have fr0 : ∀ b ∈ fp, upd H2 s2.heap.objs.size (.lst []) b = none := fun b hb => by
    rw [upd_ne (below b (fpLt b hb)).2]
    exact (f2 b hb).1
  have tn0 : tn 0 h₁ := T.keep _ _ _ st2 fun b _ o e => old b o e
  -- the block's state seen from around it, its names gone
  have back : ∀ {Hk : Hp} {s5 : Shared} {σ5 : St} {pins5 : List (Addr × Obj)}, Inv (compCx X N' scope cl C fp s2 H2) pins5 σ5 Hk s5 → ∀ h' : Heap, Heap.SameBut C s5.heap h' → Inv X pins σ Hk { s5 with heap := h' } := fun {Hk s5 σ5 pins5} I5 h' sb => by
    have u : Un (frs X.stack) fp H2 Hk s2.heap s5.heap := I5.base
    have ne : ∀ b o, s2.heap.get? b = some o → b ≠ C := fun b o e => (below b (Heap.lt_size e)).1
    have hCk : Hk C = none := I5.free
    have un : Un (frs X.stack) fp H2 Hk s2.heap h' := ⟨fun b o e n hf hx => (sb.2 b (ne b o e)).trans (u.keep b o e n hf hx), fun b o e n hf hx => let ⟨sl, e1⟩ := u.slot b o e n hf hx; ⟨sl, (sb.2 b (ne b o e)).trans e1⟩, u.free, fun b o e hx => let ⟨o', e1⟩ := u.there b o e hx; ⟨o', (sb.2 b (ne b o e)).trans e1⟩, u.tups, u.frzs, u.tbls⟩
    have hok : HOk X.prog X.w Hk h' := fun a o e => (I5.hok a o e).stay (fun b v hb z => (sb.2 b (fun z2 => by
      rw [z2] at hb
      rcases hb with hb | hb
      · rw [← hb, hCk] at e; cases e
      · rw [hCk] at hb; cases hb)).trans z) (fun _ z => z) fun _ _ z => z
    exact I2.call' (s' := { s5 with heap := h' }) (ch := fp) I5.os un hok I5.bare fun b hb => ⟨(f2 b hb).2.2.2.1, (f2 b hb).2.1, (f2 b hb).2.2.2.2.1, (f2 b hb).2.2.2.2.2⟩
  have fin : ∀ {Hk : Hp} {s5 : Shared}, Inv (compCx X N' scope cl C fp s2 H2) [] (none :: capt σ js) Hk s5 → Dn.nx (σ.set i (some (.ref s2.heap.objs.size))) Hk →
      compPost (model X.prog X.w) X.A X.xe (some (assign (.Name y py) X.env)) (fun _ s' => SP X pins Dn .next s') (.ref s2.heap.objs.size) C (.ok .next) s5 := fun {Hk s5} I5 q => by
    show wpAny _ X.A (assign (.Name y py) X.env (.ref s2.heap.objs.size)) _ _ s5
    obtain ⟨m, hm, _⟩ := I5.loc
    have hm : s5.heap.Ns C m := hm
    obtain ⟨oC, es, ep, hoC, hdC, rC⟩ := id hm
    have hCk : Hk C = none := I5.free
    have I6 : Inv X pins σ Hk s5 := back I5 s5.heap (Heap.SameBut.refl C _)
    have CL : C ≠ X.env.locals := fun z => by
      have l := I2.lt
      rw [← z, hCs] at l
      exact absurd (Nat.lt_trans (Nat.lt_succ_self _) l) (Nat.lt_irrefl _)
    have Cge : s2.heap.objs.size ≤ C := by rw [hCs]; exact Nat.le_succ _
    have I6p : Inv X (pins ++ [(C, oC)]) σ Hk s5 := by
      refine I6.pins_of fun p hp => ?_
      rcases List.mem_append.mp hp with hp | hp
      · exact I6.pin p (List.mem_append_right _ hp)
      · rw [List.mem_singleton.mp hp]
        refine ⟨hoC, hCk, CL, fun z => I2.nofs Cge z, fun v z => ?_⟩
        have z' : oC.data = .cell v := z
        rw [hdC] at z'
        cases z'
    refine wpAny_assign_Name (store_ok I6p hN hi' (.inl hy) (v := .ref s2.heap.objs.size) rfl (fun s6 I7 => ?_) (.inr hy))
    have p7 := (I7.pin (C, oC) (List.mem_append_right _ (List.mem_append_right _ (List.mem_singleton.mpr rfl)))).1
    refine ⟨m, ⟨oC, es, ep, p7, hdC, rC⟩, fun h' sb => ⟨_, Hk, (Inv.unpinned (pl := [(C, oC)]) I7).turned (t' := s6.toks) (it := C) (fun b o hb e => (sb.2 b hb).trans e) hCk CL (.inr (Nat.le_trans I2.sz Cge)) (fun z c e zc => ?_) (fun p hp zc => ?_), q⟩⟩
    · obtain ⟨v, o, ho, _⟩ := I2.cell z c e
      have := Heap.lt_size ho
      rw [zc] at this
      exact absurd (Nat.lt_of_lt_of_le this Cge) (Nat.lt_irrefl _)
    · have := Heap.lt_size (I2.pin p hp).1
      rw [zc] at this
      exact absurd (Nat.lt_of_lt_of_le this Cge) (Nat.lt_irrefl _)
  have loop : codeAny (model X.prog X.w) X.A (.compLoop (.ListComp elt [⟨.Name x px, iter, [], 0⟩] scope pos) 0 (.ref it) (.ref s2.heap.objs.size) (compEnvC scope cl C X.env))
      (compPost (model X.prog X.w) X.A X.xe (some (assign (.Name y py) X.env)) (fun _ s' => SP X pins Dn .next s') (.ref s2.heap.objs.size) C) { s2 with heap := h₁, toks := s2.toks + ([] : List (Str × Value)).length } := by
    refine codeAny_loop rfl (fun n s' => ∃ i ys Hk, Inv (compCx X N' scope cl C fp s2 H2) [] (none :: capt σ js) Hk s' ∧ tn i s'.heap ∧ (∀ b ∈ fp, Hk b = none) ∧ W i n ys Hk) ?_ m0 ⟨0, [], _, I3, tn0, fr0, w0⟩
    rintro n s4 ⟨i, ys, Hk, I4, st4, fr4, w4⟩
    show wpAny _ X.A ((compTurn (.ListComp elt [⟨.Name x px, iter, [], 0⟩] scope pos) 0 (.ref it) (.ref s2.heap.objs.size) (compEnvC scope cl C X.env)).onRaise (fun x => do noteFrame x (compEnvC scope cl C X.env); theTreesLotGoes x)) _ _ s4
    refine wpAny_noted (wpAny_noRaise ?_)
    rw [compTurn_list1]
    refine wpAny_bind (wpAny_standAt (wpAny_bind ?_))
    rcases turn i n ys Hk w4 with ⟨stop, qn⟩ | ⟨go, hz, step⟩
    · refine thn (T.done (compCx X N' scope cl C fp s2 H2) rfl rfl rfl hc i [] s4 _ Hk _ I4 (stat fr4) st4 stop) fun r s5 ⟨hr, I5⟩ => ?_
      subst hr
      exact wpAny_pure (fin I5 qn)
    · refine thn (T.item (compCx X N' scope cl C fp s2 H2) rfl rfl rfl hc i [] s4 _ Hk _ I4 (stat fr4) st4 go) fun r s5 ⟨u, hr, h5⟩ => ?_
      subst hr
      refine wpAny_bind (thn h5 fun _ s6 ⟨x6, H6, I6, r6, y6, st6, fr6⟩ => ?_)
      have I6' := I6.pinned (stat fr6) (T.obj _ _ st6)
      refine wpAny_bind (thn (pg_name (X := compCx X N' scope cl C fp s2 H2) (i := 0) (x := x) G.nd G.x0 (.inl (lookup_relabel_local G.xl)) (.inr (lookup_relabel_local G.xl)) _ s6 _ H6 x6 u (fun σ2 H2' => σ2 = some x6 :: capt σ js ∧ H2' = H6) I6' r6 ⟨rfl, rfl⟩) fun _ s7 ⟨σ7, H7, I7, e7, e7'⟩ => ?_)
      subst e7 e7'
      refine wpAny_bind (wpAny_bind (thn (he C fp s2 H2 _ s7 _ H7 _ I7 (step x6 H7 y6)) fun w8 s8 ⟨y8, H8, I8, r8, q8⟩ => ?_))
      obtain ⟨q8, m', hm', w8'⟩ := q8
      refine wpAny_bind (thn (mt_append (X := compCx X N' scope cl C fp s2 H2) _ s8 _ H8 (.ref s2.heap.objs.size) [y8] (.ref s2.heap.objs.size) [w8] (fun v H' => H' = upd H8 s2.heap.objs.size (.lst (ys ++ [y8]))) I8 rfl (.cons r8 .nil) ⟨_, ys, y8, rfl, rfl, q8, hz, rfl⟩) fun _ s9 ⟨v9, H9, I9, r9, e9⟩ => ?_)
      subst e9
      refine wpAny_pure (wpAny_pure ⟨rfl, m', hm', i + 1, ys ++ [y8], _, I9.unpinned.weak rfl (fun k v e => ?_), T.keep _ _ _ st6 fun b hb o e => (I9.pin (b, o) (List.mem_append_right _ (List.mem_append_right _ (mem_pinsAt hb e)))).1, fun b hb => ?_, w8'⟩)
      · cases k with
        | zero => cases e
        | succ k => exact e
      · obtain ⟨o, e, d⟩ := T.obj _ _ st6 b hb
        exact (I9.pin (b, o) (List.mem_append_right _ (List.mem_append_right _ (mem_pinsAt hb e)))).2.1
  exact codeAny_compStart_list loop (T.self _ 0 _ _ _ tn0 loop)
end
/-! ### rows kept closed: a long body is put together without being looked into -/
structure PSw (X : Cx) (st : Stmt) (t : TS) : Prop where
  h : PS X st t
structure PSsw (X : Cx) (sts : List Stmt) (t : TS) : Prop where
  h : PSs X sts t
section
variable {X : Cx} {st : Stmt} {rest : List Stmt} {t u : TS} {pos : Pos} {e : Expr} {te : TE}
theorem psw_cons (h1 : PSw X st t) (h2 : PSsw X rest u) : PSsw X (st :: rest) (tSeq t u) := ⟨pss_cons h1.h h2.h⟩
theorem psw_one (h1 : PSw X st t) : PSsw X [st] t := ⟨pss_one h1.h⟩
theorem psw_open {sts : List Stmt} {R : TS → Prop} (h : ∃ t, PSsw X sts t ∧ R t) : ∃ t, PSs X sts t ∧ R t := let ⟨t, a, b⟩ := h; ⟨t, a.h, b⟩
theorem psw_set {i : Nat} {x : Str} {pos' : Pos} (hN : X.N.Nodup) (hi : X.N[i]? = some x) (hx : Loc X.env.scope x) (he : PE X e te) (hs : swapsWith e (some (.Name x pos')) pos.line X.env = pure false := by rfl) (hf : X.fn x = true ∨ X.env.scope.names.lookup x = some .local := by first | exact .inl rfl | exact .inr rfl | assumption) :
    PSw X (.Assign [.Name x pos'] e pos) (tAsg te (gName i)) := ⟨ps_set hN hi hx he hs hf⟩
theorem psw_if {c : Expr} {a b : List Stmt} {tc : TT} (hc : PT X c tc) (ha : PSs X a t) (hb : PSs X b u) : PSw X (.If c a b pos) (tIfS tc t u) := ⟨ps_if hc ha hb⟩
theorem psw_ret (he : PE X e te) : PSw X (.Return (some e) pos) (tRet te) := ⟨ps_ret he⟩
theorem psw_expr (he : PE X e te) (hs : swapsWith e none pos.line X.env = pure false := by rfl) : PSw X (.Expr e pos) (tDrop te) := ⟨ps_expr he hs⟩
theorem psw_for {tg iter : Expr} {body : List Stmt} {wi : TI} {g : TG} {tb : TS} (hp : PassesOwn (model X.prog X.w) X.A X.env X.xe) (hc : X.calm = true) (hi : PI X tg iter wi) (hg : PG X tg g) (hb : PSs X body tb) (hs : ∀ x, foldedSetIterable iter X.env x = pure x := by intro _; rfl) :
    PSw X (.For tg iter body [] pos) (tFor wi g tb) := ⟨ps_for hp hc hi hg hb hs⟩
theorem psw_setLC {wi : TI} {telt : TE} {N' : List Str} {js : List Nat} {cl : List (Str × Addr)} {i : Nat} {y : Str} {py spos : Pos} {elt iter : Expr} {x : Str} {px : Pos} {scope : Scope} (hc : X.calm = true) (hN : X.N.Nodup) (hi' : X.N[i]? = some y) (hy : X.env.scope.names.lookup y = some .local) (hi : PI X (.Name x px) iter wi) (G : CompOk X N' js x scope cl)
    (he : ∀ C fp s2 H2, PE (compCx X N' scope cl C fp s2 H2) elt telt) (hsw : swapsWith (.ListComp elt [⟨.Name x px, iter, [], 0⟩] scope pos) (some (.Name y py)) spos.line X.env = pure true := by rfl) (hs : ∀ x, foldedSetIterable iter X.env x = pure x := by intro _; rfl) :
    PSw X (.Assign [.Name y py] (.ListComp elt [⟨.Name x px, iter, [], 0⟩] scope pos) spos) (tAsg (tLC wi js telt) (gName i)) := ⟨ps_setLC hc hN hi' hy hi G he hsw hs⟩
end
end L2
namespace Rp
open PySem PySem.NumText L2 Fig
section
variable {P : Program} {w : World} {K : PySem.W.Frag} {mg : Str → Option Value} {base : Heap} {f : Addr} {fd : FuncData}
theorem scLaw : FnScope ["_law_script", "_law_bad", "_law_numbers", "_law_parts", "_law_row", "_law_k", "_law_spot", "_law_line", "_law_which", "_law_told"] ["_law_script"] (defScope sLaw) := ⟨rfl, rfl, rfl, by decide +kernel, rfl, by decide +kernel, by decide +kernel⟩
theorem ok_law {cr : Addr} (F : Fun K "law" "law" sLaw f fd) (g : GB mg) (fD : ReadyX P w K mg base "read" ["line"] (spRead cr)) (fC : Ready P w K mg base "_law_cell_at" ["_law_script", "_law_k"] (spCell K)) (fB : Ready P w K mg base "_law_bounded" ["_law_cell"] spBnd) (fT : Ready P w K mg base "is_tidy" ["line"] spTidyP)
    (fR : ∃ a d, FnOk P w K mg base CX0 10 a d ["_law_which", "_law_line"] spRefuses ∧ Binds K d ["_law_which", "_law_line"] [] ∧ PySem.W.keepIn K (.ref a) = true ∧ mg "_law_refuses" = some (.ref a)) : FnOk P w K mg base CX0 11 f fd ["_law_script"] (spLaw K) := by
  refine F.ok scLaw (fun vs H Q E h => ?_) (fun cdv A outer s H vs Q E hr h => ?_)
  · obtain ⟨n, ns, rfl, _⟩ := h
    rfl
  obtain ⟨a0, ns0, rfl, hS, h63, q⟩ := h
  have line := line_big
  obtain ⟨aD, dD, GD, bD, kD, mD⟩ := fD
  obtain ⟨aC, dC, GC, bC, kC, mC⟩ := fC
  obtain ⟨aB, dB, GB, bB, kB, mB⟩ := fB
  obtain ⟨aT, dT, GT, bT, kT, mT⟩ := fT
  obtain ⟨aR, dR, GR, bR, kR, mR⟩ := fR
  replace GD := GD.mono (show 8 ≤ 10 by decide)
  replace GC := GC.mono (show 8 ≤ 10 by decide)
  replace GB := GB.mono (show 8 ≤ 10 by decide)
  replace GT := GT.mono (show 8 ≤ 10 by decide)
  refine psw_open ?_
  refine ⟨_, (psw_cons (psw_set (i := 0) scLaw.nd rfl (Or.inl rfl) (pe_slice sl_list (pv 0) po_none (po_some pe_int)))
    (psw_cons (psw_set (i := 1) scLaw.nd rfl (Or.inl rfl) (pe_lst (pa_strs (zs := bads1) (by decide +kernel))))
    (psw_cons (psw_set (i := 1) scLaw.nd rfl (Or.inl rfl) (pe_op op_cat (pv 1) (pe_lst (pa_strs (zs := bads2) (by decide +kernel)))))
    (psw_cons (psw_setLC (i := 2) rfl scLaw.nd rfl rfl (pi_list (pe_op op_cat (pe_slice sl_list (pv 0) (po_some pe_int) (po_some pe_int)) (pe_lst (pa_cons (pe_call GC hr rfl mC kC bC .nil pass0 (pa_cons (pv 0) (pa_cons pe_int pa_nil))) pa_nil)))) (compOk0 (by decide +kernel)) (fun C fp s2 H2 => pe_call GB hr rfl mB kB bB .nil pass0 (pa_cons (pv 0) pa_nil)))
    (psw_cons (psw_if (pt_cmpR op_lt (pe_callB call_len_seq rfl g.len PySem.boot_len (pa_cons (pv 2) pa_nil)) pe_int (nomark _)) (pss_one (ps_expr (pe_bm PySem.F.plainAttrs_list PySem.F.slot_list_append PySem.F.type_list_append mt_append (pv 2) (pa_cons (pe_call GB hr rfl mB kB bB .nil pass0 (pa_cons (pe_call GC hr rfl mC kC bC .nil pass0 (pa_cons (pv 0) (pa_cons pe_int pa_nil))) pa_nil)) pa_nil)))) pss_nil)
    (psw_cons (psw_setLC (i := 3) rfl scLaw.nd rfl rfl (pi_list (pv 2)) (compOk0 (by decide +kernel)) (fun C fp s2 H2 => pe_callTy call_str_int rfl g.str b_str (pa_cons (pv 0) pa_nil)))
    (psw_cons (psw_set (i := 4) scLaw.nd rfl (Or.inl rfl) (pe_call GD hr rfl mD kD bD .nil passF (pa_cons (pe_bm PySem.F.plainAttrs_str PySem.F.slot_str_join PySem.F.type_str_join mt_join pe_str (pa_cons (pv 3) pa_nil)) pa_nil)))
    (psw_cons (psw_if (PW.pt (pw_or (pt_not (pt_val (pe_callB call_isi rfl g.isi b_isi (pa_cons (pv 4) (pa_cons (pe_bltn (v := .ty "list") rfl g.list b_list rfl) pa_nil))))) (pw_or1 (pt_cmpR op_ne (pe_callB call_len_seq rfl g.len PySem.boot_len (pa_cons (pv 4) pa_nil)) (pe_callB call_len_seq rfl g.len PySem.boot_len (pa_cons (pv 2) pa_nil)) (nomark _))))) (pss_one (ps_ret pe_bl)) pss_nil)
    (psw_cons (psw_for PassesOwn.never rfl (pi_range1 rfl g.range (pa_cons (pe_callB call_len_seq rfl g.len PySem.boot_len (pa_cons (pv 4) pa_nil)) pa_nil)) (pg_name (i := 5) scLaw.nd rfl (Or.inl rfl))
      (pss_cons (ps_if (PW.pt (pw_or (pt_not (pt_val (pe_callB call_isi rfl g.isi b_isi (pa_cons (pe_ix ix_list (pv 4) (pv 5) (fun _ _ => rfl)) (pa_cons (pe_bltn (v := .ty "int") rfl g.int b_int rfl) pa_nil))))) (pw_or1 (pt_val (pe_callB call_isi rfl g.isi b_isi (pa_cons (pe_ix ix_list (pv 4) (pv 5) (fun _ _ => rfl)) (pa_cons (pe_bltn (v := .ty "bool") rfl g.bool b_bool rfl) pa_nil))))))) (pss_one (ps_ret pe_bl)) pss_nil)
      (pss_one (ps_if (pt_cmpR op_ne (pe_ix ix_list (pv 4) (pv 5) (fun _ _ => rfl)) (pe_ix ix_list (pv 2) (pv 5) (fun _ _ => rfl)) (nomark _)) (pss_one (ps_ret pe_bl)) pss_nil))))
    (psw_cons (psw_set (i := 6) scLaw.nd rfl (Or.inl rfl) (pe_op op_mod (pe_call GC hr rfl mC kC bC .nil pass0 (pa_cons (pv 0) (pa_cons pe_int pa_nil))) (pe_op op_add (pe_callB call_len_seq rfl g.len PySem.boot_len (pa_cons (pv 3) pa_nil)) pe_int)))
    (psw_cons (psw_expr (pe_bm PySem.F.plainAttrs_list PySem.F.slot_list_insert PySem.F.type_list_insert mt_insert (pv 3) (pa_cons (pv 6) (pa_cons (pe_ix ix_list (pv 1) (pe_op op_mod (pe_call GC hr rfl mC kC bC .nil pass0 (pa_cons (pv 0) (pa_cons pe_int pa_nil))) pe_int) (fun _ _ => rfl)) pa_nil))))
    (psw_cons (psw_set (i := 7) scLaw.nd rfl (Or.inl rfl) (pe_bm PySem.F.plainAttrs_str PySem.F.slot_str_join PySem.F.type_str_join mt_join pe_str (pa_cons (pv 3) pa_nil)))
    (psw_cons (psw_for PassesOwn.never rfl (pi_range1 rfl g.range (pa_cons pe_int pa_nil)) (pg_name (i := 8) scLaw.nd rfl (Or.inl rfl))
      (pss_one (ps_if (pt_not (pt_val (pe_call GR hr rfl mR kR bR .nil pass0 (pa_cons (pv 8) (pa_cons (pv 7) pa_nil))))) (pss_one (ps_ret pe_bl)) pss_nil)))
    (psw_cons (psw_set (i := 9) scLaw.nd rfl (Or.inl rfl) (pe_call GT hr rfl mT kT bT .nil pass0 (pa_cons (pv 7) pa_nil)))
    (psw_one (psw_ret (pe_and (pe_callB call_isi rfl g.isi b_isi (pa_cons (pv 9) (pa_cons (pe_bltn (v := .ty "bool") rfl g.bool b_bool rfl) pa_nil))) (pe_one (pe_not (pv 9)))))))))))))))))))), ?_⟩
  refine seq (fun σ' H' => ∃ (p : Addr) (ms : List Int), σ' = [some (.ref p), none, none, none, none, none, none, none, none, none] ∧ H' p = some (.lst (ms.map V.int))) (fun D' _ k => ?_) ?_
  · refine ⟨_, rfl, _, rfl, a0, _, rfl, hS, fun p hp => ?_⟩
    obtain ⟨ms, em, hm⟩ := cut_ints ns0 none (some 500)
    refine k _ _ ⟨p, ms, rfl, by rw [upd_same, ← em]⟩
  rintro σ1 H1 ⟨p, ms, rfl, hp⟩
  clear hS h63
  -- the bad parts
  refine seq (fun σ' H' => ∃ b0 : Addr, σ' = [some (.ref p), some (.ref b0), none, none, none, none, none, none, none, none] ∧ H' p = some (.lst (ms.map V.int)) ∧ H' b0 = some (.lst (bads1.map V.str))) (fun D' _ k => ?_) ?_
  · exact ⟨by show 11 ≤ sizeLine; omega, fun l hl => k _ _ ⟨l, rfl, same_new hl _ _ _ hp, upd_same⟩⟩
  rintro σ2 H2 ⟨b0, rfl, hp2, hb0⟩
  refine seq (fun σ' H' => ∃ b1 : Addr, σ' = [some (.ref p), some (.ref b1), none, none, none, none, none, none, none, none] ∧ H' p = some (.lst (ms.map V.int)) ∧ H' b1 = some (.lst (bads.map V.str))) (fun D' _ k => ?_) ?_
  · refine ⟨_, rfl, by show 11 ≤ sizeLine; omega, fun l hl => ⟨b0, l, _, _, rfl, rfl, same_new hl _ _ _ hb0, upd_same, by show 11 + 11 ≤ sizeLine; omega, fun l2 hl2 => ?_⟩⟩
    exact k _ _ ⟨l2, rfl, same_new hl2 _ _ _ (same_new hl _ _ _ hp2), by rw [upd_same]; show _ = some (HO.lst ((bads1 ++ bads2).map V.str)); rw [List.map_append]⟩
  rintro σ3 H3 ⟨b1, rfl, hp3, hb1⟩
  -- the numbers
  refine seq (fun σ' H' => ∃ (nl : Addr) (ns : List Int), σ' = [some (.ref p), some (.ref b1), some (.ref nl), none, none, none, none, none, none, none] ∧ H' p = some (.lst (ms.map V.int)) ∧ H' b1 = some (.lst (bads.map V.str)) ∧ H' nl = some (.lst (ns.map V.int)) ∧ p ≠ nl ∧ b1 ≠ nl ∧ 1 ≤ ns.length ∧ ns.length ≤ 11 ∧ ∀ n ∈ ns, n.natAbs < 10 ^ 60) (fun D' _ k => ?_) ?_
  · refine ⟨_, rfl, _, rfl, _, rfl, p, _, rfl, SqL.of hp3, fun c1 hc1 => ?_⟩
    have hcut : ∃ cs : List Int, cutV (ms.map V.int) (some 3) (some 13) = cs.map V.int ∧ cs.length ≤ 10 := by
      refine ⟨(ms.drop (HT.sIx ms.length 0 (some 3))).take (HT.sIx ms.length ms.length (some 13) - HT.sIx ms.length 0 (some 3)), ?_, ?_⟩
      · unfold cutV
        rw [List.length_map, List.map_take, List.map_drop]
      · rw [List.length_take]
        have h1 : HT.sIx ms.length ms.length (some 13) = min 13 ms.length := by simp [HT.sIx]
        have h2 : HT.sIx ms.length 0 (some 3) = min 3 ms.length := by simp [HT.sIx]
        omega
    obtain ⟨cs, em, hcs⟩ := hcut
    rw [em] at *
    have s1 := same_new hc1 (.lst (cs.map V.int))
    refine ⟨_, rfl, p, ms, 1, rfl, SqL.of (s1 _ _ hp3), by decide, fun i => ⟨by show 1 ≤ sizeLine; omega, fun c2 hc2 => ?_⟩⟩
    have s2 := same_new hc2 (.lst [V.int i])
    refine ⟨c1, c2, _, _, rfl, rfl, s2 _ _ upd_same, upd_same, by rw [List.length_map]; show cs.length + 1 ≤ sizeLine; omega, fun c3 hc3 => ⟨c3, rfl, ⟨_, SqL.of upd_same⟩, fun D hD => ?_⟩⟩
    have s3 := (s1.trans s2).trans (same_new hc3 (.lst (cs.map V.int ++ [V.int i])))
    have e0 : cs.map V.int ++ [V.int i] = (cs ++ [i]).map V.int := by rw [List.map_append]; rfl
    refine lc_list (Q := fun v H' => gName 2 v [some (.ref p), some (.ref b1), none, none, none, none, none, none, none, none] H' D'.nx) (xs := (cs ++ [i]).map V.int) gB hD (SqL.of (by rw [upd_same, e0])) (by rw [List.length_map, List.length_append]; show cs.length + 1 ≤ sizeLine; omega) (fun x H' Q' hx kk => ?_) ?_
    · obtain ⟨v, _, rfl⟩ := List.mem_map.mp hx
      exact ⟨_, rfl, v, rfl, kk⟩
    · rw [map_gB]
      have s4 := s3.trans (same_new hD (.lst (((cs ++ [i]).map bndF).map V.int)))
      refine k _ _ ⟨D, (cs ++ [i]).map bndF, rfl, s4 _ _ hp3, s4 _ _ hb1, upd_same, ne_of_none (s3 _ _ hp3) hD, ne_of_none (s3 _ _ hb1) hD, by rw [List.length_map, List.length_append]; show 1 ≤ cs.length + 1; omega, by rw [List.length_map, List.length_append]; show cs.length + 1 ≤ 11; omega, fun n hn => ?_⟩
      obtain ⟨v, _, rfl⟩ := List.mem_map.mp hn
      exact bndF_lt v
  rintro σ4 H4 ⟨nl, ns1, rfl, hp4, hb4, hn4, hpn, hbn, l1, l11, bd⟩
  refine seq (fun σ' H' => ∃ (ns : List Int), σ' = [some (.ref p), some (.ref b1), some (.ref nl), none, none, none, none, none, none, none] ∧ H' p = some (.lst (ms.map V.int)) ∧ H' b1 = some (.lst (bads.map V.str)) ∧ H' nl = some (.lst (ns.map V.int)) ∧ 1 ≤ ns.length ∧ ns.length ≤ 11 ∧ ∀ n ∈ ns, n.natAbs < 10 ^ 60) (fun D' _ k => ?_) ?_
  · refine ⟨_, rfl, nl, _, rfl, .inl (SqL.of hn4), _, _, rfl, rfl, _, rfl, ite2 (fun c => ?_) (fun _ => k _ _ ⟨ns1, rfl, hp4, hb4, hn4, l1, l11, bd⟩)⟩
    have c' : (((ns1.map V.int).length : Nat) : Int) < 2 := of_decide_eq_true c
    rw [List.length_map] at c'
    refine ⟨_, rfl, .inl ⟨rfl, _, SqL.of hn4⟩, _, rfl, p, ms, 2, rfl, SqL.of hp4, by decide, fun i => ⟨i, rfl, nl, _, _, rfl, rfl, hn4, by rw [List.length_map]; omega, ?_⟩⟩
    refine k _ _ ⟨ns1 ++ [bndF i], rfl, by rw [upd_ne hpn]; exact hp4, by rw [upd_ne hbn]; exact hb4, by rw [upd_same, List.map_append]; rfl, by rw [List.length_append]; omega, by rw [List.length_append]; show ns1.length + 1 ≤ 11; omega, fun n hn => ?_⟩
    rcases List.mem_append.mp hn with h | h
    · exact bd n h
    · rw [List.mem_singleton.mp h]; exact bndF_lt i
  rintro σ5 H5 ⟨ns, rfl, hp5, hb5, hn5, l1', l11', bd'⟩
  clear l1 l11 bd hn4
  have tx := tx_ones ns bd'
  obtain ⟨j1, j2, j3, j4⟩ := tx.join (by decide) (by rw [List.length_map]; omega)
  -- the parts
  refine seq (fun σ' H' => ∃ pl : Addr, σ' = [some (.ref p), some (.ref b1), some (.ref nl), some (.ref pl), none, none, none, none, none, none] ∧ H' p = some (.lst (ms.map V.int)) ∧ H' b1 = some (.lst (bads.map V.str)) ∧ H' nl = some (.lst (ns.map V.int)) ∧ H' pl = some (.lst ((ns.map fun n => Str.ofString (toString n)).map V.str)) ∧ p ≠ pl ∧ b1 ≠ pl) (fun D' _ k => ?_) ?_
  · refine tLC_list nl (ns.map V.int) gS (fun Q' kk => ⟨_, rfl, kk⟩) (SqL.of hn5) (by rw [List.length_map]; omega) (fun x H' Q' hx kk => ?_) (fun D hD => ?_)
    · obtain ⟨v, hv, rfl⟩ := List.mem_map.mp hx
      exact ⟨_, rfl, v, rfl, log_k (by decide : 60 ≤ 500) (bd' v hv), kk⟩
    · rw [map_gS]
      have s1 := same_new hD (.lst ((ns.map fun n => Str.ofString (toString n)).map V.str))
      exact k _ _ ⟨D, rfl, s1 _ _ hp5, s1 _ _ hb5, s1 _ _ hn5, upd_same, ne_of_none hp5 hD, ne_of_none hb5 hD⟩
  rintro σ6 H6 ⟨pl, rfl, hp6, hb6, hn6, hl6, hppl, hbpl⟩
  refine seq (fun σ' H' => ∃ rw0 : Addr, σ' = [some (.ref p), some (.ref b1), some (.ref nl), some (.ref pl), some (.ref rw0), none, none, none, none, none] ∧ H' p = some (.lst (ms.map V.int)) ∧ H' b1 = some (.lst (bads.map V.str)) ∧ H' nl = some (.lst (ns.map V.int)) ∧ H' pl = some (.lst ((ns.map fun n => Str.ofString (toString n)).map V.str)) ∧ H' rw0 = some (.lst (ns.map V.int))) (fun D' _ k => ?_) ?_
  · refine ⟨rfl, _, rfl, _, pl, _, rfl, rfl, SqL.of hl6, j1, _, rfl, j3, fun ps' e => ?_, fun e => ?_⟩
    · rw [j4] at e
      cases e
      rw [vals_ones]
      exact ⟨by omega, fun p5 H' sm _ h5 => k _ _ ⟨p5, rfl, sm _ _ hp6, sm _ _ hb6, sm _ _ hn6, sm _ _ hl6, h5⟩⟩
    · rw [j4] at e
      cases e
  rintro σ7 H7 ⟨r0, rfl, hp7, hb7, hn7, hl7, hr7⟩
  refine seq (fun σ' H' => H' = H7 ∧ σ' = [some (.ref p), some (.ref b1), some (.ref nl), some (.ref pl), some (.ref r0), none, none, none, none, none]) (fun D' _ k => ?_) ?_
  · refine ⟨_, rfl, _, _, _, _, true, rfl, rfl, .lst hr7, kit_same _ _, _, rfl, iteF ?_⟩
    exact ⟨_, rfl, r0, _, rfl, .inl (SqL.of hr7), _, rfl, nl, _, rfl, .inl (SqL.of hn7), rfl, _, rfl, iteNS rfl (k _ _ ⟨rfl, rfl⟩)⟩
  rintro σ8 H8 ⟨rfl, rfl⟩
  refine seq (fun σ' H' => H' = H8 ∧ ∃ d5, σ' = [some (.ref p), some (.ref b1), some (.ref nl), some (.ref pl), some (.ref r0), d5, none, none, none, none]) (fun D' _ k => ?_) ?_
  · refine ⟨_, rfl, r0, _, rfl, .inl (SqL.of hr7), _, rfl, by rw [List.length_map]; omega, by rw [List.length_map]; omega, ?_⟩
    rw [List.length_map, Int.toNat_natCast]
    refine for_range (fun i σ H' => H' = H8 ∧ ∃ d5, σ = [some (.ref p), some (.ref b1), some (.ref nl), some (.ref pl), some (.ref r0), d5, none, none, none, none]) ⟨rfl, none, rfl⟩ ?_ (fun σ H' h => k _ _ h)
    rintro i σ H9 hi ⟨rfl, d5, rfl⟩
    have hz : (0 : Int) + (i : Int) = (i : Int) := Int.zero_add _
    rw [hz]
    have av : atI (ns.map V.int) (i : Int) = some (.int ns[i]) := atI_nat (by rw [List.getElem?_map, List.getElem?_eq_getElem hi]; rfl)
    refine seq (fun σ' H' => H' = H9 ∧ σ' = [some (.ref p), some (.ref b1), some (.ref nl), some (.ref pl), some (.ref r0), some (.int i), none, none, none, none]) (fun D'' _ k2 => ?_) ?_
    · refine ⟨_, rfl, _, rfl, r0, _, _, _, rfl, rfl, SqL.of hr7, av, _, _, _, _, true, rfl, rfl, .int _, kit_same _ _, _, rfl, iteF ?_⟩
      exact ⟨_, rfl, _, rfl, r0, _, _, _, rfl, rfl, SqL.of hr7, av, _, _, _, _, false, rfl, rfl, .int _, kit_int_bool _, _, rfl, iteF (k2 _ _ ⟨rfl, rfl⟩)⟩
    rintro σ10 H10 ⟨rfl, rfl⟩
    exact ⟨_, rfl, _, rfl, r0, _, _, _, rfl, rfl, SqL.of hr7, av, _, rfl, _, rfl, nl, _, _, _, rfl, rfl, SqL.of hn7, av, rfl, _, rfl, iteNS rfl ⟨rfl, _, rfl⟩⟩
  rintro σ9 H9 ⟨rfl, d5, rfl⟩
  -- the place
  refine seq (fun σ' H' => H' = H9 ∧ ∃ k : Nat, k ≤ ns.length ∧ σ' = [some (.ref p), some (.ref b1), some (.ref nl), some (.ref pl), some (.ref r0), d5, some (.int k), none, none, none]) (fun D' _ k => ?_) ?_
  · refine ⟨_, rfl, p, ms, 2, rfl, SqL.of hp7, by decide, fun i => ⟨_, rfl, pl, _, rfl, .inl (SqL.of hl7), _, _, rfl, rfl, _, _, rfl, rfl, ?_, ?_⟩⟩
    · rw [List.length_map, List.length_map]
      show (0 : Int) < (ns.length : Int) + 1
      omega
    · rw [List.length_map, List.length_map]
      have h1 := Int.emod_nonneg i (show ((ns.length : Int) + 1) ≠ 0 by omega)
      have h2 := Int.emod_lt_of_pos i (show (0 : Int) < (ns.length : Int) + 1 by omega)
      exact k _ _ ⟨rfl, (i % ((ns.length : Int) + 1)).toNat, by omega, by rw [show (((i % ((ns.length : Int) + 1)).toNat : Nat) : Int) = i % ((ns.length : Int) + 1) by omega]; rfl⟩
  rintro σ10 H10 ⟨rfl, k0, hk0, rfl⟩
  -- the bad part goes in
  refine seq (fun σ' H' => ∃ b ∈ bads, σ' = [some (.ref p), some (.ref b1), some (.ref nl), some (.ref pl), some (.ref r0), d5, some (.int k0), none, none, none] ∧ H' pl = some (.lst (((ns.map fun n => Str.ofString (toString n)).take k0 ++ b :: (ns.map fun n => Str.ofString (toString n)).drop k0).map V.str))) (fun D' _ k => ?_) ?_
  · refine ⟨_, rfl, .inl ⟨rfl, _, SqL.of hl7⟩, _, rfl, _, rfl, _, rfl, p, ms, 0, rfl, SqL.of hp7, by decide, fun i => ⟨_, _, rfl, rfl, (show (0 : Int) < 22 by decide), ?_⟩⟩
    have h1 := Int.emod_nonneg i (show (22 : Int) ≠ 0 by decide)
    have h2 := Int.emod_lt_of_pos i (show (0 : Int) < 22 by decide)
    have hj : (i % 22).toNat < bads.length := by rw [bads_len]; omega
    have ab : atI (bads.map V.str) (i % 22) = some (.str bads[(i % 22).toNat]) := by
      have z : atI (bads.map V.str) (((i % 22).toNat : Nat) : Int) = some (.str bads[(i % 22).toNat]) := atI_nat (by rw [List.getElem?_map, List.getElem?_eq_getElem hj]; rfl)
      rwa [Int.toNat_of_nonneg h1] at z
    refine ⟨b1, _, _, _, rfl, rfl, SqL.of hb7, ab, pl, _, k0, _, rfl, rfl, hl7, by rw [List.length_map, List.length_map]; exact hk0, by rw [List.length_map, List.length_map]; omega, ?_⟩
    refine k _ _ ⟨_, List.getElem_mem hj, rfl, ?_⟩
    rw [upd_same, List.map_append, List.map_cons, List.map_take, List.map_drop]
  rintro σ11 H11 ⟨b, mb, rfl, hl11⟩
  obtain ⟨w1, w2, w3⟩ := bad_line bd' (fun z => by rw [z] at l1'; simp at l1') l11' mb k0
  generalize (ns.map fun n => Str.ofString (toString n)).take k0 ++ b :: (ns.map fun n => Str.ofString (toString n)).drop k0 = zs at hl11 w1 w2 w3
  refine seq (fun σ' H' => H' = H11 ∧ σ' = [some (.ref p), some (.ref b1), some (.ref nl), some (.ref pl), some (.ref r0), d5, some (.int k0), some (.str (Txt.join (Str.ofString " ") zs)), none, none]) (fun D' _ k => ?_) ?_
  · exact ⟨rfl, _, rfl, _, pl, zs, rfl, rfl, SqL.of hl11, w1, k _ _ ⟨rfl, rfl⟩⟩
  rintro σ12 H12 ⟨rfl, rfl⟩
  refine seq (fun σ' H' => ∃ d8, σ' = [some (.ref p), some (.ref b1), some (.ref nl), some (.ref pl), some (.ref r0), d5, some (.int k0), some (.str (Txt.join (Str.ofString " ") zs)), d8, none]) (fun D' _ k => ?_) ?_
  · refine ⟨_, rfl, by decide, by decide, ?_⟩
    refine for_range (fun i σ H' => ∃ d8, σ = [some (.ref p), some (.ref b1), some (.ref nl), some (.ref pl), some (.ref r0), d5, some (.int k0), some (.str (Txt.join (Str.ofString " ") zs)), d8, none]) ⟨none, rfl⟩ ?_ (fun σ H' h => k _ _ h)
    rintro i σ H13 hi ⟨d8, rfl⟩
    exact ⟨_, rfl, _, rfl, _, _, rfl, w2, w3, fun H' _ => ⟨_, rfl, iteF ⟨_, rfl⟩⟩⟩
  rintro σ13 H13 ⟨d8, rfl⟩
  have td : tidyP (Txt.join (Str.ofString " ") zs).cps.toList = false := by unfold tidyP; rw [w3]
  refine seq (fun σ' H' => σ' = [some (.ref p), some (.ref b1), some (.ref nl), some (.ref pl), some (.ref r0), d5, some (.int k0), some (.str (Txt.join (Str.ofString " ") zs)), d8, some (.bl false)]) (fun D' _ k => ?_) ?_
  · refine ⟨_, rfl, _, rfl, w2, fun H' _ => ?_⟩
    rw [td]
    exact k _ _ rfl
  rintro σ14 H14 rfl
  exact ⟨_, rfl, _, _, _, _, true, rfl, rfl, .bl _, kit_same _ _, _, rfl, iteT ⟨_, rfl, _, rfl, q _⟩⟩
end
end Rp
namespace Rp
open PySem PySem.NumText L2 Fig
structure ErrX (K : PySem.W.Frag) (cp cn cr : Addr) : Prop where
  mp : PySem.W.nsIn K mainGlobals "PackError" = some (some (.ref cp))
  mn : PySem.W.nsIn K mainGlobals "NoNumber" = some (some (.ref cn))
  mr : PySem.W.nsIn K mainGlobals "NoRow" = some (some (.ref cr))
  en : PySem.W.excIn K cn bmV "ValueError.__new__" = true
  er : PySem.W.excIn K cr bmV "ValueError.__new__" = true
  kp : CatchCls K cp
  kn : CatchCls K cn
  kr : CatchCls K cr
  snn : PySem.W.subIn K (.ref cn) (.ref cn) = some true
  srr : PySem.W.subIn K (.ref cr) (.ref cr) = some true
  srp : PySem.W.subIn K (.ref cr) (.ref cp) = some true
theorem all_mk {l : PySem.W.OpenLaw} {w : World} {K : PySem.W.Frag} {h : Heap} {mg : Str → Option Value} {fa : Addr} (X : K.In h) (G : h.Ns mainGlobals mg) (hfa : mg "law" = some (.ref fa))
    (g : K.In h → h.Ns mainGlobals mg → GB mg)
    (gN0 : GB mg → K.In h → h.Ns mainGlobals mg → GloN mg)
    (gL0 : K.In h → h.Ns mainGlobals mg → Least mg)
    (gs0 : PySem.W.nsIn K mainGlobals "sum" = some none)
    (er0 : ∃ cp cn cr, ErrX K cp cn cr)
    (d0 : DefAt K "is_number" sIsNumber)
    (d1 : DefAt K "value_of" sValueOf)
    (d2 : DefAt K "number_of" sNumberOf)
    (d3 : DefAt K "number_in" sNumberIn)
    (d4 : DefAt K "same_from" sSame)
    (d5 : DefAt K "rising_from" sRising)
    (d6 : DefAt K "part_at" sPartAt)
    (d7 : DefAt K "count_of" sCount)
    (d8 : DefAt K "part_of" sPartOf)
    (d9 : DefAt K "parts_of" sPartsOf)
    (d10 : DefAt K "numbers_of" sNumbersOf)
    (d11 : DefAt K "read" sRead)
    (d12 : DefAt K "many_in" sManyIn)
    (d13 : DefAt K "first_two" sFirstTwo)
    (d14 : DefAt K "two_behind" sTwoBehind)
    (d15 : DefAt K "is_as_packed" sAsPacked)
    (d16 : DefAt K "is_tidy" sIsTidy)
    (d17 : DefAt K "_law_cell_at" sCellAt)
    (d18 : DefAt K "_law_bounded" sBounded)
    (d19 : DefAt K "_law_asked" sAsked)
    (d20 : DefAt K "_law_refuses" sRefuses)
    (d21 : DefAt K "law" sLaw) :
    ∃ fd : FuncData, (∀ (s : Shared) (v : Value), BindsTo s fd ⟨[v], []⟩ [("_law_script", v)]) ∧ ∀ base : Heap, K.In base → base.Ns mainGlobals mg → FnOk l.prog w K mg base CX0 12 fa fd ["_law_script"] (spLaw K) := by
  have gb := g X G
  have gN := gN0 gb X G
  have gL := gL0 X G
  have gs := PySem.W.mg_none_of X G gs0
  obtain ⟨cp, cn, cr, er⟩ := er0
  have mcn := PySem.W.mg_of X G er.mn
  have mcr := PySem.W.mg_of X G er.mr
  have eR : ErrR K mg cp cr := ⟨PySem.W.mg_of X G er.mp, mcr, er.kp, er.kr, er.srp, er.srr⟩
  obtain ⟨f0, e0, F0, a0⟩ := d0
  obtain ⟨f1, e1, F1, a1⟩ := d1
  obtain ⟨f2, e2, F2, a2⟩ := d2
  obtain ⟨f3, e3, F3, a3⟩ := d3
  obtain ⟨f4, e4, F4, a4⟩ := d4
  obtain ⟨f5, e5, F5, a5⟩ := d5
  obtain ⟨f6, e6, F6, a6⟩ := d6
  obtain ⟨f7, e7, F7, a7⟩ := d7
  obtain ⟨f8, e8, F8, a8⟩ := d8
  obtain ⟨f9, e9, F9, a9⟩ := d9
  obtain ⟨f10, e10, F10, a10⟩ := d10
  obtain ⟨f11, e11, F11, a11⟩ := d11
  obtain ⟨f12, e12, F12, a12⟩ := d12
  obtain ⟨f13, e13, F13, a13⟩ := d13
  obtain ⟨f14, e14, F14, a14⟩ := d14
  obtain ⟨f15, e15, F15, a15⟩ := d15
  obtain ⟨f16, e16, F16, a16⟩ := d16
  obtain ⟨f17, e17, F17, a17⟩ := d17
  obtain ⟨f18, e18, F18, a18⟩ := d18
  obtain ⟨f19, e19, F19, a19⟩ := d19
  obtain ⟨f20, e20, F20, a20⟩ := d20
  obtain ⟨f21, e21, F21, a21⟩ := d21
  have ef := hfa.symm.trans (PySem.W.mg_of X G a21)
  cases ef
  have b0 := F0.binds (ps := ["words"]) fun _ _ _ _ _ _ us hl => match us, hl with | [_], _ => rfl
  have b1 := F1.binds (ps := ["figures"]) fun _ _ _ _ _ _ us hl => match us, hl with | [_], _ => rfl
  have b2 := F2.binds (ps := ["words"]) fun _ _ _ _ _ _ us hl => match us, hl with | [_], _ => rfl
  have b3 := F3.binds (ps := ["words"]) fun _ _ _ _ _ _ us hl => match us, hl with | [_], _ => rfl
  have b4 := F4.binds (ps := ["row", "at"]) fun _ _ _ _ _ _ us hl => match us, hl with | [_, _], _ => rfl
  have b5 := F5.binds (ps := ["row", "at"]) fun _ _ _ _ _ _ us hl => match us, hl with | [_, _], _ => rfl
  have b6 := F6.binds (ps := ["row", "at"]) fun _ _ _ _ _ _ us hl => match us, hl with | [_, _], _ => rfl
  have b7 := F7.binds (ps := ["part"]) fun _ _ _ _ _ _ us hl => match us, hl with | [_], _ => rfl
  have b8 := F8.binds (ps := ["words"]) fun _ _ _ _ _ _ us hl => match us, hl with | [_], _ => rfl
  have b9 := F9.binds (ps := ["line"]) fun _ _ _ _ _ _ us hl => match us, hl with | [_], _ => rfl
  have b10 := F10.binds (ps := ["part"]) fun _ _ _ _ _ _ us hl => match us, hl with | [_], _ => rfl
  have b11 := F11.binds (ps := ["line"]) fun _ _ _ _ _ _ us hl => match us, hl with | [_], _ => rfl
  have b12 := F12.binds (ps := ["line"]) fun _ _ _ _ _ _ us hl => match us, hl with | [_], _ => rfl
  have b13 := F13.binds (ps := ["part"]) fun _ _ _ _ _ _ us hl => match us, hl with | [_], _ => rfl
  have b14 := F14.binds (ps := ["parts", "at"]) fun _ _ _ _ _ _ us hl => match us, hl with | [_, _], _ => rfl
  have b15 := F15.binds (ps := ["parts", "at"]) fun _ _ _ _ _ _ us hl => match us, hl with | [_, _], _ => rfl
  have b16 := F16.binds (ps := ["line"]) fun _ _ _ _ _ _ us hl => match us, hl with | [_], _ => rfl
  have b17 := F17.binds (ps := ["_law_script", "_law_k"]) fun _ _ _ _ _ _ us hl => match us, hl with | [_, _], _ => rfl
  have b18 := F18.binds (ps := ["_law_cell"]) fun _ _ _ _ _ _ us hl => match us, hl with | [_], _ => rfl
  have b19 := F19.binds (ps := ["_law_which", "_law_line"]) fun _ _ _ _ _ _ us hl => match us, hl with | [_, _], _ => rfl
  have b20 := F20.binds (ps := ["_law_which", "_law_line"]) fun _ _ _ _ _ _ us hl => match us, hl with | [_, _], _ => rfl
  refine ⟨e21, fun s v => ?_, fun base _ _ => ?_⟩
  · obtain ⟨oc, od, kV, doc, pm, an, cdv, ct, osl, rfl, lk, hcd⟩ := F21.ex
    exact .of_eq rfl
  have R_is_number : Rdy l.prog w K mg base 1 "is_number" ["words"] spIs := rdy X G (ok_is F0 gN) b0 F0.kp a0
  have R_value_of : Rdy l.prog w K mg base 1 "value_of" ["figures"] spVal := rdy X G (ok_val F1 gN) b1 F1.kp a1
  have R_number_of : RdyC l.prog w K mg base 2 "number_of" ["words"] (spNum cn) := rdyC X G (ok_numC2 F2 R_is_number R_value_of mcn er.en) b2 F2.kp a2
  have R_number_in : RdyX l.prog w K mg base 3 "number_in" ["words"] (spNumInX cr) := rdyX X G (ok_numinX F3 R_number_of mcn er.kn er.snn mcr er.er) b3 F3.kp a3
  have R_same_from : Rdy l.prog w K mg base 1 "same_from" ["row", "at"] (spRun K 0) := rdy X G (ok_same F4 gb) b4 F4.kp a4
  have R_rising_from : Rdy l.prog w K mg base 1 "rising_from" ["row", "at"] (spRun K 1) := rdy X G (ok_rising F5 gb) b5 F5.kp a5
  have R_part_at : Rdy l.prog w K mg base 2 "part_at" ["row", "at"] (spPartAt K) := rdy X G (ok_partat F6 gL R_same_from R_rising_from) b6 F6.kp a6
  have R_count_of : Rdy l.prog w K mg base 1 "count_of" ["part"] (spCount K) := rdy X G (ok_count F7) b7 F7.kp a7
  have R_part_of : RdyX l.prog w K mg base 4 "part_of" ["words"] (spPartOfX cr) := rdyX X G (ok_partofX F8 gL R_number_in R_count_of mcr er.er) b8 F8.kp a8
  have R_parts_of : RdyX l.prog w K mg base 5 "parts_of" ["line"] (spPartsX cr) := rdyX X G (ok_partsX F9 R_part_of) b9 F9.kp a9
  have R_numbers_of : Rdy l.prog w K mg base 1 "numbers_of" ["part"] (spNumbers K) := rdy X G (ok_numbers F10 gb) b10 F10.kp a10
  have R_read : RdyX l.prog w K mg base 6 "read" ["line"] (spRead cr) := rdyX X G (ok_readX F11 R_parts_of R_numbers_of) b11 F11.kp a11
  have R_many_in : RdyX l.prog w K mg base 6 "many_in" ["line"] (spMany cr) := rdyX X G (ok_manyX F12 gs R_parts_of R_count_of) b12 F12.kp a12
  have R_first_two : Rdy l.prog w K mg base 1 "first_two" ["part"] (spTwo K) := rdy X G (ok_first F13) b13 F13.kp a13
  have R_two_behind : Rdy l.prog w K mg base 2 "two_behind" ["parts", "at"] spBehind := rdy X G (ok_behind F14 R_first_two) b14 F14.kp a14
  have R_is_as_packed : Rdy l.prog w K mg base 3 "is_as_packed" ["parts", "at"] spAsP := rdy X G (ok_aspacked F15 R_two_behind R_part_at) b15 F15.kp a15
  have R_is_tidy : Rdy l.prog w K mg base 6 "is_tidy" ["line"] spTidyP := rdy X G (ok_tidy F16 gb (R_parts_of.imp (parts_x cr)) R_is_as_packed mcr er.kr er.srr) b16 F16.kp a16
  have R__law_cell_at : Rdy l.prog w K mg base 1 "_law_cell_at" ["_law_script", "_law_k"] (spCell K) := rdy X G (ok_cell F17 gb) b17 F17.kp a17
  have R__law_bounded : Rdy l.prog w K mg base 1 "_law_bounded" ["_law_cell"] spBnd := rdy X G (ok_bnd F18) b18 F18.kp a18
  have R__law_asked : RdyX l.prog w K mg base 9 "_law_asked" ["_law_which", "_law_line"] (spAsked cr) := rdyX X G (ok_asked F19 (R_read.at8 (by decide)) (R_many_in.at8 (by decide)) ((R_parts_of.imp (parts_x cr)).at8 (by decide))) b19 F19.kp a19
  have R__law_refuses : Rdy l.prog w K mg base 10 "_law_refuses" ["_law_which", "_law_line"] spRefuses := rdy X G (ok_refuses F20 eR R__law_asked) b20 F20.kp a20
  exact (ok_law F21 gb (R_read.at8 (by decide)) (R__law_cell_at.at8 (by decide)) (R__law_bounded.at8 (by decide)) (R_is_tidy.at8 (by decide)) R__law_refuses).mono (by decide)
end Rp
open PySem PySem.W PyProof.Rows
set_option maxRecDepth 100000 in
set_option maxHeartbeats 0 in
theorem PySem.Challenge.cw_rowpack_k07_texts_refused_holds : PySem.Challenge.rw_rowpack_k07_texts_refused.Holds := by
  w_on; o_law; k_head; (case hw => w_witness2)
  k_fill
  refine Rp.walk (l := PySem.Challenge.rw_rowpack_k07_texts_refused) rfl rfl (fun w h Y => PySem.W.kIn_of Y) ?F
  case F =>
    intro w mg fa h KX G hmg
    refine' Rp.all_mk KX G hmg ?g ?gN0 ?gL0 ?gs0 ?er0 ?d0 ?d1 ?d2 ?d3 ?d4 ?d5 ?d6 ?d7 ?d8 ?d9 ?d10 ?d11 ?d12 ?d13 ?d14 ?d15 ?d16 ?d17 ?d18 ?d19 ?d20 ?d21
    case g =>
      intro X G
      refine' Rp.gb_mk X G ?y1 ?y2 ?y3 ?y4 ?y5 ?y6 ?y7 ?y8 ?y9 ?y10
      (case y1 => k_is)
      (case y2 => k_is)
      (case y3 => k_is)
      (case y4 => k_is)
      (case y5 => k_is)
      (case y6 => k_is)
      (case y7 => k_is)
      (case y8 => k_is)
      (case y9 => k_is)
      (case y10 => k_is)
    case gN0 =>
      intro g X G
      refine' Rp.gloN_mk g X G ?n1 ?n2 ?n3
      (case n1 => k_is)
      (case n2 => k_is)
      (case n3 => k_is)
    case gL0 =>
      intro X G
      refine' Rp.least_mk X G ?zle
      (case zle => k_is)
    case gs0 =>
      k_is
    case er0 =>
      refine' ⟨_, _, _, ⟨?mp, ?mn, ?mr, ?en, ?er, ?kp, ?kn, ?kr, ?snn, ?srr, ?srp⟩⟩
      (case mp => k_is)
      (case mn => k_is)
      (case mr => k_is)
      (case en => k_exc)
      (case er => k_exc)
      case kp =>
        refine' L2.catch_mk ?c0 ?t0 ?b0
        (case c0 => k_is)
        (case t0 => k_is)
        (case b0 => k_is)
      case kn =>
        refine' L2.catch_mk ?c ?t ?b
        (case c => k_is)
        (case t => k_is)
        (case b => k_is)
      case kr =>
        refine' L2.catch_mk ?c2 ?t2 ?b2
        (case c2 => k_is)
        (case t2 => k_is)
        (case b2 => k_is)
      (case snn => k_is)
      (case srr => k_is)
      (case srp => k_is)
    case d0 =>
      refine' L2.def_mk ?a0 ?l0 ?k0 ?p0
      (case a0 => k_is)
      (case l0 => k_is)
      (case k0 => k_is)
      (case p0 => k_is)
    case d1 =>
      refine' L2.def_mk ?a1 ?l1 ?k1 ?p1
      (case a1 => k_is)
      (case l1 => k_is)
      (case k1 => k_is)
      (case p1 => k_is)
    case d2 =>
      refine' L2.def_mk ?a2 ?l2 ?k2 ?p2
      (case a2 => k_is)
      (case l2 => k_is)
      (case k2 => k_is)
      (case p2 => k_is)
    case d3 =>
      refine' L2.def_mk ?a3 ?l3 ?k3 ?p3
      (case a3 => k_is)
      (case l3 => k_is)
      (case k3 => k_is)
      (case p3 => k_is)
    case d4 =>
      refine' L2.def_mk ?a4 ?l4 ?k4 ?p4
      (case a4 => k_is)
      (case l4 => k_is)
      (case k4 => k_is)
      (case p4 => k_is)
    case d5 =>
      refine' L2.def_mk ?a5 ?l5 ?k5 ?p5
      (case a5 => k_is)
      (case l5 => k_is)
      (case k5 => k_is)
      (case p5 => k_is)
    case d6 =>
      refine' L2.def_mk ?a6 ?l6 ?k6 ?p6
      (case a6 => k_is)
      (case l6 => k_is)
      (case k6 => k_is)
      (case p6 => k_is)
    case d7 =>
      refine' L2.def_mk ?a7 ?l7 ?k7 ?p7
      (case a7 => k_is)
      (case l7 => k_is)
      (case k7 => k_is)
      (case p7 => k_is)
    case d8 =>
      refine' L2.def_mk ?a8 ?l8 ?k8 ?p8
      (case a8 => k_is)
      (case l8 => k_is)
      (case k8 => k_is)
      (case p8 => k_is)
    case d9 =>
      refine' L2.def_mk ?a9 ?l9 ?k9 ?p9
      (case a9 => k_is)
      (case l9 => k_is)
      (case k9 => k_is)
      (case p9 => k_is)
    case d10 =>
      refine' L2.def_mk ?a10 ?l10 ?k10 ?p10
      (case a10 => k_is)
      (case l10 => k_is)
      (case k10 => k_is)
      (case p10 => k_is)
    case d11 =>
      refine' L2.def_mk ?a11 ?l11 ?k11 ?p11
      (case a11 => k_is)
      (case l11 => k_is)
      (case k11 => k_is)
      (case p11 => k_is)
    case d12 =>
      refine' L2.def_mk ?a12 ?l12 ?k12 ?p12
      (case a12 => k_is)
      (case l12 => k_is)
      (case k12 => k_is)
      (case p12 => k_is)
    case d13 =>
      refine' L2.def_mk ?a13 ?l13 ?k13 ?p13
      (case a13 => k_is)
      (case l13 => k_is)
      (case k13 => k_is)
      (case p13 => k_is)
    case d14 =>
      refine' L2.def_mk ?a14 ?l14 ?k14 ?p14
      (case a14 => k_is)
      (case l14 => k_is)
      (case k14 => k_is)
      (case p14 => k_is)
    case d15 =>
      refine' L2.def_mk ?a15 ?l15 ?k15 ?p15
      (case a15 => k_is)
      (case l15 => k_is)
      (case k15 => k_is)
      (case p15 => k_is)
    case d16 =>
      refine' L2.def_mk ?a16 ?l16 ?k16 ?p16
      (case a16 => k_is)
      (case l16 => k_is)
      (case k16 => k_is)
      (case p16 => k_is)
    case d17 =>
      refine' L2.def_mk ?a17 ?l17 ?k17 ?p17
      (case a17 => k_is)
      (case l17 => k_is)
      (case k17 => k_is)
      (case p17 => k_is)
    case d18 =>
      refine' L2.def_mk ?a18 ?l18 ?k18 ?p18
      (case a18 => k_is)
      (case l18 => k_is)
      (case k18 => k_is)
      (case p18 => k_is)
    case d19 =>
      refine' L2.def_mk ?a19 ?l19 ?k19 ?p19
      (case a19 => k_is)
      (case l19 => k_is)
      (case k19 => k_is)
      (case p19 => k_is)
    case d20 =>
      refine' L2.def_mk ?a20 ?l20 ?k20 ?p20
      (case a20 => k_is)
      (case l20 => k_is)
      (case k20 => k_is)
      (case p20 => k_is)
    case d21 =>
      refine' L2.def_mk ?a21 ?l21 ?k21 ?p21
      (case a21 => k_is)
      (case l21 => k_is)
      (case k21 => k_is)
      (case p21 => k_is)
