import PyProof.Rows.All
import Wide.All
import OpenK.AllK
import Wide.FinOn
import Lean
import PyProof.EqAt
import PyProof.EqKinds
import PyProof.TupleCall
import PyProof.Rows.SortRunsK
import PyProof.Rows.SortShellK
import PyProof.Rows.SortStr
import PyProof.Rows.SortPure
import PyProof.ListRange
import PyProof.CollectIter
import PyProof.StrBlockI
import PyProof.StrBlock2
import KE.KSortKey
import KE.KLam
import PyProof.ListNew
import PyProof.ConsumeWalk
import PyProof.SumAny
import PyProof.Rows.StrNews2
import PyProof.Draws
import PyProof.EnumMake
import PyProof.StrLawsIn
import PyProof.Rows.SetFrom
import PyProof.Rows.SortWalk
import KE.KTryMore
import KE.KIsAll
import PyProof.ExcArgsOwn
import PySem.Challenge.RW_endbook_k05_whole_words_by_number
set_option Elab.async false
set_option linter.all false
set_option maxRecDepth 100000
namespace L2
open PySem PySem.Spec PyProof.Rows

/-- a key: an int or a str -/
abbrev Key := Sum Int Str
def keyIs : Key → Value → Bool
  | .inl k, v => Value.isInt k v
  | .inr x, v => Value.isStrOf x v
def keyH (w : World) : Key → Int
  | .inl k => hashInt k
  | .inr x => hashStr w x
theorem keyIs_shape : ∀ {k : Key} {v : Value}, keyIs k v = true → (∃ i t, k = Sum.inl i ∧ v = Value.int i t) ∨ (∃ x t, k = Sum.inr x ∧ v = Value.str x t)
  | .inl i, v, h => by
    obtain ⟨t, e⟩ := Value.isInt_shape (k := i) (v := v) h
    exact .inl ⟨i, t, rfl, e⟩
  | .inr x, v, h => by
    obtain ⟨t, e⟩ := Value.isStrOf_shape (x := x) (v := v) h
    exact .inr ⟨x, t, rfl, e⟩
theorem keyIs_int (i : Int) (t : Tok) : keyIs (.inl i) (.int i t) = true := by simp [keyIs, Value.isInt]
theorem keyIs_str (x : Str) (t : Tok) : keyIs (.inr x) (.str x t) = true := by simp [keyIs, Value.isStrOf]
theorem key_ll (a b : Int) : decide ((Sum.inl a : Key) = Sum.inl b) = (a == b) := by
  by_cases e : a = b
  · subst e; simp
  · have h : ¬ (Sum.inl a : Key) = Sum.inl b := fun q => e (Sum.inl.inj q)
    rw [decide_eq_false h]
    exact (beq_eq_false_iff_ne.mpr e).symm
theorem key_rr (a b : Str) : decide ((Sum.inr a : Key) = Sum.inr b) = decide (a = b) := by
  by_cases e : a = b
  · subst e; simp
  · have h : ¬ (Sum.inr a : Key) = Sum.inr b := fun q => e (Sum.inr.inj q)
    rw [decide_eq_false h, decide_eq_false e]
theorem key_lr (a : Int) (b : Str) : decide ((Sum.inl a : Key) = Sum.inr b) = false := decide_eq_false (fun q => nomatch q)
theorem key_rl (a : Str) (b : Int) : decide ((Sum.inr a : Key) = Sum.inl b) = false := decide_eq_false (fun q => nomatch q)

def mixKind (prog : Program) (w : World) : PySem.KeyKind prog w Key where
  is := keyIs
  hash := keyH w
  inj := fun v a b ha hb => by
    rcases keyIs_shape ha with ⟨i, t, rfl, rfl⟩ | ⟨x, t, rfl, rfl⟩
    · rcases keyIs_shape hb with ⟨j, u, rfl, e⟩ | ⟨y, u, rfl, e⟩
      · injection e with e1 _; rw [e1]
      · exact nomatch e
    · rcases keyIs_shape hb with ⟨j, u, rfl, e⟩ | ⟨y, u, rfl, e⟩
      · exact nomatch e
      · injection e with e1 _; rw [e1]
  byValue := fun k v h => by
    rcases keyIs_shape h with ⟨i, t, rfl, rfl⟩ | ⟨x, t, rfl, rfl⟩ <;> rfl
  pyHash := fun hv h => by
    rcases keyIs_shape hv with ⟨i, t, rfl, rfl⟩ | ⟨x, t, rfl, rfl⟩
    · exact wpAny_pyHash_int h
    · exact wpAny_pyHash_str h
  eqBool := fun hu hv h => by
    rcases keyIs_shape hu with ⟨i, t, rfl, rfl⟩ | ⟨x, t, rfl, rfl⟩
    · rcases keyIs_shape hv with ⟨j, u, rfl, rfl⟩ | ⟨y, u, rfl, rfl⟩
      · rw [key_ll] at h; exact wpAny_eqBool_int h
      · rw [key_lr] at h; exact SeqAt.EqAt.int_str i t y u _ _ _ _ h
    · rcases keyIs_shape hv with ⟨j, u, rfl, rfl⟩ | ⟨y, u, rfl, rfl⟩
      · rw [key_rl] at h; exact SeqAt.EqAt.str_int x t j u _ _ _ _ h
      · rw [key_rr] at h; exact wpAny_eqBool_str h
  «strs» := fun k x t v h => by
    rcases keyIs_shape h with ⟨i, u, rfl, e⟩ | ⟨y, u, rfl, e⟩
    · exact nomatch e
    · injection e with e1 _
      subst e1
      cases v <;> rfl

theorem mixKind_is (prog : Program) (w : World) (k : Key) (v : Value) : (mixKind prog w).is k v = keyIs k v := rfl
theorem mixKind_int (prog : Program) (w : World) (i : Int) (t : Tok) : (mixKind prog w).is (.inl i) (.int i t) = true := keyIs_int i t
theorem mixKind_str (prog : Program) (w : World) (x : Str) (t : Tok) : (mixKind prog w).is (.inr x) (.str x t) = true := keyIs_str x t
end L2

namespace L2
open PySem PySem.Spec PyProof.Rows

/-- a value, without the heap -/
inductive V where
  | non | bl (b : Bool) | int (i : Int) | str (x : Str) | byt (b : Array UInt8) | flt (b : UInt64) | ref (a : Addr) | ty (n : String)
  deriving DecidableEq

def RelV : V → Value → Prop
  | .non, u => u = Value.none
  | .bl b, u => u = Value.bool b
  | .int i, u => ∃ t, u = Value.int i t
  | .str x, u => ∃ t, u = Value.str x t
  | .byt b, u => ∃ t, u = Value.bytes b t
  | .flt b, u => ∃ t, u = Value.float b t
  | .ref a, u => u = Value.ref a
  | .ty n, u => u = Value.type n

abbrev Vals : List V → List Value → Prop := Paired RelV
theorem Vals.length {xs : List V} {us : List Value} (r : Vals xs us) : xs.length = us.length := Paired.length r
theorem Vals.get : ∀ {xs : List V} {us : List Value} {i : Nat} {x : V}, Vals xs us → xs[i]? = some x → ∃ u, us[i]? = some u ∧ RelV x u
  | _, _, _, _, .nil, e => by simp at e
  | _, _, 0, _, .cons r _, e => by simp at e; subst e; exact ⟨_, rfl, r⟩
  | _, _, i + 1, x, .cons _ t, e => by
    obtain ⟨u, h1, h2⟩ := Vals.get (i := i) (x := x) t (by simpa using e)
    exact ⟨u, by simpa using h1, h2⟩
theorem Vals.set {x : V} {u : Value} (r : RelV x u) : ∀ {xs : List V} {us : List Value} (i : Nat), Vals xs us → Vals (xs.set i x) (us.set i u)
  | _, _, _, .nil => .nil
  | _, _, 0, .cons _ t => .cons r t
  | _, _, i + 1, .cons q t => .cons q (Vals.set r i t)
theorem Vals.append : ∀ {xs ys : List V} {us ws : List Value}, Vals xs us → Vals ys ws → Vals (xs ++ ys) (us ++ ws)
  | _, _, _, _, .nil, s => s
  | _, _, _, _, .cons r t, s => .cons r (Vals.append t s)
theorem Vals.take : ∀ {xs : List V} {us : List Value} (n : Nat), Vals xs us → Vals (xs.take n) (us.take n)
  | _, _, 0, _ => .nil
  | _, _, _ + 1, .nil => .nil
  | _, _, n + 1, .cons r t => .cons r (Vals.take n t)
theorem Vals.drop : ∀ {xs : List V} {us : List Value} (n : Nat), Vals xs us → Vals (xs.drop n) (us.drop n)
  | _, _, 0, r => r
  | _, _, _ + 1, .nil => .nil
  | _, _, n + 1, .cons _ t => Vals.drop n t
theorem Vals.none_of : ∀ {xs : List V} {us : List Value} {i : Nat}, Vals xs us → xs[i]? = none → us[i]? = none := fun {xs us i} r e => by
  have h1 := r.length
  have h2 : xs.length ≤ i := List.getElem?_eq_none_iff.mp e
  exact List.getElem?_eq_none_iff.mpr (by omega)

def RelO : Option V → Option Value → Prop
  | some v, some u => RelV v u
  | none, none => True
  | _, _ => False
def KV {κ : Type} : List (κ × V) → List (κ × Value) → Prop := Paired fun (p : κ × V) (q : κ × Value) => p.1 = q.1 ∧ RelV p.2 q.2

/-- a key of a dict (00_mix): an int or a text -/
def kV : Key → V
  | .inl i => .int i
  | .inr x => .str x

/-- what stands at a tracked address -/
inductive HO where
  /-- a list -/
  | lst (xs : List V)
  /-- a tuple (never changes) -/
  | tup (xs : List V)
  /-- a dict whose keys are ints and texts; one whose keys are tuples of ints and texts (the empty one is both) -/
  | dK (kvs : List (Key × V)) | dT (kvs : List (List Key × V))
  /-- a set of ints: its members, its size -/
  | set (S : Int → Bool) (n : Nat)
  /-- an instance of the class at C, its dict at dx, its attributes -/
  | ins (C dx : Addr) (fs : List (Str × V))
  /-- the dict of the instance at x -/
  | own (x : Addr)
  /-- the dict of an exception -/
  | xd (fs : List (Str × V))
  /-- a bound method, f of x -/
  | met (f x : Addr)
  /-- a range object lo, lo + 1, .. below hi -/
  | rng (lo hi : Int)
  /-- a thing that is known to the object (the script; a dict while a loop walks it): read, never written while it is so -/
  | frz (o : Obj) (u : HO)
  /-- a code object's table -/
  | tbl (ps : Array Value)
  /-- any other thing, by what is true of its one object (a def of one's own: SetO a S n := HO.ext fun h => ..) -/
  | ext (φ : Heap → Prop)

abbrev Hp := Addr → Option HO
def upd (H : Hp) (a : Addr) (o : HO) : Hp := fun b => if b = a then some o else H b
theorem upd_same {H : Hp} {a : Addr} {o : HO} : upd H a o a = some o := by unfold upd; rw [if_pos rfl]
theorem upd_ne {H : Hp} {a b : Addr} {o : HO} (h : b ≠ a) : upd H a o b = H b := by unfold upd; rw [if_neg h]
theorem upd_upd {H : Hp} {a : Addr} {o u : HO} : upd (upd H a o) a u = upd H a u := by
  funext b; unfold upd; split <;> rfl
/-- two objects of different content stand apart -/
theorem ne_of {H : Hp} {a b : Addr} {o u : HO} (h : H a = some o) (h' : H b = some u) (d : o ≠ u) : a ≠ b := by
  intro e; subst e; rw [h] at h'; exact d (Option.some.inj h')
theorem ne_of_none {H : Hp} {a b : Addr} {o : HO} (h : H a = some o) (h' : H b = none) : a ≠ b := by
  intro e; subst e; rw [h] at h'; cases h'

section
variable (P : Program) (w : World)
def ObjOk (H : Hp) (h : Heap) (a : Addr) : HO → Prop
  | .lst xs => xs.length ≤ sizeLine ∧ ∃ (its : List Value) (n : Nat), Vals xs its ∧ h.get? a = some { cls := .type "list", data := .seq its.toArray n }
  | .tup xs => xs.length ≤ sizeLine ∧ ∃ its : List Value, Vals xs its ∧ IsTup h a its.toArray
  | .dK kvs => kvs.length ≤ sizeLine ∧ (a == sysModules) = false ∧ ∃ vs, KV kvs vs ∧ h.DictOf (mixKind P w) a vs
  | .dT kvs => kvs.length ≤ sizeLine ∧ (a == sysModules) = false ∧ ∃ xs : List (List Key × Addr × Value),
      Paired (fun (p : List Key × V) (q : List Key × Addr × Value) => p.1 = q.1 ∧ H q.2.1 = some (.tup (p.1.map kV)) ∧ RelV p.2 q.2.2) kvs xs ∧
      ∃ o es ep, h.get? a = some o ∧ o.ExactDict ∧ o.data = .dict es ep ∧ es.toList = xs.map (entryOfKey (tupleKind (mixKind P w))) ∧ (xs.map (·.1)).Nodup
  | .set S n => h.SetOf (intKind P w) a S n
  | .ins C dx fs => H dx = some (.own a) ∧ fs.length ≤ 1000 ∧ dx ≠ a ∧ h.get? a = some (PySem.W.instObj C dx) ∧
      ∃ mA, h.Ns1 dx mA ∧ (∀ f, RelO (fs.lookup f) (mA f)) ∧ PySem.Within mA (fs.map (·.1))
  | .own _ => ∃ o, h.get? a = some o
  | .xd fs => ∃ mA, h.Ns1 a mA ∧ ∀ f, RelO (fs.lookup f) (mA f)
  | .rng lo hi => ∃ t u v, h.get? a = some { cls := .type "range", data := .fields #[.int lo t, .int hi u, .int 1 v] }
  | .frz o u => h.get? a = some o ∧ ObjOk H h a u
  | .tbl ps => h.get? a = some { cls := .none, data := .fields ps }
  | .met f x => h.get? a = some (PySem.W.methodObj (.ref f) (.ref x))
  | .ext φ => φ h ∧ (∃ o, h.get? a = some o) ∧ ∀ h1 h2 : Heap, φ h1 → (∀ o, h1.get? a = some o → h2.get? a = some o) → φ h2
/-- the abstract heap is held -/
def HOk (H : Hp) (h : Heap) : Prop := ∀ a o, H a = some o → ObjOk P w H h a o
end

section
variable {P : Program} {w : World} {H H' : Hp} {h h' : Heap} {a : Addr} {o : HO}
theorem ObjOk.lt (x : ObjOk P w H h a o) : a < h.objs.size := by
  cases o with
  | lst xs => obtain ⟨_, _, _, _, e⟩ := x; exact Heap.lt_size e
  | tup xs => obtain ⟨_, _, _, p⟩ := x; exact p.lt
  | dK kvs => obtain ⟨_, _, _, _, o, _, _, e, _⟩ := x; exact Heap.lt_size e
  | dT kvs => obtain ⟨_, _, _, _, o, _, _, e, _⟩ := x; exact Heap.lt_size e
  | set S n => obtain ⟨o, _, _, _, e, _⟩ := x; exact Heap.lt_size e
  | ins C dx fs => obtain ⟨_, _, _, e, _⟩ := x; exact Heap.lt_size e
  | own y => obtain ⟨_, e⟩ := x; exact Heap.lt_size e
  | xd fs => obtain ⟨_, ⟨_, _, _, e, _⟩, _⟩ := x; exact Heap.lt_size e
  | rng lo hi => obtain ⟨_, _, _, e⟩ := x; exact Heap.lt_size e
  | frz ob u => obtain ⟨e, _⟩ := x; exact Heap.lt_size e
  | tbl ps => exact Heap.lt_size (show h.get? a = some _ from x)
  | met f y => exact Heap.lt_size (show h.get? a = some _ from x)
  | ext φ => obtain ⟨_, ⟨_, e⟩, _⟩ := x; exact Heap.lt_size e
theorem Paired.mapP {α β : Type} {F G : α → β → Prop} : ∀ {l₁ : List α} {l₂ : List β}, Paired F l₁ l₂ → (∀ a b, F a b → G a b) → Paired G l₁ l₂
  | _, _, .nil, _ => .nil
  | _, _, .cons r t, f => .cons (f _ _ r) (Paired.mapP t f)
theorem Paired.imp' {α β : Type} {F G : α → β → Prop} (f : ∀ a b, F a b → G a b) {l₁ : List α} {l₂ : List β} (r : Paired F l₁ l₂) : Paired G l₁ l₂ := Paired.mapP r f
/-- what an object's description leans on: its own object, its own dict, the tuples -/
theorem ObjOk.stay (x : ObjOk P w H h a o) (k : ∀ b u, (b = a ∨ H b = some (.own a)) → h.get? b = some u → h'.get? b = some u)
    (ho : ∀ b, H b = some (.own a) → H' b = some (.own a)) (ht : ∀ b xs, H b = some (.tup xs) → H' b = some (.tup xs)) : ObjOk P w H' h' a o := by
  induction o with
  | lst xs => obtain ⟨z, its, n, r, e⟩ := x; exact ⟨z, its, n, r, k _ _ (.inl rfl) e⟩
  | tup xs => obtain ⟨z, its, r, ob, e, c⟩ := x; exact ⟨z, its, r, ob, k _ _ (.inl rfl) e, c⟩
  | dK kvs => obtain ⟨z, y, vs, r, ob, es, ep, e, c⟩ := x; exact ⟨z, y, vs, r, ob, es, ep, k _ _ (.inl rfl) e, c⟩
  | dT kvs =>
    obtain ⟨z, y, xs, r, ob, es, ep, e, c⟩ := x
    exact ⟨z, y, xs, Paired.mapP r fun p q z => ⟨z.1, ht _ _ z.2.1, z.2.2⟩, ob, es, ep, k _ _ (.inl rfl) e, c⟩
  | set S n => obtain ⟨ob, es, ep, t, e, c⟩ := x; exact ⟨ob, es, ep, t, k _ _ (.inl rfl) e, c⟩
  | ins C dx fs =>
    obtain ⟨d, z, ne, e, mA, ⟨od, es, ep, e2, c⟩, r⟩ := x
    exact ⟨ho _ d, z, ne, k _ _ (.inl rfl) e, mA, ⟨od, es, ep, k _ _ (.inr d) e2, c⟩, r⟩
  | own y => obtain ⟨ob, e⟩ := x; exact ⟨ob, k _ _ (.inl rfl) e⟩
  | xd fs => obtain ⟨mA, ⟨od, es, ep, e, c⟩, r⟩ := x; exact ⟨mA, ⟨od, es, ep, k _ _ (.inl rfl) e, c⟩, r⟩
  | rng lo hi => obtain ⟨t, u, v, e⟩ := x; exact ⟨t, u, v, k _ _ (.inl rfl) e⟩
  | frz ob u ih => obtain ⟨e, q⟩ := x; exact ⟨k _ _ (.inl rfl) e, ih q⟩
  | tbl ps =>
    have e : h.get? a = some { cls := .none, data := .fields ps } := x
    show h'.get? a = some { cls := .none, data := .fields ps }
    exact k a _ (.inl rfl) e
  | met f y =>
    have e : h.get? a = some (PySem.W.methodObj (.ref f) (.ref y)) := x
    show h'.get? a = some (PySem.W.methodObj (.ref f) (.ref y))
    exact k a _ (.inl rfl) e
  | ext φ => obtain ⟨p, ⟨o, e⟩, st⟩ := x; exact ⟨st _ _ p fun o q => k _ _ (.inl rfl) q, ⟨o, k _ _ (.inl rfl) e⟩, st⟩
theorem HOk.lt (x : HOk P w H h) (e : H a = some o) : a < h.objs.size := (x a o e).lt
theorem HOk.fresh (x : HOk P w H h) (e : h.objs.size ≤ a) : H a = none := by
  cases q : H a with
  | none => rfl
  | some u => exact absurd (Nat.lt_of_lt_of_le (x.lt q) e) (Nat.lt_irrefl _)
/-- every object of the heap is kept -/
theorem HOk.kept (x : HOk P w H h) (k : ∀ b u, h.get? b = some u → h'.get? b = some u) : HOk P w H h' := fun a o e =>
  (x a o e).stay (fun b u _ q => k b u q) (fun _ q => q) fun _ _ q => q
/-- a new object is laid and tracked -/
theorem HOk.laid (x : HOk P w H h) (k : ∀ b u, h.get? b = some u → h'.get? b = some u) (hp : h.objs.size ≤ a) (new : ObjOk P w (upd H a o) h' a o) : HOk P w (upd H a o) h' := fun b u e => by
  have hn := x.fresh hp
  by_cases hb : b = a
  · subst hb; rw [upd_same] at e; cases e; exact new
  · rw [upd_ne hb] at e
    exact (x b u e).stay (fun c v _ q => k c v q) (fun c q => by rw [upd_ne (ne_of_none q hn)]; exact q) fun c xs q => by rw [upd_ne (ne_of_none q hn)]; exact q
end

/-- what may be read as u: it is u, or a known u -/
def Rd (H : Hp) (a : Addr) (u : HO) : Prop := H a = some u ∨ ∃ o, H a = some (.frz o u)
theorem Rd.of {H : Hp} {a : Addr} {u : HO} (h : H a = some u) : Rd H a u := .inl h
theorem Rd.ok {P : Program} {w : World} {H : Hp} {h : Heap} {a : Addr} {u : HO} (r : Rd H a u) (x : HOk P w H h) : ObjOk P w H h a u := by
  rcases r with r | ⟨o, r⟩
  · exact x a u r
  · obtain ⟨_, q⟩ := x a _ r
    exact q
/-- what may be written -/
def Mut : Option HO → Prop
  | some (.lst _) => True
  | some (.dK _) => True
  | some (.dT _) => True
  | some (.set _ _) => True
  | some (.ins _ _ _) => True
  | some (.ext _) => True
  | _ => False
section
variable {P : Program} {w : World} {H : Hp} {h h' : Heap} {x e : Addr} {o' : HO}
/-- the object at e is changed: x itself, or the dict of the instance x -/
theorem HOk.write (ok : HOk P w H h) (mu : Mut (H x)) (he : e = x ∨ H e = some (.own x)) (k : ∀ b u, b ≠ e → h.get? b = some u → h'.get? b = some u) (heo : ∃ u, h'.get? e = some u)
    (new : ObjOk P w (upd H x o') h' x o') : HOk P w (upd H x o') h' := fun b u q => by
  have nown : ∀ c y, H c = some (.own y) → c ≠ x := fun c y r z => by subst z; rw [r] at mu; exact mu
  have ntup : ∀ c xs, H c = some (.tup xs) → c ≠ x := fun c xs r z => by subst z; rw [r] at mu; exact mu
  by_cases hb : b = x
  · subst hb; rw [upd_same] at q; cases q; exact new
  · rw [upd_ne hb] at q
    by_cases hbe : b = e
    · have q' : H b = some (.own x) := by
        rcases he with z | z
        · exact absurd (hbe.trans z) hb
        · rw [hbe]; exact z
      rw [q] at q'; cases q'
      obtain ⟨v, hv⟩ := heo
      exact ⟨v, by rw [hbe]; exact hv⟩
    · refine (ok b u q).stay (fun c v hc r => k c v ?_ r) (fun c r => by rw [upd_ne (nown c b r)]; exact r) fun c xs r => by rw [upd_ne (ntup c xs r)]; exact r
      rcases hc with rfl | hc
      · exact hbe
      · rintro rfl
        rcases he with z | z
        · exact nown c b hc z
        · rw [hc] at z; cases z; exact hb rfl
end

/-! ### kept unless tracked; of the frames at fs (the callers') the slots may change (an exception that passes writes there); of the records at ex (iterators) nothing is said -/
structure Un (fs ex : List Addr) (H H' : Hp) (h h' : Heap) : Prop where
  keep : ∀ b o, h.get? b = some o → H b = none → b ∉ fs → b ∉ ex → h'.get? b = some o
  slot : ∀ b o, h.get? b = some o → H b = none → b ∈ fs → b ∉ ex → ∃ sl, h'.get? b = some { o with slots := sl }
  free : ∀ b o, h.get? b = some o → H b = none → b ∉ ex → H' b = none
  there : ∀ b o, h.get? b = some o → b ∉ ex → ∃ o', h'.get? b = some o'
  tups : ∀ b xs, H b = some (.tup xs) → H' b = some (.tup xs)
  frzs : ∀ b o u, H b = some (.frz o u) → H' b = some (.frz o u)
  tbls : ∀ b ps, H b = some (.tbl ps) → ∃ more, H' b = some (.tbl (ps ++ more))
section
variable {fs fs' ex ex' : List Addr} {H H1 H2 : Hp} {h h1 h2 h' : Heap} {a x e : Addr} {o : HO}
theorem Un.any (u : Un fs ex H H1 h h1) {b : Addr} {ob : Obj} (q : h.get? b = some ob) (n : H b = none) (hx : b ∉ ex) : ∃ sl, h1.get? b = some { ob with slots := sl } := by
  by_cases hb : b ∈ fs
  · exact u.slot b ob q n hb hx
  · exact ⟨ob.slots, u.keep b ob q n hb hx⟩
theorem Un.trans (a : Un fs ex H H1 h h1) (b : Un fs ex H1 H2 h1 h2) : Un fs ex H H2 h h2 where
  keep := fun c ob q n hc hx => b.keep c ob (a.keep c ob q n hc hx) (a.free c ob q n hx) hc hx
  slot := fun c ob q n hc hx => by
    obtain ⟨sl, e1⟩ := a.slot c ob q n hc hx
    obtain ⟨sl', e2⟩ := b.slot c _ e1 (a.free c ob q n hx) hc hx
    exact ⟨sl', e2⟩
  free := fun c ob q n hx => by
    obtain ⟨o', e1⟩ := a.there c ob q hx
    exact b.free c o' e1 (a.free c ob q n hx) hx
  there := fun c ob q hx => by
    obtain ⟨o', e1⟩ := a.there c ob q hx
    exact b.there c o' e1 hx
  tups := fun c xs q => b.tups c xs (a.tups c xs q)
  frzs := fun c ob xs q => b.frzs c ob xs (a.frzs c ob xs q)
  tbls := fun c ps q => by
    obtain ⟨m1, e1⟩ := a.tbls c ps q
    obtain ⟨m2, e2⟩ := b.tbls c _ e1
    exact ⟨m1 ++ m2, by rw [e2, Array.append_assoc]⟩
theorem Un.kept (k : ∀ b u, h.get? b = some u → h'.get? b = some u) : Un fs ex H H h h' :=
  ⟨fun b ob q _ _ _ => k b ob q, fun b ob q _ _ _ => ⟨ob.slots, k b ob q⟩, fun _ _ _ n _ => n, fun b ob q _ => ⟨ob, k b ob q⟩, fun _ _ q => q, fun _ _ _ q => q, fun _ ps q => ⟨#[], by rw [q]; simp⟩⟩
theorem Un.refl : Un fs ex H H h h := Un.kept fun _ _ q => q
theorem Un.laid (k : ∀ b u, h.get? b = some u → h'.get? b = some u) (hp : h.objs.size ≤ a) (hn : H a = none) : Un fs ex H (upd H a o) h h' where
  keep := fun b u q _ _ _ => k b u q
  slot := fun b u q _ _ _ => ⟨u.slots, k b u q⟩
  free := fun b u q n _ => by rw [upd_ne (Nat.ne_of_lt (Nat.lt_of_lt_of_le (Heap.lt_size q) hp))]; exact n
  there := fun b u q _ => ⟨u, k b u q⟩
  tups := fun b xs q => by rw [upd_ne (ne_of_none q hn)]; exact q
  frzs := fun b u xs q => by rw [upd_ne (ne_of_none q hn)]; exact q
  tbls := fun b ps q => ⟨#[], by rw [upd_ne (ne_of_none q hn), q]; simp⟩
theorem Un.write (mu : Mut (H x)) (he : e = x ∨ H e = some (.own x)) (k : ∀ b u, b ≠ e → h.get? b = some u → h'.get? b = some u) (heo : ∃ u, h'.get? e = some u) : Un fs ex H (upd H x o) h h' := by
  have hx : ∀ b, H b = none → b ≠ x := fun b n z => by subst z; rw [n] at mu; exact mu
  have hb : ∀ b, H b = none → b ≠ e := fun b n z => by
    subst z
    rcases he with r | r
    · exact hx b n r
    · rw [n] at r; cases r
  have hm : ∀ b u, H b = some u → ¬ Mut (some u) → b ≠ x := fun b u q nm z => by subst z; rw [q] at mu; exact nm mu
  refine ⟨fun b u q n _ _ => k b u (hb b n) q, fun b u q n _ _ => ⟨u.slots, k b u (hb b n) q⟩, fun b u q n _ => by rw [upd_ne (hx b n)]; exact n, fun b u q _ => ?_,
    fun b xs q => by rw [upd_ne (hm b _ q fun z => z)]; exact q, fun b u xs q => by rw [upd_ne (hm b _ q fun z => z)]; exact q, fun b ps q => ⟨#[], by rw [upd_ne (hm b _ q fun z => z), q]; simp⟩⟩
  by_cases hbe : b = e
  · subst hbe; exact heo
  · exact ⟨u, k b u hbe q⟩
theorem Un.mono (u : Un fs ex H H1 h h1) (hs : ∀ b ∈ fs, b ∈ fs') (hx : ∀ b ∈ ex, b ∈ ex') : Un fs' ex' H H1 h h1 :=
  ⟨fun b ob q n hb he => u.keep b ob q n (fun z => hb (hs b z)) fun z => he (hx b z), fun _ _ q n _ he => u.any q n fun z => he (hx _ z), fun b ob q n he => u.free b ob q n fun z => he (hx b z), fun b ob q he => u.there b ob q fun z => he (hx b z), u.tups, u.frzs, u.tbls⟩
end

/-! ### the heap without what is tracked -/
def trk (h : Heap) (H : Hp) : List Addr := (List.range h.objs.size).filter fun a => (H a).isSome
def hidT (h : Heap) (H : Hp) : Heap := PySem.W.hideAll h (trk h H)
theorem hidT_size (h : Heap) (H : Hp) : (hidT h H).objs.size = h.objs.size := PySem.W.hideAll_size _ _
theorem hidT_get {h : Heap} {H : Hp} {b : Addr} {o : Obj} (e : h.get? b = some o) (n : H b = none) : (hidT h H).get? b = some o :=
  PySem.W.hideAll_get _ e fun hm => by
    have q : (H b).isSome = true := (List.mem_filter.mp hm).2
    rw [n] at q; simp at q
theorem of_hidT {h : Heap} {H : Hp} {b : Addr} {o : Obj} (e : (hidT h H).get? b = some o) : h.get? b = some o ∧ H b = none := by
  have e' : h.get? b = some o := PySem.W.of_hideAll (trk h H) e
  refine ⟨e', ?_⟩
  cases q : H b with
  | none => rfl
  | some x =>
    have hm : b ∈ trk h H := List.mem_filter.mpr ⟨List.mem_range.mpr (Heap.lt_size e'), by simp [q]⟩
    have z : (hidT h H).get? b = none := PySem.W.hideAll_none (trk h H) hm
    rw [z] at e; cases e

/-! ### OpenK's ledger, filled with every new object but one -/
def allNews (g h : Heap) (L : Addr) : List (Addr × Obj) := (List.range h.objs.size).filterMap fun a => if a = L ∨ (g.get? a).isSome = true then none else (h.get? a).map fun o => (a, o)
theorem mem_allNews {g h : Heap} {L a : Addr} {o : Obj} (h1 : a ≠ L) (h2 : g.get? a = none) (h3 : h.get? a = some o) : (a, o) ∈ allNews g h L :=
  List.mem_filterMap.mpr ⟨a, List.mem_range.mpr (Heap.lt_size h3), by simp [h1, h2, h3]⟩
theorem of_mem_allNews {g h : Heap} {L : Addr} {p : Addr × Obj} (hp : p ∈ allNews g h L) : p.1 ≠ L ∧ g.get? p.1 = none ∧ h.get? p.1 = some p.2 := by
  obtain ⟨b, _, e⟩ := List.mem_filterMap.mp hp
  split at e
  · cases e
  · rename_i hn
    cases q : h.get? b with
    | none => rw [q] at e; simp at e
    | some u =>
      rw [q] at e
      simp only [Option.map_some, Option.some.injEq] at e
      subst e
      refine ⟨fun z => hn (.inl z), ?_, q⟩
      show g.get? b = none
      cases r : g.get? b with
      | none => rfl
      | some v => exact (hn (.inr (by simp [r]))).elim
def rest (g h : Heap) (L d : Addr) : List (Addr × Obj) := (allNews g h L).filter fun p => decide (p.1 ≠ d)
theorem rest_ne {g h : Heap} {L d : Addr} : ∀ p ∈ rest g h L d, p.1 ≠ d := fun p hp => of_decide_eq_true (List.mem_filter.mp hp).2
theorem mem_rest {g h : Heap} {L d a : Addr} {o : Obj} (h1 : a ≠ L) (h2 : g.get? a = none) (h3 : h.get? a = some o) (h4 : a ≠ d) : (a, o) ∈ rest g h L d :=
  List.mem_filter.mpr ⟨mem_allNews h1 h2 h3, decide_eq_true h4⟩
theorem news_all {g h : Heap} {L : Addr} : News g L h (allNews g h L) := fun p hp => let ⟨a, b, c⟩ := of_mem_allNews hp; ⟨c, a, b⟩
theorem news_at {g h : Heap} {L d : Addr} {o : Obj} (h1 : d ≠ L) (h2 : g.get? d = none) (h3 : h.get? d = some o) : News g L h ((d, o) :: rest g h L d) := fun p hp => by
  rcases List.mem_cons.mp hp with rfl | hp
  · exact ⟨h3, h1, h2⟩
  · exact news_all p (List.mem_filter.mp hp).1
/-- behind a rule that changed d alone: all else but the frame is kept -/
theorem kept_of_news {g h h' : Heap} {L d : Addr} {m : Str → Option Value} (k : ∀ b o, g.get? b = some o → h.get? b = some o) (F : Fr g L h' m) (N : News g L h' (rest g h L d)) :
    ∀ b o, b ≠ L → b ≠ d → h.get? b = some o → h'.get? b = some o := fun b o h1 h2 e => by
  cases q : g.get? b with
  | some u =>
    have := k b u q
    rw [e] at this; cases this
    exact F.keep b _ q
  | none => exact (N (b, o) (mem_rest h1 q e h2)).1
end L2

namespace L2
open PySem PySem.Spec PyProof.Rows

/-- the module's facts, over the base: the heap at the law's entry without what is tracked there -/
structure Mod (K : PySem.W.Frag) (mg : Str → Option Value) (base : Heap) : Prop where
  kin : K.In base
  glob : base.Ns mainGlobals mg
  blt : ∃ mb, base.Ns builtinsNs mb ∧ ∀ x : Str, x ≠ "__name__" → mb x = bootBuiltins x
  nolimit : base.NoLimit

/-- the context: a def's body (or a comprehension's block) running. base: fixed through the whole law; s₀, H₀: the entry; outer: the frames whose slots others may change (a def's callers); stack: all frames that run;
   ex: iterators that were made ahead of the entry and are walked here (a comprehension's); fn: the names whose cells were made at the entry (a def: all; a comprehension's block: its own); calm: not within an except suite; pn: pins that every state bears; xe: what is wanted of an exception that leaves the code -/
structure Cx where
  prog : Program
  w : World
  K : PySem.W.Frag
  mg : Str → Option Value
  base : Heap
  A : Around
  N : List Str
  s₀ : Shared
  H₀ : Hp
  env : Env
  outer : List Env
  stack : List Env
  ex : List Addr
  fn : Str → Bool
  calm : Bool
  pn : List (Addr × Obj)
  xe : Value → Shared → Prop
/-- the callers' frames -/
def frs (l : List Env) : List Addr := l.filterMap (·.frame)
abbrev Cx.fs (X : Cx) : List Addr := frs X.outer

def Vis (sc : Scope) (x : Str) : Prop := sc.names.lookup x = some .local ∨ sc.names.lookup x = some .cell ∨ sc.names.lookup x = some .free
def Loc (sc : Scope) (x : Str) : Prop := sc.names.lookup x = some .local ∨ sc.names.lookup x = some .cell
def Look (env : Env) (h : Heap) (m : Str → Option Value) (x : Str) (u : Value) : Prop :=
  (env.kindOf x = some .local ∧ m x = some u) ∨ ((env.kindOf x = some .cell ∨ env.kindOf x = some .free) ∧ ∃ c, env.cells.lookup x = some c ∧ h.IsCell c (some u))

structure Cx.Ok (X : Cx) : Prop where
  mod : Mod X.K X.mg X.base
  kind : X.env.scope.kind = .function
  glob : X.env.globals = mainGlobals
  blt : X.env.builtins = builtinsNs
  above : X.s₀.heap.objs.size ≤ X.env.locals
  inj : ∀ x y c, X.env.cells.lookup x = some c → X.env.cells.lookup y = some c → x = y
  has : ∀ x, (X.env.kindOf x = some .cell ∨ X.env.kindOf x = some .free) → ∃ c, X.env.cells.lookup x = some c
  cab : ∀ x c, X.fn x = true → X.env.cells.lookup x = some c → X.s₀.heap.objs.size ≤ c
  hd : X.calm = true → X.A.handled = none
  frames : X.A.frames = some X.stack
  stk : X.stack = X.outer ∨ (X.stack = X.env :: X.outer ∧ X.env.frame = some X.env.locals)
  exf : ∀ b ∈ X.ex, b ≠ X.env.locals ∧ ∀ x c, X.env.cells.lookup x = some c → c ≠ b
  bs : ∀ b o, X.base.get? b = some o → X.s₀.heap.get? b = some o ∧ X.H₀ b = none
  bsz : X.base.objs.size ≤ X.s₀.heap.objs.size
  noex : ∀ b o, X.base.get? b = some o → b ∉ X.ex
  exfs : ∀ b ∈ X.ex, b ∉ X.fs
  funs : X.s₀.heap.FunFrames X.base X.outer
  frf : ∀ b ∈ X.fs, X.H₀ b = none

structure Inv (X : Cx) (pins : List (Addr × Obj)) (σ : List (Option V)) (H : Hp) (s : Shared) : Prop where
  ok : X.Ok
  os : s.os = X.s₀.os
  bare : AllBare s.gens
  base : Un X.fs X.ex X.H₀ H X.s₀.heap s.heap
  loc : ∃ m, s.heap.Ns X.env.locals m ∧ ∀ (i : Nat) (x : Str) (v : V), X.N[i]? = some x → σ[i]? = some (some v) → Vis X.env.scope x → ∃ u, RelV v u ∧ Look X.env s.heap m x u
  cell : ∀ x c, X.env.cells.lookup x = some c → ∃ v, s.heap.IsCell c v
  free : H X.env.locals = none
  freeC : ∀ x c, X.env.cells.lookup x = some c → H c = none
  pin : ∀ p ∈ X.pn ++ pins, s.heap.get? p.1 = some p.2 ∧ H p.1 = none ∧ p.1 ≠ X.env.locals ∧ p.1 ∉ X.fs ∧ ∀ v, p.2.data ≠ .cell v
  hok : HOk X.prog X.w H s.heap
  len : σ.length = X.N.length

section
variable {X : Cx} {pins : List (Addr × Obj)} {σ : List (Option V)} {H H' : Hp} {s : Shared} {h' : Heap}

theorem Cx.Ok.nofr (ok : X.Ok) {b : Addr} {o : Obj} (e : X.base.get? b = some o) : b ∉ X.fs := fun hb => by
  have := (ok.funs.mem hb).1
  rw [e] at this; cases this
theorem Inv.bs (I : Inv X pins σ H s) : ∀ b o, X.base.get? b = some o → s.heap.get? b = some o ∧ H b = none := fun b o e =>
  ⟨I.base.keep b o (I.ok.bs b o e).1 (I.ok.bs b o e).2 (I.ok.nofr e) (I.ok.noex b o e), I.base.free b o (I.ok.bs b o e).1 (I.ok.bs b o e).2 (I.ok.noex b o e)⟩
theorem Inv.bk (I : Inv X pins σ H s) : ∀ b o, X.base.get? b = some o → s.heap.get? b = some o := fun b o e => (I.bs b o e).1
theorem Inv.mod (I : Inv X pins σ H s) : Mod X.K X.mg X.base := I.ok.mod
theorem Inv.kIn (I : Inv X pins σ H s) : X.K.In s.heap := I.ok.mod.kin.keeps I.bk
theorem Inv.nolimit (I : Inv X pins σ H s) : s.heap.NoLimit := I.ok.mod.nolimit.keeps I.bk
/-- the frame over the base: for OpenK's rules (K.In X.base is I.mod.kin) -/
theorem Inv.fr (I : Inv X pins σ H s) : ∃ m, Fr X.base X.env.locals s.heap m :=
  let ⟨m, hn, _⟩ := I.loc
  ⟨m, hn, I.bk, Nat.le_trans I.ok.bsz I.ok.above⟩
theorem Inv.lt (I : Inv X pins σ H s) : X.env.locals < s.heap.objs.size := let ⟨_, hn, _⟩ := I.loc; hn.lt
theorem Inv.sz (I : Inv X pins σ H s) : X.s₀.heap.objs.size ≤ s.heap.objs.size := Nat.le_trans I.ok.above (Nat.le_of_lt I.lt)
theorem Inv.nofs (I : Inv X pins σ H s) {a : Addr} (h : s.heap.objs.size ≤ a) : a ∉ X.fs := fun hb => by
  obtain ⟨_, o, ho, _⟩ := I.ok.funs.mem hb
  exact absurd (Nat.lt_of_lt_of_le (Heap.lt_size ho) (Nat.le_trans I.sz h)) (Nat.lt_irrefl _)
theorem Inv.cne (I : Inv X pins σ H s) : ∀ x c, X.env.cells.lookup x = some c → c ≠ X.env.locals := fun x c e z => by
  obtain ⟨v, o, ho, hd⟩ := I.cell x c e
  obtain ⟨m, ⟨o', es, ep, ho', hd', _⟩, _⟩ := I.loc
  rw [z, ho'] at ho; cases ho; rw [hd'] at hd; cases hd
theorem Inv.funs (I : Inv X pins σ H s) : s.heap.FunFrames X.base X.outer := by
  have all : ∀ (l : List Env), (∀ b ∈ frs l, b ∈ X.fs) → X.s₀.heap.FunFrames X.base l → s.heap.FunFrames X.base l := by
    intro l
    induction l with
    | nil => intro _ _; trivial
    | cons env r ih =>
      intro hs hl
      obtain ⟨hk, ⟨L, o, hf, hn, ho, hd⟩, hr⟩ := hl
      have hL : L ∈ X.fs := hs L (by unfold frs; rw [List.filterMap_cons, hf]; exact List.mem_cons_self)
      obtain ⟨sl, e⟩ := I.base.slot L o ho (I.ok.frf L hL) hL fun z => I.ok.exfs L z hL
      exact ⟨hk, ⟨L, _, hf, hn, e, hd⟩, ih (fun b hb => hs b (by unfold frs; rw [List.filterMap_cons, hf]; exact List.mem_cons_of_mem _ hb)) hr⟩
  exact all X.outer (fun _ hb => hb) I.ok.funs

/-- the frames that run, for a call -/
theorem Inv.stack (I : Inv X pins σ H s) : s.heap.FunFrames X.base X.stack := by
  rcases I.ok.stk with e | ⟨e, hf⟩
  · rw [e]; exact I.funs
  · rw [e]
    obtain ⟨m, hn, _⟩ := I.loc
    refine .cons (by rw [I.ok.kind]; decide) hf hn ?_ I.funs
    exact Heap.get?_none_of_le (Nat.le_trans I.ok.bsz I.ok.above)
theorem Inv.stkSub (I : Inv X pins σ H s) : ∀ b ∈ frs X.stack, b ∈ X.env.locals :: X.fs := fun b hb => by
  rcases I.ok.stk with e | ⟨e, hf⟩
  · rw [e] at hb; exact List.mem_cons_of_mem _ hb
  · rw [e] at hb
    unfold frs at hb
    rw [List.filterMap_cons, hf] at hb
    exact hb
theorem Inv.stkFree (I : Inv X pins σ H s) : ∀ b ∈ frs X.stack, H b = none := fun b hb => by
  rcases List.mem_cons.mp (I.stkSub b hb) with e | hb
  · rw [e]; exact I.free
  · obtain ⟨_, o, ho, _⟩ := I.ok.funs.mem hb
    exact I.base.free b o ho (I.ok.frf b hb) fun z => I.ok.exfs b z hb

/-- THE STEP: the untracked objects but the frame and the records at ch are kept (the callers' frames up to slots), the frame's map is kept, the new abstract heap is held -/
theorem Inv.step {g' : Array GenState} {t' : Nat} {d' : Drawn} {ch : List Addr} (I : Inv X pins σ H s)
    (hch : ∀ b ∈ ch, (b ∈ X.ex ∨ X.s₀.heap.objs.size ≤ b) ∧ b ≠ X.env.locals ∧ (∀ x c, X.env.cells.lookup x = some c → c ≠ b) ∧ ∀ p ∈ X.pn ++ pins, p.1 ≠ b)
    (keep : ∀ b o, b ≠ X.env.locals → b ∉ X.fs → b ∉ ch → s.heap.get? b = some o → H b = none → h'.get? b = some o)
    (slot : ∀ b o, b ≠ X.env.locals → b ∈ X.fs → b ∉ ch → s.heap.get? b = some o → H b = none → ∃ sl, h'.get? b = some { o with slots := sl }) (free : ∀ b o, b ∉ ch → s.heap.get? b = some o → H b = none → H' b = none)
    (there : ∀ b o, b ∉ ch → s.heap.get? b = some o → ∃ o', h'.get? b = some o')
    (tups : ∀ b xs, H b = some (.tup xs) → H' b = some (.tup xs)) (frzs : ∀ b o u, H b = some (.frz o u) → H' b = some (.frz o u)) (tbls : ∀ b ps, H b = some (.tbl ps) → ∃ more, H' b = some (.tbl (ps ++ more)))
    (ns : ∀ m, s.heap.Ns X.env.locals m → h'.Ns X.env.locals m) (hok : HOk X.prog X.w H' h') (hg : AllBare g') :
    Inv X pins σ H' { s with heap := h', gens := g', drawn := d', toks := t' } := by
  have neL : ∀ b o, X.s₀.heap.get? b = some o → b ≠ X.env.locals := fun b o e => Nat.ne_of_lt (Nat.lt_of_lt_of_le (Heap.lt_size e) I.ok.above)
  have neC : ∀ b o, X.s₀.heap.get? b = some o → b ∉ X.ex → b ∉ ch := fun b o e hx hb => by
    rcases (hch b hb).1 with z | z
    · exact hx z
    · exact absurd (Nat.lt_of_lt_of_le (Heap.lt_size e) z) (Nat.lt_irrefl _)
  have cellK : ∀ x c, X.env.cells.lookup x = some c → ∀ v, s.heap.IsCell c v → h'.IsCell c v := fun x c e v ⟨o, ho, hd⟩ => by
    have nch : c ∉ ch := fun z => (hch c z).2.2.1 x c e rfl
    by_cases hc : c ∈ X.fs
    · obtain ⟨sl, q⟩ := slot c o (I.cne x c e) hc nch ho (I.freeC x c e)
      exact ⟨_, q, hd⟩
    · exact ⟨o, keep c o (I.cne x c e) hc nch ho (I.freeC x c e), hd⟩
  refine ⟨I.ok, I.os, hg, ⟨fun b o e n hb hx => ?_, fun b o e n hb hx => ?_, fun b o e n hx => ?_, fun b o e hx => ?_, fun b xs e => tups b xs (I.base.tups b xs e), fun b o xs e => frzs b o xs (I.base.frzs b o xs e), fun b ps e => ?_⟩, ?_, fun x c e => ?_, ?_, fun x c e => ?_, fun p hp => ?_, hok, I.len⟩
  · exact keep b o (neL b o e) hb (neC b o e hx) (I.base.keep b o e n hb hx) (I.base.free b o e n hx)
  · obtain ⟨sl, e1⟩ := I.base.slot b o e n hb hx
    obtain ⟨sl', e2⟩ := slot b _ (neL b o e) hb (neC b o e hx) e1 (I.base.free b o e n hx)
    exact ⟨sl', e2⟩
  · obtain ⟨o', e1⟩ := I.base.there b o e hx
    exact free b o' (neC b o e hx) e1 (I.base.free b o e n hx)
  · obtain ⟨o', e1⟩ := I.base.there b o e hx
    exact there b o' (neC b o e hx) e1
  · obtain ⟨m1, e1⟩ := I.base.tbls b ps e
    obtain ⟨m2, e2⟩ := tbls b _ e1
    exact ⟨m1 ++ m2, by rw [e2, Array.append_assoc]⟩
  · obtain ⟨m, hn, hl⟩ := I.loc
    refine ⟨m, ns m hn, fun i x v e1 e2 e3 => ?_⟩
    obtain ⟨u, r, l⟩ := hl i x v e1 e2 e3
    refine ⟨u, r, ?_⟩
    rcases l with l | ⟨k, c, e, z⟩
    · exact .inl l
    · exact .inr ⟨k, c, e, cellK x c e _ z⟩
  · obtain ⟨v, z⟩ := I.cell x c e
    exact ⟨v, cellK x c e v z⟩
  · obtain ⟨m, ⟨o, _, _, ho, _⟩, _⟩ := I.loc
    exact free _ o (fun z => (hch _ z).2.1 rfl) ho I.free
  · obtain ⟨v, o, ho, hd⟩ := I.cell x c e
    exact free c o (fun z => (hch c z).2.2.1 x c e rfl) ho (I.freeC x c e)
  · obtain ⟨e, n, ne, nf, d⟩ := I.pin p hp
    have nch : p.1 ∉ ch := fun z => (hch p.1 z).2.2.2 p hp rfl
    exact ⟨keep p.1 p.2 ne nf nch e n, free p.1 p.2 nch e n, ne, nf, d⟩
/-- .. where the frame's own object is kept too -/
theorem Inv.un {t' : Nat} (I : Inv X pins σ H s) (u : Un X.fs [] H H' s.heap h') (hok : HOk X.prog X.w H' h') : Inv X pins σ H' { s with heap := h', toks := t' } := by
  obtain ⟨m, ⟨o, es, ep, ho, r⟩, _⟩ := id I.loc
  obtain ⟨sl, hL⟩ := u.any ho I.free (by simp)
  exact I.step (g' := s.gens) (d' := s.drawn) (ch := []) (fun _ z => nomatch z) (fun b o _ hb _ e n => u.keep b o e n hb (by simp)) (fun b o _ hb _ e n => u.slot b o e n hb (by simp)) (fun b o _ e n => u.free b o e n (by simp)) (fun b o _ e => u.there b o e (by simp)) u.tups u.frzs u.tbls (fun m' hm => by
    obtain ⟨o', es', ep', ho', r'⟩ := hm
    rw [ho] at ho'; cases ho'
    exact ⟨_, es', ep', hL, r'⟩) hok I.bare
/-- behind a call (or a comprehension's block): the slots of this frame may have changed too, the records at ch may have turned -/
theorem Inv.call {g' : Array GenState} {t' : Nat} {d' : Drawn} {ch : List Addr} (I : Inv X pins σ H s) (u : Un (frs X.stack) ch H H' s.heap h') (hok : HOk X.prog X.w H' h') (hg : AllBare g')
    (hch : ∀ b ∈ ch, (b ∈ X.ex ∨ X.s₀.heap.objs.size ≤ b) ∧ b ≠ X.env.locals ∧ (∀ x c, X.env.cells.lookup x = some c → c ≠ b) ∧ ∀ p ∈ X.pn ++ pins, p.1 ≠ b) :
    Inv X pins σ H' { s with heap := h', gens := g', drawn := d', toks := t' } := by
  obtain ⟨m, ⟨o, es, ep, ho, r⟩, _⟩ := id I.loc
  obtain ⟨sl, hL⟩ := u.any ho I.free fun z => (hch _ z).2.1 rfl
  exact I.step (ch := ch) hch (fun b o hL hb hc e n => u.keep b o e n (fun z => (List.mem_cons.mp (I.stkSub b z)).elim hL hb) hc) (fun b o _ _ hc e n => u.any e n hc) (fun b o hc e n => u.free b o e n hc) (fun b o hc e => u.there b o e hc) u.tups u.frzs u.tbls (fun m' hm => by
    obtain ⟨o', es', ep', ho', r'⟩ := hm
    rw [ho] at ho'; cases ho'
    exact ⟨_, es', ep', hL, r'⟩) hok hg
/-- an untracked record of ours (an iterator) has turned -/
theorem Inv.turned {t' : Nat} {it : Addr} (I : Inv X pins σ H s) (k : ∀ b o, b ≠ it → s.heap.get? b = some o → h'.get? b = some o) (hn : H it = none) (hL : it ≠ X.env.locals)
    (h1 : it ∈ X.ex ∨ X.s₀.heap.objs.size ≤ it) (h2 : ∀ x c, X.env.cells.lookup x = some c → c ≠ it) (h3 : ∀ p ∈ X.pn ++ pins, p.1 ≠ it) : Inv X pins σ H { s with heap := h', toks := t' } := by
  have nit : ∀ b u, H b = some u → b ≠ it := fun b u e z => by rw [z, hn] at e; cases e
  refine I.step (g' := s.gens) (d' := s.drawn) (ch := [it]) (fun b hb => ?_) (fun b o _ _ hc e _ => k b o (fun z => hc (by simp [z])) e) (fun b o _ _ hc e _ => ⟨o.slots, k b o (fun z => hc (by simp [z])) e⟩) (fun _ _ _ _ n => n)
    (fun b o hc e => ⟨o, k b o (fun z => hc (by simp [z])) e⟩) (fun _ _ e => e) (fun _ _ _ e => e) (fun b ps e => ⟨#[], by rw [e]; simp⟩) (fun m hm => ?_) (fun b u e => ?_) I.bare
  · have e : b = it := by simpa using hb
    subst e
    exact ⟨h1, hL, h2, h3⟩
  · obtain ⟨o, es, ep, ho, r⟩ := hm
    exact ⟨o, es, ep, k _ o (Ne.symm hL) ho, r⟩
  · refine (I.hok b u e).stay (fun c v hc q => k c v ?_ q) (fun _ q => q) fun _ _ q => q
    rcases hc with z | z
    · rw [z]; exact nit b u e
    · exact nit c _ z
theorem Inv.tok (I : Inv X pins σ H s) (t : Nat) : Inv X pins σ H { s with toks := t } := I.un (h' := s.heap) (t' := t) Un.refl I.hok
/-- all objects kept -/
theorem Inv.kept {t' : Nat} (I : Inv X pins σ H s) (k : ∀ b u, s.heap.get? b = some u → h'.get? b = some u) : Inv X pins σ H { s with heap := h', toks := t' } := I.un (Un.kept k) (I.hok.kept k)
/-- a new object laid and tracked -/
theorem Inv.laid {a : Addr} {o : HO} {t' : Nat} (I : Inv X pins σ H s) (k : ∀ b u, s.heap.get? b = some u → h'.get? b = some u) (hp : s.heap.objs.size ≤ a) (new : ObjOk X.prog X.w (upd H a o) h' a o) :
    Inv X pins σ (upd H a o) { s with heap := h', toks := t' } := I.un (Un.laid k hp (I.hok.fresh hp)) (I.hok.laid k hp new)
/-- an object written -/
theorem Inv.write {x e : Addr} {o : HO} {t' : Nat} (I : Inv X pins σ H s) (mu : Mut (H x)) (he : e = x ∨ H e = some (.own x)) (k : ∀ b u, b ≠ e → s.heap.get? b = some u → h'.get? b = some u) (heo : ∃ u, h'.get? e = some u)
    (new : ObjOk X.prog X.w (upd H x o) h' x o) : Inv X pins σ (upd H x o) { s with heap := h', toks := t' } := I.un (Un.write mu he k heo) (I.hok.write mu he k heo new)
/-- forgetting slots, pins -/
theorem Inv.weak {σ' : List (Option V)} (I : Inv X pins σ H s) (hl : σ'.length = σ.length) (w : ∀ (i : Nat) v, σ'[i]? = some (some v) → σ[i]? = some (some v)) : Inv X pins σ' H s :=
  ⟨I.ok, I.os, I.bare, I.base, let ⟨m, hn, hl'⟩ := I.loc; ⟨m, hn, fun i x v e1 e2 e3 => hl' i x v e1 (w i v e2) e3⟩, I.cell, I.free, I.freeC, I.pin, I.hok, hl.trans I.len⟩
theorem Inv.pins_of {pins' : List (Addr × Obj)} (I : Inv X pins σ H s) (h : ∀ p ∈ pins', s.heap.get? p.1 = some p.2 ∧ H p.1 = none ∧ p.1 ≠ X.env.locals ∧ p.1 ∉ X.fs ∧ ∀ v, p.2.data ≠ .cell v) : Inv X pins' σ H s :=
  ⟨I.ok, I.os, I.bare, I.base, I.loc, I.cell, I.free, I.freeC, fun p hp => (List.mem_append.mp hp).elim (fun z => I.pin p (List.mem_append_left _ z)) (h p), I.hok, I.len⟩

theorem nodup_ix {N : List Str} (hN : N.Nodup) {i j : Nat} {x : Str} (a : N[i]? = some x) (b : N[j]? = some x) : i = j := by
  obtain ⟨h1, e1⟩ := List.getElem?_eq_some_iff.mp a
  obtain ⟨h2, e2⟩ := List.getElem?_eq_some_iff.mp b
  exact (List.getElem_inj hN).mp (e1.trans e2.symm)

/-- a name is stored; what changed -/
theorem store_ok2 {M : Model} {A : Around} {E : Value → Shared → Prop} {i : Nat} {x : Str} {v : V} {u : Value} {Q : Unit → Shared → Prop} (I : Inv X pins σ H s) (hN : X.N.Nodup) (hi : X.N[i]? = some x) (hx : Loc X.env.scope x) (r : RelV v u)
    (h : ∀ s', Inv X pins (σ.set i (some v)) H s' → (∃ a, Heap.SameBut a s.heap s'.heap ∧ (a = X.env.locals ∨ X.env.cells.lookup x = some a)) → Q () s') (hf : X.fn x = true ∨ X.env.scope.names.lookup x = some .local := by first | exact .inl rfl | exact .inr rfl | assumption) : wpAny M A (storeName X.env x u) Q E s := by
  obtain ⟨m, hn, hl⟩ := id I.loc
  have hcls : (X.env.scope.kind == .class || (X.env.scope.kind == .module && X.env.locals != X.env.globals)) = false := by rw [I.ok.kind]; rfl
  have hiσ : i < σ.length := by rw [I.len]; exact (List.getElem?_eq_some_iff.mp hi).1
  have cne := I.cne
  have tracked : ∀ {a : Addr} {h' : Heap}, (∃ o, s.heap.get? a = some o ∧ H a = none) → Heap.SameBut a s.heap h' → HOk X.prog X.w H h' := fun {a h'} ha hs b ob e => by
    obtain ⟨_, _, hfree⟩ := ha
    refine (I.hok b ob e).stay (fun c w' hc q => (hs.2 c ?_).trans q) (fun _ q => q) fun _ _ q => q
    rintro rfl
    rcases hc with rfl | hc
    · rw [hfree] at e; cases e
    · rw [hfree] at hc; cases hc
  rcases hx with hk | hk
  · refine wpAny_storeName_local hk hn (fun h' hn' hs => ?_) hcls
    obtain ⟨oL, _, _, hoL, _⟩ := id hn
    refine h _ ⟨I.ok, I.os, I.bare, ⟨fun b o e n hb hx => ?_, fun b o e n hb hx => ?_, I.base.free, fun b o e hx => ?_, I.base.tups, I.base.frzs, I.base.tbls⟩, ⟨_, hn', fun j y v' e1 e2 e3 => ?_⟩, fun y c e => ?_, I.free, I.freeC, fun p hp => ?_, tracked ⟨oL, hoL, I.free⟩ hs, by simpa using I.len⟩ ⟨_, hs, .inl rfl⟩
    · exact (hs.2 b (Nat.ne_of_lt (Nat.lt_of_lt_of_le (Heap.lt_size e) I.ok.above))).trans (I.base.keep b o e n hb hx)
    · obtain ⟨sl, e1⟩ := I.base.slot b o e n hb hx
      exact ⟨sl, (hs.2 b (Nat.ne_of_lt (Nat.lt_of_lt_of_le (Heap.lt_size e) I.ok.above))).trans e1⟩
    · obtain ⟨o', e1⟩ := I.base.there b o e hx
      exact ⟨o', (hs.2 b (Nat.ne_of_lt (Nat.lt_of_lt_of_le (Heap.lt_size e) I.ok.above))).trans e1⟩
    · by_cases hj : j = i
      · subst hj
        rw [hi] at e1; cases e1
        rw [List.getElem?_set_self hiσ] at e2
        cases e2
        exact ⟨u, r, .inl ⟨hk, by simp⟩⟩
      · rw [List.getElem?_set_ne (Ne.symm hj)] at e2
        obtain ⟨u', r', q⟩ := hl j y v' e1 e2 e3
        refine ⟨u', r', ?_⟩
        rcases q with ⟨k, e⟩ | ⟨k, c, e, z⟩
        · refine .inl ⟨k, ?_⟩
          have : y ≠ x := fun e => hj (nodup_ix hN e1 (e ▸ hi))
          simp [this, e]
        · exact .inr ⟨k, c, e, z.sameBut hs (cne y c e)⟩
    · obtain ⟨w', z⟩ := I.cell y c e
      exact ⟨w', z.sameBut hs (cne y c e)⟩
    · obtain ⟨e, n, ne, nf, d⟩ := I.pin p hp
      exact ⟨(hs.2 p.1 ne).trans e, n, ne, nf, d⟩
  · have hfn : X.fn x = true := by
      rcases hf with z | z
      · exact z
      · rw [z] at hk; cases hk
    obtain ⟨c, hc⟩ := I.ok.has x (.inl hk)
    obtain ⟨w', z⟩ := I.cell x c hc
    refine wpAny_storeName_cell I.ok.kind hk hc z (fun h' hc' hs => ?_)
    obtain ⟨oc, hoc, hocd⟩ := id z
    refine h { s with heap := h' } ⟨I.ok, I.os, I.bare, ⟨fun b o e n hb hx => ?_, fun b o e n hb hx => ?_, I.base.free, fun b o e hx => ?_, I.base.tups, I.base.frzs, I.base.tbls⟩, ⟨m, hn.sameBut hs (Ne.symm (cne x c hc)), fun j y v' e1 e2 e3 => ?_⟩, fun y c' e => ?_, I.free, I.freeC, fun p hp => ?_, tracked ⟨oc, hoc, I.freeC x c hc⟩ hs, by simpa using I.len⟩ ⟨c, hs, .inr hc⟩
    · exact (hs.2 b (Nat.ne_of_lt (Nat.lt_of_lt_of_le (Heap.lt_size e) (I.ok.cab x c hfn hc)))).trans (I.base.keep b o e n hb hx)
    · obtain ⟨sl, e1⟩ := I.base.slot b o e n hb hx
      exact ⟨sl, (hs.2 b (Nat.ne_of_lt (Nat.lt_of_lt_of_le (Heap.lt_size e) (I.ok.cab x c hfn hc)))).trans e1⟩
    · obtain ⟨o', e1⟩ := I.base.there b o e hx
      exact ⟨o', (hs.2 b (Nat.ne_of_lt (Nat.lt_of_lt_of_le (Heap.lt_size e) (I.ok.cab x c hfn hc)))).trans e1⟩
    · by_cases hj : j = i
      · subst hj
        rw [hi] at e1; cases e1
        rw [List.getElem?_set_self hiσ] at e2
        cases e2
        exact ⟨u, r, .inr ⟨.inl hk, c, hc, hc'⟩⟩
      · rw [List.getElem?_set_ne (Ne.symm hj)] at e2
        obtain ⟨u', r', q⟩ := hl j y v' e1 e2 e3
        refine ⟨u', r', ?_⟩
        rcases q with q | ⟨k, c', e, z'⟩
        · exact .inl q
        · refine .inr ⟨k, c', e, z'.sameBut hs ?_⟩
          rintro rfl
          exact hj (nodup_ix hN e1 (I.ok.inj _ _ _ e hc ▸ hi))
    · by_cases hcc : c' = c
      · subst hcc; exact ⟨_, hc'⟩
      · obtain ⟨w2, z2⟩ := I.cell y c' e
        exact ⟨w2, z2.sameBut hs hcc⟩
    · obtain ⟨e, n, ne, nf, d⟩ := I.pin p hp
      refine ⟨(hs.2 p.1 ?_).trans e, n, ne, nf, d⟩
      intro q
      rw [q, hoc] at e
      have q' : oc = p.2 := Option.some.inj e
      exact d w' (by rw [← q']; exact hocd)
theorem store_ok {M : Model} {A : Around} {E : Value → Shared → Prop} {i : Nat} {x : Str} {v : V} {u : Value} {Q : Unit → Shared → Prop} (I : Inv X pins σ H s) (hN : X.N.Nodup) (hi : X.N[i]? = some x) (hx : Loc X.env.scope x) (r : RelV v u)
    (h : ∀ s', Inv X pins (σ.set i (some v)) H s' → Q () s') (hf : X.fn x = true ∨ X.env.scope.names.lookup x = some .local := by first | exact .inl rfl | exact .inr rfl | assumption) : wpAny M A (storeName X.env x u) Q E s :=
  store_ok2 I hN hi hx r (fun s' I' _ => h s' I') hf
/-- behind a call or a block, the state as it is -/
theorem Inv.call' {s' : Shared} {ch : List Addr} (I : Inv X pins σ H s) (ho : s'.os = s.os) (u : Un (frs X.stack) ch H H' s.heap s'.heap) (hok : HOk X.prog X.w H' s'.heap) (hg : AllBare s'.gens)
    (hch : ∀ b ∈ ch, (b ∈ X.ex ∨ X.s₀.heap.objs.size ≤ b) ∧ b ≠ X.env.locals ∧ (∀ x c, X.env.cells.lookup x = some c → c ≠ b) ∧ ∀ p ∈ X.pn ++ pins, p.1 ≠ b) : Inv X pins σ H' s' := by
  obtain ⟨h', g', d', t', o'⟩ := s'
  have e : o' = s.os := ho
  subst e
  exact I.call (g' := g') (t' := t') (d' := d') u hok hg hch
end

/-! ### the judgements -/
/-- an exception: its class, its own dict's address (where it has one), the abstract heap behind it -/
abbrev XK := Value → Option Addr → Hp → Prop
abbrev St := List (Option V)
abbrev VK := V → Hp → Prop
/-- an expression's reading; a test's; an argument list's -/
abbrev TE := St → Hp → VK → Prop
abbrev TT := St → Hp → (Bool → Hp → Prop) → Prop
abbrev TA := St → Hp → (List V → Hp → Prop) → Prop
/-- what is wanted behind a statement -/
structure Ends where
  nx : St → Hp → Prop
  rt : VK
  bk : St → Hp → Prop := fun _ _ => False
  ct : St → Hp → Prop := fun _ _ => False
abbrev TS := Ends → St → Hp → Prop

def EP (X : Cx) (pins : List (Addr × Obj)) (σ : St) (Q : VK) (u : Value) (s' : Shared) : Prop := ∃ v H', Inv X pins σ H' s' ∧ RelV v u ∧ Q v H'
def TP (X : Cx) (pins : List (Addr × Obj)) (σ : St) (Q : Bool → Hp → Prop) (b : Bool) (s' : Shared) : Prop := ∃ H', Inv X pins σ H' s' ∧ Q b H'
def AP (X : Cx) (pins : List (Addr × Obj)) (σ : St) (Q : List V → Hp → Prop) (us : List Value) (s' : Shared) : Prop := ∃ vs H', Inv X pins σ H' s' ∧ Vals vs us ∧ Q vs H'
def SP (X : Cx) (pins : List (Addr × Obj)) (D : Ends) (f : Flow) (s' : Shared) : Prop :=
  match f with
  | .next => ∃ σ' H', Inv X pins σ' H' s' ∧ D.nx σ' H'
  | .brk => ∃ σ' H', Inv X pins σ' H' s' ∧ D.bk σ' H'
  | .cont => ∃ σ' H', Inv X pins σ' H' s' ∧ D.ct σ' H'
  | .ret u => ∃ v σ' H', Inv X pins σ' H' s' ∧ RelV v u ∧ D.rt v H'

def PE (X : Cx) (e : Expr) (t : TE) : Prop :=
  ∀ (pins : List (Addr × Obj)) (s : Shared) (σ : St) (H : Hp) (Q : VK), Inv X pins σ H s → t σ H Q → wpAny (model X.prog X.w) X.A (eval e X.env) (EP X pins σ Q) X.xe s
def PT (X : Cx) (e : Expr) (t : TT) : Prop :=
  ∀ (pins : List (Addr × Obj)) (s : Shared) (σ : St) (H : Hp) (Q : Bool → Hp → Prop), Inv X pins σ H s → t σ H Q → wpAny (model X.prog X.w) X.A (isTrue e X.env (eval e X.env)) (TP X pins σ Q) X.xe s
/-- a test whatever its 'whole' is (and, or) -/
def PW (X : Cx) (e : Expr) (t : TT) : Prop :=
  ∀ (whole : Sem Value) (pins : List (Addr × Obj)) (s : Shared) (σ : St) (H : Hp) (Q : Bool → Hp → Prop), Inv X pins σ H s → t σ H Q → wpAny (model X.prog X.w) X.A (isTrue e X.env whole) (TP X pins σ Q) X.xe s
theorem PW.pt {X : Cx} {e : Expr} {t : TT} (h : PW X e t) : PT X e t := h _
/-- an argument list (no star), from the left -/
def PA (X : Cx) (es : List Expr) (t : TA) : Prop :=
  ∀ (pos : Pos) (pins : List (Addr × Obj)) (s : Shared) (σ : St) (H : Hp) (Q : List V → Hp → Prop), Inv X pins σ H s → t σ H Q → wpAny (model X.prog X.w) X.A (spliced (backTo pos (starEach es X.env))) (AP X pins σ Q) X.xe s
def PS (X : Cx) (st : Stmt) (t : TS) : Prop :=
  ∀ (pins : List (Addr × Obj)) (s : Shared) (σ : St) (H : Hp) (D : Ends), Inv X pins σ H s → t D σ H → wpAny (model X.prog X.w) X.A (exec st X.env) (SP X pins D) X.xe s
def PSs (X : Cx) (st : List Stmt) (t : TS) : Prop :=
  ∀ (pins : List (Addr × Obj)) (s : Shared) (σ : St) (H : Hp) (D : Ends), Inv X pins σ H s → t D σ H → wpAny (model X.prog X.w) X.A (execs st X.env) (SP X pins D) X.xe s
/-- weaken the end -/
theorem thn {α : Type} {t : Sem α} {Q Q' : α → Shared → Prop} {M : Model} {A : Around} {E : Value → Shared → Prop} {s : Shared} (h : wpAny M A t Q E s) (hQ : ∀ a s, Q a s → Q' a s) : wpAny M A t Q' E s := wpAny_mono h hQ fun _ _ x => x
end L2

namespace L2
open PySem PySem.Spec PyProof.Rows
section
variable {X : Cx}

/-- two expressions in a row -/
theorem bin {a b : Expr} {ta tb : TE} (ha : PE X a ta) (hb : PE X b tb) {pins : List (Addr × Obj)} {s : Shared} {σ : St} {H : Hp} {R : V → V → Hp → Prop} (I : Inv X pins σ H s) (h : ta σ H fun x H1 => tb σ H1 fun y H2 => R x y H2)
    {α : Type} {Q : α → Shared → Prop} {f : Value → Value → Sem α}
    (hf : ∀ v u s2 x y H2, Inv X pins σ H2 s2 → RelV x v → RelV y u → R x y H2 → wpAny (model X.prog X.w) X.A (f v u) Q X.xe s2) :
    wpAny (model X.prog X.w) X.A (eval a X.env) (fun v s₁ => wpAny (model X.prog X.w) X.A (eval b X.env) (fun u s₂ => wpAny (model X.prog X.w) X.A (f v u) Q X.xe s₂) X.xe s₁) X.xe s := by
  refine thn (ha pins s σ H _ I h) fun v s1 ⟨x, H1, I1, r1, q1⟩ => ?_
  refine thn (hb pins s1 σ H1 _ I1 q1) fun u s2 ⟨y, H2, I2, r2, q2⟩ => ?_
  exact hf v u s2 x y H2 I2 r1 r2 q2

/-! ### names and constants -/
def tVar (i : Nat) : TE := fun σ H Q => ∃ v, σ[i]? = some (some v) ∧ Q v H
def tC (v : V) : TE := fun _ H Q => Q v H
theorem pe_var {i : Nat} {x : Str} {pos : Pos} (hN : X.N[i]? = some x) (hv : Vis X.env.scope x) (hd : (x == ("__debug__" : Str)) = false := by decide) (hcd : (x == ("__classdict__" : Str)) = false := by decide) : PE X (.Name x pos) (tVar i) := by
  intro pins s σ H Q I h
  obtain ⟨v, e, h⟩ := h
  obtain ⟨m, hn, hl⟩ := I.loc
  obtain ⟨u, r, l⟩ := hl i x v hN e hv
  have fin : EP X pins σ Q u s := ⟨v, H, I, r, h⟩
  rcases l with ⟨hk, hm⟩ | ⟨hk, c, hc, hcell⟩
  · exact wpAny_Name (wpAny_loadName_local I.ok.kind hk hn hm fin) hd
  · rcases hk with hk | hk
    · exact wpAny_Name (wpAny_loadName_cell I.ok.kind hk hc hcell fin) hd
    · exact wpAny_Name (wpAny_loadName_free I.ok.kind hk hc hcell fin hcd) hd
theorem pe_int {i j pos} : PE X (.Constant (.int i) j pos) (tC (.int i)) := fun _ _ _ H _ I h => wpAny_Constant_int ⟨.int i, H, I.tok _, ⟨_, rfl⟩, h⟩
theorem pe_bl {b j pos} : PE X (.Constant (.bool b) j pos) (tC (.bl b)) := fun _ _ _ H _ I h => Constant_bool ⟨.bl b, H, I, rfl, h⟩
theorem pe_non {j pos} : PE X (.Constant .none j pos) (tC .non) := fun _ _ _ H _ I h => Constant_none ⟨.non, H, I, rfl, h⟩
theorem pe_str {x j pos} : PE X (.Constant (.str x) j pos) (tC (.str x)) := fun _ _ _ H _ I h => Calls.Constant_str ⟨.str x, H, I.tok _, ⟨_, rfl⟩, h⟩

/-- a global name of the def -/
def Gl (X : Cx) (x : Str) : Prop := X.env.kindOf x = some .globalImplicit
theorem ld_glob {E : Value → Shared → Prop} {pins : List (Addr × Obj)} {s : Shared} {σ : St} {H : Hp} {x : Str} {u : Value} {pos : Pos} {Q : Value → Shared → Prop} (I : Inv X pins σ H s) (hg : Gl X x) (hm : X.mg x = some u) (h : Q u s)
    (hd : (x == ("__debug__" : Str)) = false := by decide) : wpAny (model X.prog X.w) X.A (eval (.Name x pos) X.env) Q E s :=
  Calls.Name_function_global I.ok.kind hg (Calls.loadGlobal_global (by rw [I.ok.glob]; exact I.mod.glob.keeps I.bk) hm h) hd
theorem ld_blt {E : Value → Shared → Prop} {pins : List (Addr × Obj)} {s : Shared} {σ : St} {H : Hp} {x : Str} {u : Value} {pos : Pos} {Q : Value → Shared → Prop} (I : Inv X pins σ H s) (hg : Gl X x) (hm : X.mg x = none) (hv : bootBuiltins x = some u) (h : Q u s)
    (hn : x ≠ "__name__" := by decide) (hd : (x == ("__debug__" : Str)) = false := by decide) : wpAny (model X.prog X.w) X.A (eval (.Name x pos) X.env) Q E s := by
  obtain ⟨mb, h1, h2⟩ := I.mod.blt
  exact Calls.Name_function_global I.ok.kind hg (Calls.loadGlobal_builtin (by rw [I.ok.glob]; exact I.mod.glob.keeps I.bk) hm (by rw [I.ok.blt]; exact h1.keeps I.bk) ((h2 x hn).trans hv) h) hd
/-- a module's constant, a class, a function, as a value -/
theorem pe_glob {x : Str} {v : V} {u : Value} {pos : Pos} (hg : Gl X x) (hm : X.mg x = some u) (r : RelV v u) (hd : (x == ("__debug__" : Str)) = false := by decide) : PE X (.Name x pos) (tC v) :=
  fun _ _ _ H _ I h => ld_glob I hg hm ⟨v, H, I, r, h⟩ hd
theorem pe_bltn {x : Str} {v : V} {u : Value} {pos : Pos} (hg : Gl X x) (hm : X.mg x = none) (hv : bootBuiltins x = some u) (r : RelV v u) (hn : x ≠ "__name__" := by decide) (hd : (x == ("__debug__" : Str)) = false := by decide) : PE X (.Name x pos) (tC v) :=
  fun _ _ _ H _ I h => ld_blt I hg hm hv ⟨v, H, I, r, h⟩ hn hd

/-! ### arithmetic -/
/-- two ints -/
def t2I (ta tb : TE) (k : Int → Int → Hp → Prop) : St → Hp → Prop := fun σ H => ta σ H fun x H1 => tb σ H1 fun y H2 => ∃ i j, x = .int i ∧ y = .int j ∧ k i j H2
def tAdd (ta tb : TE) : TE := fun σ H Q => t2I ta tb (fun i j H2 => Q (.int (i + j)) H2) σ H
def tSub (ta tb : TE) : TE := fun σ H Q => t2I ta tb (fun i j H2 => Q (.int (i - j)) H2) σ H
/-- the left factor below 2^64 -/
def tMul (ta tb : TE) : TE := fun σ H Q => t2I ta tb (fun i j H2 => (-(2 ^ 64) < i ∧ i < 2 ^ 64) ∧ Q (.int (i * j)) H2) σ H
variable {a b : Expr} {ta tb : TE} {pos : Pos}
theorem pe_add (ha : PE X a ta) (hb : PE X b tb) : PE X (.BinOp a .Add b pos) (tAdd ta tb) := by
  intro pins s σ H Q I h
  refine wpAny_BinOp (bin ha hb I h fun v u s2 x y H2 I2 rx ry q => ?_)
  obtain ⟨i, j, rfl, rfl, q⟩ := q
  obtain ⟨t, rfl⟩ := rx
  obtain ⟨t', rfl⟩ := ry
  exact add_int ⟨.int _, H2, I2.tok _, ⟨_, rfl⟩, q⟩
theorem pe_sub (ha : PE X a ta) (hb : PE X b tb) : PE X (.BinOp a .Sub b pos) (tSub ta tb) := by
  intro pins s σ H Q I h
  refine wpAny_BinOp (bin ha hb I h fun v u s2 x y H2 I2 rx ry q => ?_)
  obtain ⟨i, j, rfl, rfl, q⟩ := q
  obtain ⟨t, rfl⟩ := rx
  obtain ⟨t', rfl⟩ := ry
  exact sub_int ⟨.int _, H2, I2.tok _, ⟨_, rfl⟩, q⟩
theorem pe_mul (ha : PE X a ta) (hb : PE X b tb) : PE X (.BinOp a .Mult b pos) (tMul ta tb) := by
  intro pins s σ H Q I h
  refine wpAny_BinOp (bin ha hb I h fun v u s2 x y H2 I2 rx ry q => ?_)
  obtain ⟨i, j, rfl, rfl, ⟨q1, q2⟩, q⟩ := q
  obtain ⟨t, rfl⟩ := rx
  obtain ⟨t', rfl⟩ := ry
  exact mul_int ⟨.int _, H2, I2.tok _, ⟨_, rfl⟩, q⟩ (.of_left (intBits_le_64 q1 q2))

/-! ### comparisons -/
def PC (X : Cx) (op : CmpOp) (a b : Expr) (t : TE) : Prop :=
  ∀ (pins : List (Addr × Obj)) (s : Shared) (σ : St) (H : Hp) (Q : VK), Inv X pins σ H s → t σ H Q →
    wpAny (model X.prog X.w) X.A (eval a X.env) (fun v s₁ => wpAny (model X.prog X.w) X.A (eval b X.env) (fun u s₂ => wpAny (model X.prog X.w) X.A (compareOp op v u) (EP X pins σ Q) X.xe s₂) X.xe s₁) X.xe s
theorem nobehind (b : Expr) {op : CmpOp} (h : op ≠ .In) (h2 : op ≠ .NotIn) : behindInMarks op b = false := by
  have e1 : (op == CmpOp.In) = false := by cases op <;> first | rfl | exact absurd rfl h
  have e2 : (op == CmpOp.NotIn) = false := by cases op <;> first | rfl | exact absurd rfl h2
  cases b <;> simp [behindInMarks, e1, e2]
def tCmp (p : Int → Int → Bool) (ta tb : TE) : TE := fun σ H Q => t2I ta tb (fun i j H2 => Q (.bl (p i j)) H2) σ H
abbrev tLt : TE → TE → TE := tCmp fun i j => decide (i < j)
abbrev tLe : TE → TE → TE := tCmp fun i j => decide (i ≤ j)
abbrev tGt : TE → TE → TE := tCmp fun i j => decide (j < i)
abbrev tGe : TE → TE → TE := tCmp fun i j => decide (j ≤ i)
abbrev tEqI : TE → TE → TE := tCmp fun i j => decide (i = j)
abbrev tNeI : TE → TE → TE := tCmp fun i j => !decide (i = j)
/-- a comparison of two ints, by its rule -/
theorem pc_int {op : CmpOp} {p : Int → Int → Bool} (ha : PE X a ta) (hb : PE X b tb)
    (rule : ∀ (i j : Int) (t u : Tok) (Q : Value → Shared → Prop) (s : Shared), Q (.bool (p i j)) s → wpAny (model X.prog X.w) X.A (compareOp op (.int i t) (.int j u)) Q X.xe s) : PC X op a b (tCmp p ta tb) := by
  intro pins s σ H Q I h
  refine bin ha hb I h fun v u s2 x y H2 I2 rx ry q => ?_
  obtain ⟨i, j, rfl, rfl, q⟩ := q
  obtain ⟨t, rfl⟩ := rx
  obtain ⟨t', rfl⟩ := ry
  exact rule i j t t' _ s2 ⟨.bl _, H2, I2, rfl, q⟩
theorem pc_lt (ha : PE X a ta) (hb : PE X b tb) : PC X .Lt a b (tLt ta tb) := pc_int ha hb fun _ _ _ _ _ _ h => lt_int h
theorem pc_le (ha : PE X a ta) (hb : PE X b tb) : PC X .LtE a b (tLe ta tb) := pc_int ha hb fun _ _ _ _ _ _ h => le_int h
theorem pc_gt (ha : PE X a ta) (hb : PE X b tb) : PC X .Gt a b (tGt ta tb) := pc_int ha hb fun _ _ _ _ _ _ h => gt_int h
theorem pc_ge (ha : PE X a ta) (hb : PE X b tb) : PC X .GtE a b (tGe ta tb) := pc_int ha hb fun _ _ _ _ _ _ h => ge_int h
theorem pc_eqI (ha : PE X a ta) (hb : PE X b tb) : PC X .Eq a b (tEqI ta tb) := pc_int ha hb fun _ _ _ _ _ _ h => eq_int (by rw [Bool.beq_eq_decide_eq]; exact h)
theorem pc_neI (ha : PE X a ta) (hb : PE X b tb) : PC X .NotEq a b (tNeI ta tb) := pc_int ha hb fun _ _ _ _ _ _ h => ne_int (by rw [bne, Bool.beq_eq_decide_eq]; exact h)
/-- is None -/
def tIsN (ta : TE) : TE := fun σ H Q => ta σ H fun x H1 => Q (.bl (decide (x = .non))) H1
def tNotN (ta : TE) : TE := fun σ H Q => ta σ H fun x H1 => Q (.bl (!decide (x = .non))) H1
theorem RelV.none_iff {x : V} {v : Value} (r : RelV x v) : (v == Value.none) = decide (x = .non) := by
  cases x with
  | non => cases r; rfl
  | bl _ => cases r; rfl
  | int _ => obtain ⟨t, rfl⟩ := r; rfl
  | str _ => obtain ⟨t, rfl⟩ := r; rfl
  | byt _ => obtain ⟨t, rfl⟩ := r; rfl
  | flt _ => obtain ⟨t, rfl⟩ := r; rfl
  | ref _ => cases r; rfl
  | ty _ => cases r; rfl
theorem pc_isN {j pos'} (ha : PE X a ta) : PC X .Is a (.Constant .none j pos') (tIsN ta) := by
  intro pins s σ H Q I h
  refine thn (ha pins s σ H _ I h) fun v s1 ⟨x, H1, I1, r1, q1⟩ => ?_
  exact Constant_none (is_none_gen ⟨.bl _, H1, I1, by rw [r1.none_iff]; rfl, q1⟩)
theorem pc_notN {j pos'} (ha : PE X a ta) : PC X .IsNot a (.Constant .none j pos') (tNotN ta) := by
  intro pins s σ H Q I h
  refine thn (ha pins s σ H _ I h) fun v s1 ⟨x, H1, I1, r1, q1⟩ => ?_
  exact Constant_none (isnot_none_gen ⟨.bl _, H1, I1, by rw [r1.none_iff]; rfl, q1⟩)
/-- a comparison as a value, as a test -/
def tB (t : TE) : TT := fun σ H Q => t σ H fun x H1 => ∃ c, x = .bl c ∧ Q c H1
theorem pe_cmp {op : CmpOp} {t : TE} (h : PC X op a b t) (h1 : behindInMarks op b = false := by first | exact nobehind _ (by decide) (by decide) | rfl) : PE X (.Compare a [op] [b] pos) t := fun pins s σ H Q I hw => wpAny_Compare1 (h pins s σ H Q I hw) h1
theorem pt_cmp {op : CmpOp} {t : TE} (h : PC X op a b t) (h1 : behindInMarks op b = false := by first | exact nobehind _ (by decide) (by decide) | rfl) : PT X (.Compare a [op] [b] pos) (tB t) := by
  intro pins s σ H Q I hw
  refine wpAny_isTrue_Compare1 (thn (h pins s σ H _ I hw) fun v s1 h1 => thn h1 fun u s2 h2 => thn h2 fun c s3 ⟨x, H1, I1, r1, q1⟩ => ?_) h1
  obtain ⟨d, rfl, q⟩ := q1
  cases r1
  exact wpAny_truthy_bool ⟨H1, I1, q⟩
/-- an expression whose value is a bool, as a test -/
theorem pt_val {e : Expr} {t : TE} (h : PE X e t) (he : ∀ whole, isTrue e X.env whole = (do let v ← whole; standAt e.pos; holding [v] (truthy v)) := by intro _; rfl) : PT X e (tB t) := by
  intro pins s σ H Q I hw
  refine isTrue_plain (thn (h pins s σ H _ I hw) fun v s1 ⟨x, H1, I1, r1, q1⟩ => ?_) (he _)
  obtain ⟨d, rfl, q⟩ := q1
  cases r1
  exact wpAny_truthy_bool ⟨H1, I1, q⟩

/-! ### and, or, not -/
variable {tA tB' : TT} {rest : List Expr}
def tAnd (t u : TT) : TT := fun σ H Q => t σ H fun c H1 => if c = true then u σ H1 Q else Q false H1
def tOr (t u : TT) : TT := fun σ H Q => t σ H fun c H1 => if c = true then Q true H1 else u σ H1 Q
def tNot (t : TT) : TT := fun σ H Q => t σ H fun c H1 => Q (!c) H1
theorem pw_and1 (ha : PT X a tA) : PW X (.BoolOp .And [a] pos) tA := by
  intro wh pins s σ H Q I h
  refine isTrue_and (thn (ha pins s σ H Q I h) fun c s1 e => ?_)
  cases c with
  | true => exact isTrue_and_nil e
  | false => exact e
theorem pw_or1 (ha : PT X a tA) : PW X (.BoolOp .Or [a] pos) tA := by
  intro wh pins s σ H Q I h
  refine isTrue_or (thn (ha pins s σ H Q I h) fun c s1 e => ?_)
  cases c with
  | false => exact isTrue_or_nil e
  | true => exact e
theorem pw_and (ha : PT X a tA) (hb : PW X (.BoolOp .And (b :: rest) pos) tB') : PW X (.BoolOp .And (a :: b :: rest) pos) (tAnd tA tB') := by
  intro wh pins s σ H Q I h
  refine isTrue_and (thn (ha pins s σ H _ I h) fun c s1 ⟨H1, I1, q1⟩ => ?_)
  cases c with
  | true => exact hb wh pins s1 σ H1 Q I1 q1
  | false => exact ⟨H1, I1, q1⟩
theorem pw_or (ha : PT X a tA) (hb : PW X (.BoolOp .Or (b :: rest) pos) tB') : PW X (.BoolOp .Or (a :: b :: rest) pos) (tOr tA tB') := by
  intro wh pins s σ H Q I h
  refine isTrue_or (thn (ha pins s σ H _ I h) fun c s1 ⟨H1, I1, q1⟩ => ?_)
  cases c with
  | true => exact ⟨H1, I1, q1⟩
  | false => exact hb wh pins s1 σ H1 Q I1 q1
theorem pt_not (ha : PT X a tA) : PT X (.UnaryOp .Not a pos) (tNot tA) := by
  intro pins s σ H Q I h
  exact isTrue_not (ha pins s σ H (fun c H1 => Q (!c) H1) I h)
/-- .. as values (bools) -/
def tAndV (ta tb : TE) : TE := fun σ H Q => ta σ H fun x H1 => ∃ c, x = .bl c ∧ if c = true then tb σ H1 Q else Q (.bl false) H1
def tOrV (ta tb : TE) : TE := fun σ H Q => ta σ H fun x H1 => ∃ c, x = .bl c ∧ if c = true then Q (.bl true) H1 else tb σ H1 Q
def tNotV (ta : TE) : TE := fun σ H Q => ta σ H fun x H1 => ∃ c, x = .bl c ∧ Q (.bl (!c)) H1
theorem pe_one {op} {t : TE} (h : PE X a t) : PE X (.BoolOp op [a] pos) t := fun pins s σ H Q I hw => BoolOp_one (h pins s σ H Q I hw)
theorem pe_and (ha : PE X a ta) (hb : PE X (.BoolOp .And (b :: rest) pos) tb) : PE X (.BoolOp .And (a :: b :: rest) pos) (tAndV ta tb) := by
  intro pins s σ H Q I h
  refine BoolOp_and (thn (ha pins s σ H _ I h) fun v s1 ⟨x, H1, I1, r1, q1⟩ => ?_)
  obtain ⟨c, rfl, q1⟩ := q1
  cases r1
  refine wpAny_truthy_bool ?_
  cases c with
  | true => exact hb pins s1 σ H1 Q I1 q1
  | false => exact ⟨.bl false, H1, I1, rfl, q1⟩
theorem pe_or (ha : PE X a ta) (hb : PE X (.BoolOp .Or (b :: rest) pos) tb) : PE X (.BoolOp .Or (a :: b :: rest) pos) (tOrV ta tb) := by
  intro pins s σ H Q I h
  refine BoolOp_or (thn (ha pins s σ H _ I h) fun v s1 ⟨x, H1, I1, r1, q1⟩ => ?_)
  obtain ⟨c, rfl, q1⟩ := q1
  cases r1
  refine wpAny_truthy_bool ?_
  cases c with
  | false => exact hb pins s1 σ H1 Q I1 q1
  | true => exact ⟨.bl true, H1, I1, rfl, q1⟩
theorem pe_not (ha : PE X a ta) : PE X (.UnaryOp .Not a pos) (tNotV ta) := by
  intro pins s σ H Q I h
  refine UnaryOp_ (thn (ha pins s σ H _ I h) fun v s1 ⟨x, H1, I1, r1, q1⟩ => ?_)
  obtain ⟨c, rfl, q1⟩ := q1
  cases r1
  exact not_of (wpAny_truthy_bool ⟨.bl (!c), H1, I1, rfl, q1⟩)
/-- a if t else b -/
def tIf (t : TT) (ta tb : TE) : TE := fun σ H Q => t σ H fun c H1 => if c = true then ta σ H1 Q else tb σ H1 Q
theorem pe_ifExp {c : Expr} (hc : PT X c tA) (ha : PE X a ta) (hb : PE X b tb) : PE X (.IfExp c a b pos) (tIf tA ta tb) := by
  intro pins s σ H Q I h
  refine wpAny_IfExp (thn (hc pins s σ H _ I h) fun d s1 ⟨H1, I1, q1⟩ => ?_)
  cases d with
  | true => exact ha pins s1 σ H1 Q I1 q1
  | false => exact hb pins s1 σ H1 Q I1 q1
end
end L2

namespace L2
open PySem PySem.Spec PyProof.Rows

/-! ### a list, a tuple that is read: tracked, frozen, or an object of the module -/
def SqL (K : PySem.W.Frag) (H : Hp) (a : Addr) (xs : List V) : Prop :=
  Rd H a (.lst xs) ∨
    ∃ (o : Obj) (its : Array Value) (n : Nat), K.lookup a = some o ∧ o.cls = .type "list" ∧ o.dict = none ∧ o.data = .seq its n ∧ its.size ≤ sizeLine ∧ Vals xs its.toList
def SqT (K : PySem.W.Frag) (H : Hp) (a : Addr) (xs : List V) : Prop :=
  Rd H a (.tup xs) ∨
    ∃ (o : Obj) (its : Array Value) (n : Nat), K.lookup a = some o ∧ o.cls = .type "tuple" ∧ o.data = .seq its n ∧ its.size ≤ sizeLine ∧ Vals xs its.toList
def absV : Value → Option V
  | .none => some .non
  | .bool b => some (.bl b)
  | .int i _ => some (.int i)
  | .str x _ => some (.str x)
  | .bytes b _ => some (.byt b)
  | .float b _ => some (.flt b)
  | .ref a => some (.ref a)
  | .type n => some (.ty n)
  | _ => none
theorem RelV.abs {x : V} {u : Value} (r : RelV x u) : absV u = some x := by
  cases x with
  | non => cases r; rfl
  | bl _ => cases r; rfl
  | int _ => obtain ⟨t, rfl⟩ := r; rfl
  | str _ => obtain ⟨t, rfl⟩ := r; rfl
  | byt _ => obtain ⟨t, rfl⟩ := r; rfl
  | flt _ => obtain ⟨t, rfl⟩ := r; rfl
  | ref _ => cases r; rfl
  | ty _ => cases r; rfl
theorem RelV.inj {x y : V} {u : Value} (r : RelV x u) (q : RelV y u) : x = y := Option.some.inj (r.abs.symm.trans q.abs)
theorem Vals.inj : ∀ {xs ys : List V} {us : List Value}, Vals xs us → Vals ys us → xs = ys
  | _, _, _, .nil, .nil => rfl
  | _, _, _, .cons r t, .cons r' t' => by rw [r.inj r', Vals.inj t t']
section
variable {X : Cx} {pins : List (Addr × Obj)} {σ : St} {H : Hp} {s : Shared} {a : Addr} {xs ys : List V}
theorem SqL.of {K : PySem.W.Frag} (h : H a = some (.lst xs)) : SqL K H a xs := .inl (.inl h)
theorem SqT.of {K : PySem.W.Frag} (h : H a = some (.tup xs)) : SqT K H a xs := .inl (.inl h)
theorem Inv.list (I : Inv X pins σ H s) (h : SqL X.K H a xs) : ∃ its : List Value, Vals xs its ∧ PlainL s.heap a its.toArray ∧ xs.length ≤ sizeLine := by
  rcases h with h | ⟨o, its, n, hk, hc, hd, hs, hz, r⟩
  · obtain ⟨z, its, n, r, e⟩ := h.ok I.hok
    exact ⟨its, r, ⟨_, n, e, rfl, rfl, rfl⟩, z⟩
  · refine ⟨its.toList, r, ⟨o, n, I.kIn a o hk, hc, hd, by simpa using hs⟩, ?_⟩
    have e := r.length
    simp only [Array.length_toList] at e
    omega
theorem Inv.tuple (I : Inv X pins σ H s) (h : SqT X.K H a xs) : ∃ its : List Value, Vals xs its ∧ IsTup s.heap a its.toArray ∧ xs.length ≤ sizeLine := by
  rcases h with h | ⟨o, its, n, hk, hc, hs, hz, r⟩
  · obtain ⟨z, its, r, p⟩ := h.ok I.hok
    exact ⟨its, r, p, z⟩
  · refine ⟨its.toList, r, ⟨o, I.kIn a o hk, hc, n, by simpa using hs⟩, ?_⟩
    have e := r.length
    simp only [Array.length_toList] at e
    omega
theorem Inv.list_inj (I : Inv X pins σ H s) (h : SqL X.K H a xs) (h' : SqL X.K H a ys) : xs = ys := by
  obtain ⟨its, r, ⟨o, n, e, _, _, d⟩, _⟩ := I.list h
  obtain ⟨its', r', ⟨o', n', e', _, _, d'⟩, _⟩ := I.list h'
  rw [e] at e'; cases e'
  rw [d] at d'
  injection d' with d1 _
  have : its = its' := by simpa using congrArg Array.toList d1
  subst this
  exact r.inj r'
theorem Inv.tuple_inj (I : Inv X pins σ H s) (h : SqT X.K H a xs) (h' : SqT X.K H a ys) : xs = ys := by
  obtain ⟨its, r, ⟨o, e, _, n, d⟩, _⟩ := I.tuple h
  obtain ⟨its', r', ⟨o', e', _, n', d'⟩, _⟩ := I.tuple h'
  rw [e] at e'; cases e'
  rw [d] at d'
  injection d' with d1 _
  have : its = its' := by simpa using congrArg Array.toList d1
  subst this
  exact r.inj r'
end

/-! ### another wish about exceptions -/
abbrev Cx.wish (X : Cx) (E : Value → Shared → Prop) : Cx := { X with xe := E }
/-- no exception leaves -/
abbrev Cx.nox (X : Cx) : Cx := X.wish fun _ _ => False
theorem Cx.Ok.wish {X : Cx} (ok : X.Ok) (E : Value → Shared → Prop) : (X.wish E).Ok :=
  ⟨ok.mod, ok.kind, ok.glob, ok.blt, ok.above, ok.inj, ok.has, ok.cab, ok.hd, ok.frames, ok.stk, ok.exf, ok.bs, ok.bsz, ok.noex, ok.exfs, ok.funs, ok.frf⟩
theorem Cx.Ok.unwish {X : Cx} {E : Value → Shared → Prop} (ok : (X.wish E).Ok) : X.Ok :=
  ⟨ok.mod, ok.kind, ok.glob, ok.blt, ok.above, ok.inj, ok.has, ok.cab, ok.hd, ok.frames, ok.stk, ok.exf, ok.bs, ok.bsz, ok.noex, ok.exfs, ok.funs, ok.frf⟩
section
variable {X : Cx} {pins : List (Addr × Obj)} {σ : St} {H : Hp} {s : Shared} {E : Value → Shared → Prop}
theorem Inv.wish (I : Inv X pins σ H s) (E : Value → Shared → Prop) : Inv (X.wish E) pins σ H s := ⟨I.ok.wish E, I.os, I.bare, I.base, I.loc, I.cell, I.free, I.freeC, I.pin, I.hok, I.len⟩
theorem Inv.unwish (I : Inv (X.wish E) pins σ H s) : Inv X pins σ H s := ⟨I.ok.unwish, I.os, I.bare, I.base, I.loc, I.cell, I.free, I.freeC, I.pin, I.hok, I.len⟩
theorem SP.unwish {D : Ends} {f : Flow} {s' : Shared} (h : SP (X.wish E) pins D f s') : SP X pins D f s' := by
  cases f with
  | next => obtain ⟨σ', H', I, q⟩ := h; exact ⟨σ', H', I.unwish, q⟩
  | brk => obtain ⟨σ', H', I, q⟩ := h; exact ⟨σ', H', I.unwish, q⟩
  | cont => obtain ⟨σ', H', I, q⟩ := h; exact ⟨σ', H', I.unwish, q⟩
  | ret u => obtain ⟨v, σ', H', I, r, q⟩ := h; exact ⟨v, σ', H', I.unwish, r, q⟩
theorem PE.nox {e : Expr} {t : TE} (h : PE X.nox e t) : PE X e t := fun pins s σ H Q I hw =>
  wpAny_mono (h pins s σ H Q (I.wish _) hw) (fun _ _ ⟨v, H', I', r, q⟩ => ⟨v, H', I'.unwish, r, q⟩) fun _ _ z => False.elim z
theorem PT.nox {e : Expr} {t : TT} (h : PT X.nox e t) : PT X e t := fun pins s σ H Q I hw =>
  wpAny_mono (h pins s σ H Q (I.wish _) hw) (fun _ _ ⟨H', I', q⟩ => ⟨H', I'.unwish, q⟩) fun _ _ z => False.elim z
theorem PSs.nox {st : List Stmt} {t : TS} (h : PSs X.nox st t) : PSs X st t := fun pins s σ H D I hw =>
  wpAny_mono (h pins s σ H D (I.wish _) hw) (fun _ _ q => q.unwish) fun _ _ z => False.elim z
end

/-! ### blocks and small statements -/
section
variable {X : Cx} {st : Stmt} {rest : List Stmt} {t u : TS} {e : Expr} {te : TE} {pos : Pos}
def tNext : TS := fun D σ H => D.nx σ H
def tSeq (t u : TS) : TS := fun D σ H => t { D with nx := u D } σ H
theorem pss_nil : PSs X [] tNext := fun _ _ σ H _ I h => wpAny_execs_nil ⟨σ, H, I, h⟩
theorem pss_cons (h1 : PS X st t) (h2 : PSs X rest u) : PSs X (st :: rest) (tSeq t u) := by
  intro pins s σ H D I h
  refine wpAny_execs_cons (thn (h1 pins s σ H { D with nx := u D } I h) fun f s1 q => ?_)
  cases f with
  | next =>
    obtain ⟨σ', H', I', q⟩ := q
    exact h2 pins s1 σ' H' D I' q
  | ret v => exact q
  | brk => exact q
  | cont => exact q
theorem pss_one (h1 : PS X st t) : PSs X [st] t := by
  intro pins s σ H D I h
  refine wpAny_execs_cons (thn (h1 pins s σ H D I h) fun f s1 q => ?_)
  cases f with
  | next => exact wpAny_execs_nil q
  | ret v => exact q
  | brk => exact q
  | cont => exact q
def tBreak : TS := fun D σ H => D.bk σ H
def tCont : TS := fun D σ H => D.ct σ H
theorem ps_pass : PS X (.Pass pos) tNext := fun _ _ σ H _ I h => wpAny_Pass ⟨σ, H, I, h⟩
theorem ps_break : PS X (.Break pos) tBreak := fun _ _ σ H _ I h => wpAny_Break ⟨σ, H, I, h⟩
theorem ps_continue : PS X (.Continue pos) tCont := fun _ _ σ H _ I h => wpAny_Continue ⟨σ, H, I, h⟩
/-- in a def's body nothing is shown -/
theorem Inv.quiet {pins : List (Addr × Obj)} {σ : St} {H : Hp} {s : Shared} (I : Inv X pins σ H s) : interactive X.env = false := by simp [interactive, I.ok.kind]
/-- a docstring -/
theorem ps_doc {x j pos pos'} : PS X (.Expr (.Constant (.str x) j pos) pos') tNext := fun _ s σ H _ I h => wpAny_Expr (Calls.Constant_str (show SP X _ _ .next { s with toks := s.toks + 1 } from ⟨σ, H, I.tok _, h⟩)) I.quiet
/-- an expression whose value is dropped -/
def tDrop (te : TE) : TS := fun D σ H => te σ H fun _ H1 => D.nx σ H1
theorem ps_expr (he : PE X e te) (hs : swapsWith e none pos.line X.env = pure false := by rfl) : PS X (.Expr e pos) (tDrop te) := by
  intro pins s σ H D I h
  exact wpAny_Expr_any (thn (he pins s σ H _ I h) fun v s1 ⟨x, H1, I1, r1, q1⟩ => ⟨σ, H1, I1, q1⟩) I.quiet hs
def tRet (te : TE) : TS := fun D σ H => te σ H D.rt
theorem ps_ret (he : PE X e te) : PS X (.Return (some e) pos) (tRet te) := by
  intro pins s σ H D I h
  exact wpAny_Return_some (thn (he pins s σ H _ I h) fun v s1 ⟨x, H1, I1, r1, q1⟩ => ⟨x, σ, H1, I1, r1, q1⟩)
def tRetN : TS := fun D _ H => D.rt .non H
theorem ps_retN : PS X (.Return none pos) tRetN := fun _ _ σ H _ I h => wpAny_Return_none ⟨.non, σ, H, I, rfl, h⟩
def tIfS (c : TT) (t u : TS) : TS := fun D σ H => c σ H fun b H1 => if b = true then t D σ H1 else u D σ H1
theorem ps_if {c : Expr} {a b : List Stmt} {tc : TT} (hc : PT X c tc) (ha : PSs X a t) (hb : PSs X b u) : PS X (.If c a b pos) (tIfS tc t u) := by
  intro pins s σ H D I h
  refine wpAny_If (thn (hc pins s σ H _ I h) fun d s1 ⟨H1, I1, q1⟩ => ?_)
  cases d with
  | true => exact ha pins s1 σ H1 D I1 q1
  | false => exact hb pins s1 σ H1 D I1 q1
/-- code that the proof never comes to -/
def tNever : TS := fun _ _ _ => False
theorem ps_never : PS X st tNever := fun _ _ _ _ _ _ h => h.elim
theorem pss_never {sts : List Stmt} : PSs X sts tNever := fun _ _ _ _ _ _ h => h.elim
end

/-! ### targets -/
abbrev TG := V → St → Hp → (St → Hp → Prop) → Prop
abbrev TGs := List V → St → Hp → (St → Hp → Prop) → Prop
def PG (X : Cx) (target : Expr) (t : TG) : Prop :=
  ∀ (pins : List (Addr × Obj)) (s : Shared) (σ : St) (H : Hp) (v : V) (u : Value) (Q : St → Hp → Prop), Inv X pins σ H s → RelV v u → t v σ H Q →
    wpAny (model X.prog X.w) X.A (assign target X.env u) (fun _ s' => ∃ σ' H', Inv X pins σ' H' s' ∧ Q σ' H') X.xe s
/-- several targets, one after another -/
def PGs (X : Cx) (ts : List Expr) (t : TGs) : Prop :=
  ∀ (pins : List (Addr × Obj)) (s : Shared) (σ : St) (H : Hp) (vs : List V) (us : List Value) (Q : St → Hp → Prop), Inv X pins σ H s → Vals vs us → t vs σ H Q →
    wpAny (model X.prog X.w) X.A (assignInOrder ((assignEach ts X.env).map (·.2)) us) (fun _ s' => ∃ σ' H', Inv X pins σ' H' s' ∧ Q σ' H') X.xe s
/-- o[i] = v, by values -/
abbrev TSet := V → V → V → Hp → (Hp → Prop) → Prop
def PSet (X : Cx) (t : TSet) : Prop :=
  ∀ (pins : List (Addr × Obj)) (s : Shared) (σ : St) (H : Hp) (o i v : V) (ov iv u : Value) (Q : Hp → Prop), Inv X pins σ H s → RelV o ov → RelV i iv → RelV v u → t o i v H Q →
    wpAny (model X.prog X.w) X.A (setItem ov iv u) (fun _ s' => ∃ H', Inv X pins σ H' s' ∧ Q H') X.xe s
/-- a op= b, by values -/
abbrev TIp := V → V → Hp → VK → Prop
def PIp (X : Cx) (op : Operator) (t : TIp) : Prop :=
  ∀ (pins : List (Addr × Obj)) (s : Shared) (σ : St) (H : Hp) (x y : V) (v u : Value) (Q : VK), Inv X pins σ H s → RelV x v → RelV y u → t x y H Q →
    wpAny (model X.prog X.w) X.A (inplaceOp op v u) (EP X pins σ Q) X.xe s
section
variable {X : Cx} {pos : Pos}
def gName (i : Nat) : TG := fun v σ H Q => Q (σ.set i (some v)) H
theorem pg_name {i : Nat} {x : Str} (hN : X.N.Nodup) (hi : X.N[i]? = some x) (hx : Loc X.env.scope x) (hf : X.fn x = true ∨ X.env.scope.names.lookup x = some .local := by first | exact .inl rfl | exact .inr rfl | assumption) : PG X (.Name x pos) (gName i) := by
  intro pins s σ H v u Q I r h
  exact wpAny_assign_Name (store_ok I hN hi hx r (fun s' I' => ⟨_, H, I', h⟩) hf)
def gNil : TGs := fun vs σ H Q => vs = [] ∧ Q σ H
def gCons (t : TG) (u : TGs) : TGs := fun vs σ H Q => ∃ v r, vs = v :: r ∧ t v σ H fun σ' H' => u r σ' H' Q
theorem pgs_nil : PGs X [] gNil := by
  intro pins s σ H vs us Q I r h
  obtain ⟨e, h⟩ := h
  subst e
  cases r
  exact assignInOrder_nil ⟨σ, H, I, h⟩
theorem pgs_cons {e : Expr} {es : List Expr} {t : TG} {u : TGs} (h1 : PG X e t) (h2 : PGs X es u)
    (hs : (assignEach (e :: es) X.env).map (·.2) = assign e X.env :: (assignEach es X.env).map (·.2) := by rfl) : PGs X (e :: es) (gCons t u) := by
  intro pins s σ H vs us Q I r h
  obtain ⟨v, vr, e1, h⟩ := h
  subst e1
  cases r with
  | cons r rr =>
    rw [hs]
    refine assignInOrder_cons (thn (h1 pins s σ H _ _ _ I r h) fun _ s1 ⟨σ1, H1, I1, q1⟩ => ?_)
    exact h2 pins s1 σ1 H1 _ _ Q I1 rr q1
/-- (a, b, ..) = a tuple of that length -/
def gTup (K : PySem.W.Frag) (n : Nat) (t : TGs) : TG := fun v σ H Q => ∃ a xs, v = .ref a ∧ SqT K H a xs ∧ xs.length = n ∧ t xs σ H Q
theorem pg_tup {es : List Expr} {k : Nat} {t : TGs} {n : Nat} (hc : X.calm = true) (h : PGs X es t)
    (hn : (assignEach es X.env).length = n := by rfl) (hst : (assignEach es X.env).findIdx? (·.1) = none := by rfl) : PG X (.Tuple es k pos) (gTup X.K n t) := by
  intro pins s σ H v u Q I r hw
  obtain ⟨a, xs, e1, hq, hl, hw⟩ := hw
  subst e1
  cases r
  obtain ⟨its, rv, ht, hz⟩ := I.tuple hq
  refine assign_Tuple_tuple (I.ok.hd hc) ht (by simp [hn, ← hl, rv.length]) hst fun h' hx => ?_
  have I1 : Inv X pins σ H { s with heap := h' } := I.kept (t' := s.toks) fun b o e => hx b o (Nat.ne_of_lt (Heap.lt_size e)) e
  exact h pins _ σ H xs _ Q I1 (by simpa using rv) hw
/-- o[i] = .. -/
def gSub (to ti : TE) (t : TSet) : TG := fun v σ H Q => to σ H fun o H1 => ti σ H1 fun i H2 => t o i v H2 fun H3 => Q σ H3
theorem pg_sub {o i : Expr} {to ti : TE} {t : TSet} (ho : PE X o to) (hi : PE X i ti) (hs : PSet X t)
    (ha : ∀ v, assign (.Subscript o i pos) X.env v = (do
      let ov ← holding [v] (eval o X.env)
      let iv ← holding [v, ov] (eval i X.env)
      standAt pos
      holding [v, ov, iv] (setItem ov iv v)
      release [v, ov, iv] []) := by intro _; rfl) : PG X (.Subscript o i pos) (gSub to ti t) := by
  intro pins s σ H v u Q I r h
  rw [ha]
  refine wpAny_bind (wpAny_holding (thn (ho pins s σ H _ I h) fun ov s1 ⟨x, H1, I1, r1, q1⟩ => ?_))
  refine wpAny_bind (wpAny_holding (thn (hi pins s1 σ H1 _ I1 q1) fun iv s2 ⟨y, H2, I2, r2, q2⟩ => ?_))
  refine wpAny_bind (wpAny_standAt (wpAny_bind (wpAny_holding (thn (hs pins s2 σ H2 x y v ov iv u _ I2 r1 r2 r q2) fun _ s3 ⟨H3, I3, q3⟩ => ?_))))
  exact wpAny_release ⟨σ, H3, I3, q3⟩
/-- target = value -/
def tAsg (te : TE) (g : TG) : TS := fun D σ H => te σ H fun x H1 => g x σ H1 D.nx
theorem ps_asg {tg e : Expr} {te : TE} {g : TG} (he : PE X e te) (hg : PG X tg g) (hs : swapsWithSole [tg] e pos.line X.env = pure false := by rfl) (hw : swappedStores [tg] e X.env = pure none := by rfl)
    (h1 : (assignEach [tg] X.env).map (·.2) = [assign tg X.env] := by rfl) : PS X (.Assign [tg] e pos) (tAsg te g) := by
  intro pins s σ H D I h
  refine wpAny_Assign_stores (thn (he pins s σ H _ I h) fun v s1 ⟨x, H1, I1, r1, q1⟩ => ?_) hs hw
  rw [h1]
  exact thn (hg pins s1 σ H1 x v _ I1 r1 q1) fun _ s2 q => q
/-- name = value -/
theorem ps_set {i : Nat} {x : Str} {e : Expr} {te : TE} {pos' : Pos} (hN : X.N.Nodup) (hi : X.N[i]? = some x) (hx : Loc X.env.scope x) (he : PE X e te) (hs : swapsWith e (some (.Name x pos')) pos.line X.env = pure false := by rfl) (hf : X.fn x = true ∨ X.env.scope.names.lookup x = some .local := by first | exact .inl rfl | exact .inr rfl | assumption) :
    PS X (.Assign [.Name x pos'] e pos) (tAsg te (gName i)) := by
  intro pins s σ H D I h
  refine wpAny_Assign_Name (thn (he pins s σ H _ I h) fun v s1 ⟨y, H1, I1, r1, q1⟩ => ?_) hs
  exact store_ok I1 hN hi hx r1 (fun s2 I2 => ⟨_, H1, I2, q1⟩) hf
/-- a, b = x, y with plain local names: stored from the right; the pair itself is not tracked (the opening rows as in PyProof/Rows/TupAssign.lean:23) -/
def tPar (i j : Nat) (ta : TA) : TS := fun D σ H => ta σ H fun vs H1 => ∃ v w, vs = [v, w] ∧ D.nx ((σ.set i (some v)).set j (some w)) H1
theorem ps_par {i j : Nat} {x y : Str} {a b : Expr} {ta : TA} {px py pt : Pos} {kt k2 pt2} (hc : X.calm = true) (hN : X.N.Nodup) (hi : X.N[i]? = some x) (hj : X.N[j]? = some y) (hij : i ≠ j)
    (hx : X.env.scope.names.lookup x = some .local) (hy : X.env.scope.names.lookup y = some .local) (ha : PA X [a, b] ta)
    (hw : swappedStores [.Tuple [.Name x px, .Name y py] kt pt] (.Tuple [a, b] k2 pt2) X.env = pure (some [x, y]))
    (hs : swapsWithSole [.Tuple [.Name x px, .Name y py] kt pt] (.Tuple [a, b] k2 pt2) pos.line X.env = pure false := by rfl) :
    PS X (.Assign [.Tuple [.Name x px, .Name y py] kt pt] (.Tuple [a, b] k2 pt2) pos) (tPar i j ta) := by
  intro pins s σ H D I h
  rw [exec_Assign_arm]
  refine wpAny_bind (wpAny_standAt ?_)
  rw [hs]
  refine wpAny_bind (wpAny_pure ?_)
  rw [if_neg (by decide)]
  refine wpAny_bind (Tuple_ (thn (ha _ pins s σ H _ I h) fun us s1 ⟨vs, H1, I1, r1, q1⟩ => ?_))
  obtain ⟨v, w, e1, q1⟩ := q1
  subst e1
  obtain ⟨u1, u2, rfl, rv, rw'⟩ : ∃ u1 u2, us = [u1, u2] ∧ RelV v u1 ∧ RelV w u2 := by
    cases r1 with
    | cons p q =>
      cases q with
      | cons p' q' =>
        cases q'
        exact ⟨_, _, rfl, p, p'⟩
  refine wpAny_newObj_type ?_ (by show 2 ≤ sizeLine; decide)
  have I2 : Inv X pins σ H1 { s1 with heap := s1.heap.push { cls := .type "tuple", data := .seq [u1, u2].toArray } } := I1.kept (t' := s1.toks) fun b o e => Heap.get?_push_of_some _ e
  rw [hw]
  refine wpAny_bind (wpAny_pure ?_)
  show wpAny (model X.prog X.w) X.A (do rule "assign.swapped-stores"; let items ← unpackItems (.ref s1.heap.objs.size) 2 none; assignInOrder [fun v => bindName X.env y v, fun v => bindName X.env x v] items.reverse; pure Flow.next) _ _ _
  refine wpAny_bind (wpAny_rule (wpAny_bind (unpackItems_tuple (items := #[u1, u2]) (I.ok.hd hc) (IsTup.new s1.heap _) fun h' hx' => ?_)))
  have I3 := I2.kept (h' := h') (t' := s1.toks) fun b o e => hx' b o (Nat.ne_of_lt (Heap.lt_size e)) e
  show wpAny _ _ (assignInOrder [fun v => bindName X.env y v, fun v => bindName X.env x v] [u2, u1] >>= fun _ => pure Flow.next) _ _ _
  refine wpAny_bind (assignInOrder_cons (wpAny_bindName (store_ok I3 hN hj (.inl hy) rw' (fun s2 I4 => ?_) (.inr hy))))
  refine assignInOrder_cons (wpAny_bindName (store_ok I4 hN hi (.inl hx) rv (fun s3 I5 => assignInOrder_nil (wpAny_pure ?_)) (.inr hx)))
  rw [List.set_comm _ _ (Ne.symm hij)] at I5
  exact ⟨_, H1, I5, q1⟩
/-- name op= e -/
def tAug (i : Nat) (te : TE) (ti : TIp) : TS := fun D σ H => ∃ x, σ[i]? = some (some x) ∧ te σ H fun y H1 => ti x y H1 fun z H2 => D.nx (σ.set i (some z)) H2
theorem ps_aug {i : Nat} {x : Str} {e : Expr} {te : TE} {op : Operator} {ti : TIp} {pos' : Pos} (hN : X.N.Nodup) (hi : X.N[i]? = some x) (hx : Loc X.env.scope x) (he : PE X e te) (ho : PIp X op ti) (hf : X.fn x = true ∨ X.env.scope.names.lookup x = some .local := by first | exact .inl rfl | exact .inr rfl | assumption) :
    PS X (.AugAssign (.Name x pos') op e pos) (tAug i te ti) := by
  intro pins s σ H D I h
  obtain ⟨v, e1, h⟩ := h
  obtain ⟨m, hn, hl⟩ := I.loc
  have vis : Vis X.env.scope x := by rcases hx with k | k; exact .inl k; exact .inr (.inl k)
  obtain ⟨u, r, l⟩ := hl i x v hi e1 vis
  refine wpAny_AugAssign_Name ?_
  have go : wpAny (model X.prog X.w) X.A (eval e X.env) (fun w s₂ => wpAny (model X.prog X.w) X.A (inplaceOp op u w) (fun r s₃ => wpAny (model X.prog X.w) X.A (storeName X.env x r) (fun _ => SP X pins D .next) X.xe s₃) X.xe s₂) X.xe s := by
    refine thn (he pins s σ H _ I h) fun w s1 ⟨y, H1, I1, r1, q1⟩ => ?_
    refine thn (ho pins s1 σ H1 v y u w _ I1 r r1 q1) fun z s2 ⟨zv, H2, I2, r2, q2⟩ => ?_
    exact store_ok I2 hN hi hx r2 (fun s3 I3 => ⟨_, H2, I3, q2⟩) hf
  rcases l with ⟨hk, hm⟩ | ⟨hk, c, hc, hcell⟩
  · exact wpAny_loadName_local I.ok.kind hk hn hm go
  · rcases hk with hk | hk
    · exact wpAny_loadName_cell I.ok.kind hk hc hcell go
    · rcases hx with k | k
      · have : X.env.scope.names.lookup x = some .free := hk
        rw [k] at this; cases this
      · have : X.env.scope.names.lookup x = some .free := hk
        rw [k] at this; cases this
/-- o[i] op= e -/
def tAugS (to ti te : TE) (tget : V → V → Hp → VK → Prop) (tip : TIp) (tset : TSet) : TS := fun D σ H => to σ H fun o H1 => ti σ H1 fun i H2 => tget o i H2 fun x H3 => te σ H3 fun y H4 => tip x y H4 fun z H5 => tset o i z H5 fun H6 => D.nx σ H6
/-- o[i], by values -/
def PGet (X : Cx) (t : V → V → Hp → VK → Prop) : Prop :=
  ∀ (pins : List (Addr × Obj)) (s : Shared) (σ : St) (H : Hp) (o i : V) (ov iv : Value) (Q : VK), Inv X pins σ H s → RelV o ov → RelV i iv → t o i H Q →
    wpAny (model X.prog X.w) X.A (getItem ov iv) (EP X pins σ Q) X.xe s
theorem ps_augS {o i e : Expr} {to ti te : TE} {tget : V → V → Hp → VK → Prop} {tip : TIp} {tset : TSet} {op : Operator} {tpos : Pos} (ho : PE X o to) (hi : PE X i ti) (hg : PGet X tget) (he : PE X e te) (hp : PIp X op tip) (hs : PSet X tset)
    (ha : ∀ ov iv new, augStore i ov iv new = (do holding [new, ov, iv] (setItem ov iv new); release [new, ov, iv] []; pure .next) := by intros; rfl) : PS X (.AugAssign (.Subscript o i tpos) op e pos) (tAugS to ti te tget tip tset) := by
  intro pins s σ H D I h
  refine wpAny_AugAssign_SubscriptAny (thn (ho pins s σ H _ I h) fun ov s1 ⟨x1, H1, I1, r1, q1⟩ => ?_) ha
  refine thn (hi pins s1 σ H1 _ I1 q1) fun iv s2 ⟨x2, H2, I2, r2, q2⟩ => ?_
  refine thn (hg pins s2 σ H2 x1 x2 ov iv _ I2 r1 r2 q2) fun old s3 ⟨x3, H3, I3, r3, q3⟩ => ?_
  refine thn (he pins s3 σ H3 _ I3 q3) fun v s4 ⟨x4, H4, I4, r4, q4⟩ => ?_
  refine thn (hp pins s4 σ H4 x3 x4 old v _ I4 r3 r4 q4) fun new s5 ⟨x5, H5, I5, r5, q5⟩ => ?_
  exact thn (hs pins s5 σ H5 x1 x2 x5 ov iv new _ I5 r1 r2 r5 q5) fun _ s6 ⟨H6, I6, q6⟩ => ⟨σ, H6, I6, q6⟩
/-- ints -/
def ipI (f : Int → Int → Int) : TIp := fun x y H Q => ∃ i j, x = .int i ∧ y = .int j ∧ Q (.int (f i j)) H
theorem ip_add : PIp X .Add (ipI fun i j => i + j) := by
  intro pins s σ H x y v u Q I r1 r2 h
  obtain ⟨i, j, e1, e2, q⟩ := h
  subst e1; subst e2
  obtain ⟨t, rfl⟩ := r1
  obtain ⟨t', rfl⟩ := r2
  exact iadd_int ⟨.int _, H, I.tok _, ⟨_, rfl⟩, q⟩
theorem ip_sub : PIp X .Sub (ipI fun i j => i - j) := by
  intro pins s σ H x y v u Q I r1 r2 h
  obtain ⟨i, j, e1, e2, q⟩ := h
  subst e1; subst e2
  obtain ⟨t, rfl⟩ := r1
  obtain ⟨t', rfl⟩ := r2
  exact isub_int ⟨.int _, H, I.tok _, ⟨_, rfl⟩, q⟩
end

/-! ### while -/
section
variable {X : Cx} {pos : Pos}
/-- the invariant W with its measure -/
def tWhile (c : TT) (tb : TS) : TS := fun D σ H => ∃ W : Nat → St → Hp → Prop, (∃ m, W m σ H) ∧ ∀ m σ H, W m σ H →
  c σ H fun b H1 => if b = true then ∃ N : St → Hp → Prop, (∀ σ' H', N σ' H' → ∃ m', m' < m ∧ W m' σ' H') ∧ tb { D with nx := N, ct := N, bk := D.nx } σ H1 else D.nx σ H1
theorem ps_while {c : Expr} {body : List Stmt} {tc : TT} {tb : TS} (hp : PassesOwn (model X.prog X.w) X.A X.env X.xe) (hc : PT X c tc) (hb : PSs X body tb) : PS X (.While c body [] pos) (tWhile tc tb) := by
  intro pins s σ H D I h
  obtain ⟨W, ⟨m0, w0⟩, turn⟩ := h
  refine wpAny_While (codeAny_whileLoop (fun n s' => ∃ σ' H', Inv X pins σ' H' s' ∧ W n σ' H') ?_ m0 ⟨σ, H, I, w0⟩)
  rintro n s1 ⟨σ1, H1, I1, w1⟩
  refine wpAny_passesOwn hp (thn (hc pins s1 σ1 H1 _ I1 (turn n σ1 H1 w1)) fun b s2 ⟨H2, I2, q2⟩ => ?_)
  cases b with
  | true =>
    obtain ⟨N, hN, q2⟩ := q2
    rw [if_pos rfl]
    refine wpAny_passesOwn hp (thn (hb pins s2 σ1 H2 _ I2 q2) fun f s3 q3 => ?_)
    cases f with
    | next =>
      obtain ⟨σ3, H3, I3, n3⟩ := q3
      obtain ⟨m', hm, w3⟩ := hN σ3 H3 n3
      exact ⟨m', hm, σ3, H3, I3, w3⟩
    | cont =>
      obtain ⟨σ3, H3, I3, n3⟩ := q3
      obtain ⟨m', hm, w3⟩ := hN σ3 H3 n3
      exact ⟨m', hm, σ3, H3, I3, w3⟩
    | brk => exact q3
    | ret v => exact q3
  | false =>
    rw [if_neg Bool.false_ne_true]
    exact wpAny_execs_nil ⟨σ1, H2, I2, q2⟩
end

/-! ### what a loop or a comprehension walks -/
/-- at turn i: it yields x (the heap may grow), or it stops -/
structure It where
  go : Nat → Hp → Prop
  yld : Nat → Hp → V → Hp → Prop
  stop : Nat → Hp → Prop
/-- the iterator's own objects may turn: they are not the frame's, not pinned, younger than the entry (or a comprehension's own) -/
def FpOk (X : Cx) (pins : List (Addr × Obj)) (H : Hp) (b : Addr) : Prop :=
  H b = none ∧ b ≠ X.env.locals ∧ b ∉ X.fs ∧ (b ∈ X.ex ∨ X.s₀.heap.objs.size ≤ b) ∧ (∀ x c, X.env.cells.lookup x = some c → c ≠ b) ∧ ∀ p ∈ X.pn ++ pins, p.1 ≠ b
theorem Inv.fpOk {X : Cx} {pins : List (Addr × Obj)} {σ : St} {H H' : Hp} {s : Shared} {b : Addr} (I : Inv X pins σ H s) (hb : s.heap.objs.size ≤ b) (hn : H' b = none) : FpOk X pins H' b := by
  refine ⟨hn, Nat.ne_of_gt (Nat.lt_of_lt_of_le I.lt hb), I.nofs hb, .inr (Nat.le_trans I.sz hb), fun x c e z => ?_, fun p hp z => ?_⟩
  · obtain ⟨v, q⟩ := I.cell x c e
    exact absurd (Nat.lt_of_lt_of_le q.lt (by rw [z]; exact hb)) (Nat.lt_irrefl _)
  · exact absurd (Nat.lt_of_lt_of_le (Heap.lt_size (I.pin p hp).1) (by rw [z]; exact hb)) (Nat.lt_irrefl _)
structure Turn (P : Program) (w : World) (K : PySem.W.Frag) (tg : Expr) (J : It) (fp : List Addr) (it : Addr) (tn : Nat → Heap → Prop) : Prop where
  mem : it ∈ fp
  obj : ∀ i h, tn i h → ∀ b ∈ fp, ∃ o, h.get? b = some o ∧ ∀ v, o.data ≠ .cell v
  keep : ∀ i h h', tn i h → (∀ b ∈ fp, ∀ o, h.get? b = some o → h'.get? b = some o) → tn i h'
  item : ∀ (X : Cx), X.prog = P → X.w = w → X.K = K → X.calm = true → ∀ (i : Nat) (pins : List (Addr × Obj)) (s : Shared) (σ : St) (H : Hp) (E : Value → Shared → Prop), Inv X pins σ H s → (∀ b ∈ fp, FpOk X pins H b) → tn i s.heap → J.go i H →
    wpAny (model P w) X.A (pyNext (.ref it)) (fun r s1 => ∃ u, r = some u ∧
      wpAny (model P w) X.A (letOwnedTupleGo tg (.ref it) u) (fun _ s2 => ∃ x H', Inv X pins σ H' s2 ∧ RelV x u ∧ J.yld i H x H' ∧ tn (i + 1) s2.heap ∧ ∀ b ∈ fp, H' b = none) E s1) E s
  done : ∀ (X : Cx), X.prog = P → X.w = w → X.K = K → X.calm = true → ∀ (i : Nat) (pins : List (Addr × Obj)) (s : Shared) (σ : St) (H : Hp) (E : Value → Shared → Prop), Inv X pins σ H s → (∀ b ∈ fp, FpOk X pins H b) → tn i s.heap → J.stop i H →
    wpAny (model P w) X.A (pyNext (.ref it)) (fun r s1 => r = none ∧ Inv X pins σ H s1) E s
  self : ∀ (A : Around) (i : Nat) (s : Shared) (Q : Value → Shared → Prop) (E : Value → Shared → Prop), tn i s.heap → Q (.ref it) s → wpAny (model P w) A (pyIter (.ref it)) Q E s
abbrev TI := St → Hp → (It → Hp → Prop) → Prop
/-- an iterator has come -/
def PIE (X : Cx) (pins : List (Addr × Obj)) (σ : St) (tg : Expr) (R : It → Hp → Prop) (itv : Value) (s2 : Shared) : Prop :=
  ∃ (it : Addr) (fp : List Addr) (tn : Nat → Heap → Prop) (J : It) (H' : Hp), itv = .ref it ∧ Inv X pins σ H' s2 ∧ Turn X.prog X.w X.K tg J fp it tn ∧ tn 0 s2.heap ∧ (∀ b ∈ fp, FpOk X pins H' b) ∧ R J H'
def PI (X : Cx) (tg iter : Expr) (wi : TI) : Prop :=
  ∀ (pins : List (Addr × Obj)) (s : Shared) (σ : St) (H : Hp) (R : It → Hp → Prop), Inv X pins σ H s → wi σ H R →
    wpAny (model X.prog X.w) X.A (eval iter X.env) (fun v s1 => wpAny (model X.prog X.w) X.A (pyIter v) (PIE X pins σ tg R) X.xe s1) X.xe s

/-- the step ahead of the store is nothing for an iterator that keeps no tuple -/
theorem go_of {M : Model} {A : Around} {E : Value → Shared → Prop} {s : Shared} {tg : Expr} {it : Addr} {u : Value} {o : Obj} {n : String} {vs : Array Value} {Q : Unit → Shared → Prop} (ho : s.heap.get? it = some o) (hc : o.cls = .type n) (hd : o.data = .fields vs)
    (hn : ["enumerate", "zip", "dict_itemiterator", "dict_reverseitemiterator", "odict_iterator", "itertools.zip_longest", "itertools.pairwise"].contains n = false) (hQ : Q () s) : wpAny M A (letOwnedTupleGo tg (.ref it) u) Q E s := by
  unfold letOwnedTupleGo
  cases tg <;> first
    | exact wpAny_pure hQ
    | (cases u <;> first
        | exact wpAny_pure hQ
        | (refine wpAny_bind (wpAny_load ho ?_)
           rw [hc, hd]
           show wpAny M A (if (["enumerate", "zip", "dict_itemiterator", "dict_reverseitemiterator", "odict_iterator", "itertools.zip_longest", "itertools.pairwise"].contains n && vs[0]? == some (rawInt _)) = true then _ else _) Q E s
           rw [if_neg (by intro h; rw [hn, Bool.false_and] at h; cases h)]
           exact wpAny_pure hQ))

/-- the list at a, as it stands at each turn (a loop may append to it) -/
def Itl (K : PySem.W.Frag) (a : Addr) : It :=
  ⟨fun i H => ∃ xs x, SqL K H a xs ∧ xs[i]? = some x, fun i H x H' => H' = H ∧ ∀ xs, SqL K H a xs → xs[i]? = some x, fun i H => ∃ xs, SqL K H a xs ∧ xs.length ≤ i⟩
def Itt (K : PySem.W.Frag) (a : Addr) : It :=
  ⟨fun i H => ∃ xs x, SqT K H a xs ∧ xs[i]? = some x, fun i H x H' => H' = H ∧ ∀ xs, SqT K H a xs → xs[i]? = some x, fun i H => ∃ xs, SqT K H a xs ∧ xs.length ≤ i⟩
/-- lo, lo + 1, .. (n of them) -/
def Itr (lo : Int) (n : Nat) : It := ⟨fun i _ => i < n, fun i H x H' => H' = H ∧ x = .int (lo + i), fun i _ => n ≤ i⟩
theorem turn_list {P : Program} {w : World} {K : PySem.W.Frag} {tg : Expr} (a it : Addr) : Turn P w K tg (Itl K a) [it] it (fun i h => h.IsListIter it a i) where
  mem := by simp
  obj := fun i h st b hb => by
    have e : b = it := by simpa using hb
    subst e
    obtain ⟨o, e, c, d⟩ := st
    exact ⟨o, e, fun v z => by rw [d] at z; cases z⟩
  keep := fun i h h' st k => st.at fun o e => k it (by simp) o e
  item := by
    intro X hP hw hK hc i pins s σ H E I hf st hg
    subst hP hw hK
    obtain ⟨xs, x, hq, hx⟩ := hg
    obtain ⟨its, rv, p, hz⟩ := I.list hq
    obtain ⟨u, hu, ru⟩ := rv.get hx
    obtain ⟨f0, f1, f2, f3, f4, f5⟩ := hf it (by simp)
    refine wpAny_pyNext_list_item st p.isList (x := u) (by simpa using hu) fun h' st' sb => ?_
    have I1 : Inv X pins σ H { s with heap := h' } := I.turned (t' := s.toks) (fun b o hb e => (sb.2 b hb).trans e) f0 f1 f3 f4 f5
    obtain ⟨o, e, c, d⟩ := id st'
    exact ⟨u, rfl, go_of (s := { s with heap := h' }) e c d (by decide) ⟨x, H, I1, ru, ⟨rfl, fun ys hy => by rw [I.list_inj hy hq]; exact hx⟩, st', fun b hb => (hf b hb).1⟩⟩
  done := by
    intro X hP hw hK hc i pins s σ H E I hf st hg
    subst hP hw hK
    obtain ⟨xs, hq, hx⟩ := hg
    obtain ⟨its, rv, p, hz⟩ := I.list hq
    obtain ⟨f0, f1, f2, f3, f4, f5⟩ := hf it (by simp)
    have hl := rv.length
    exact wpAny_pyNext_list_end (I.ok.hd hc) st p.isList (by simp; omega) fun h' eb => ⟨rfl, I.turned (t' := s.toks) (fun b o hb e => eb b o hb e) f0 f1 f3 f4 f5⟩
  self := fun _ _ _ _ _ st h => wpAny_pyIter_listiter st h
theorem turn_tuple {P : Program} {w : World} {K : PySem.W.Frag} {tg : Expr} (a it : Addr) : Turn P w K tg (Itt K a) [it] it (fun i h => h.IsTupleIter it a i) where
  mem := by simp
  obj := fun i h st b hb => by
    have e : b = it := by simpa using hb
    subst e
    obtain ⟨o, e, c, d⟩ := st
    exact ⟨o, e, fun v z => by rw [d] at z; cases z⟩
  keep := fun i h h' st k => st.at fun o e => k it (by simp) o e
  item := by
    intro X hP hw hK hc i pins s σ H E I hf st hg
    subst hP hw hK
    obtain ⟨xs, x, hq, hx⟩ := hg
    obtain ⟨its, rv, p, hz⟩ := I.tuple hq
    obtain ⟨u, hu, ru⟩ := rv.get hx
    obtain ⟨f0, f1, f2, f3, f4, f5⟩ := hf it (by simp)
    refine wpAny_pyNext_tuple_item st (show s.heap.IsTuple a its.toArray from p) (x := u) (by simpa using hu) fun h' st' sb => ?_
    have I1 : Inv X pins σ H { s with heap := h' } := I.turned (t' := s.toks) (fun b o hb e => (sb.2 b hb).trans e) f0 f1 f3 f4 f5
    obtain ⟨o, e, c, d⟩ := id st'
    exact ⟨u, rfl, go_of (s := { s with heap := h' }) e c d (by decide) ⟨x, H, I1, ru, ⟨rfl, fun ys hy => by rw [I.tuple_inj hy hq]; exact hx⟩, st', fun b hb => (hf b hb).1⟩⟩
  done := by
    intro X hP hw hK hc i pins s σ H E I hf st hg
    subst hP hw hK
    obtain ⟨xs, hq, hx⟩ := hg
    obtain ⟨its, rv, p, hz⟩ := I.tuple hq
    obtain ⟨f0, f1, f2, f3, f4, f5⟩ := hf it (by simp)
    have hl := rv.length
    exact wpAny_pyNext_tuple_end (I.ok.hd hc) st (show s.heap.IsTuple a its.toArray from p) (by simp; omega) fun h' eb => ⟨rfl, I.turned (t' := s.toks) (fun b o hb e => eb b o hb e) f0 f1 f3 f4 f5⟩
  self := fun _ _ _ _ _ st h => wpAny_pyIter_tupleiter st h
theorem turn_range {P : Program} {w : World} {K : PySem.W.Frag} {tg : Expr} (it : Addr) (lo : Int) (n : Nat) : Turn P w K tg (Itr lo n) [it] it (fun i h => IsRangeIter h it (lo + (i : Nat) * 1) ((n : Int) - (i : Nat)) 1) where
  mem := by simp
  obj := fun i h st b hb => by
    have e : b = it := by simpa using hb
    subst e
    exact ⟨_, st, fun v z => by
      have z' : Data.fields _ = Data.cell v := z
      cases z'⟩
  keep := fun i h h' st k => k it (by simp) _ st
  item := by
    intro X hP hw hK hc i pins s σ H E I hf st hg
    subst hP hw hK
    obtain ⟨f0, f1, f2, f3, f4, f5⟩ := hf it (by simp)
    have W := Walks.range (prog := X.prog) (w := X.w) (I.ok.hd hc) it lo 1 n
    refine W.item i s _ _ hg st fun v h' tk hv st' kk => ?_
    obtain ⟨t, rfl⟩ := hv
    have I1 : Inv X pins σ H { s with heap := h', toks := tk } := I.turned (fun b o hb e => kk b o (by simpa using hb) e) f0 f1 f3 f4 f5
    refine ⟨_, rfl, go_of (s := { s with heap := h', toks := tk }) (n := "range_iterator") st' rfl rfl (by decide) ⟨.int (lo + i), H, I1, ⟨t, ?_⟩, ⟨rfl, rfl⟩, st', fun b hb => (hf b hb).1⟩⟩
    rw [Int.mul_one]
  done := by
    intro X hP hw hK hc i pins s σ H E I hf st hg
    subst hP hw hK
    obtain ⟨f0, f1, f2, f3, f4, f5⟩ := hf it (by simp)
    exact wpAny_pyNext_range_end (I.ok.hd hc) st (by have : n ≤ i := hg; omega) fun h' eb => ⟨rfl, I.turned (t' := s.toks) (fun b o hb e => eb b o hb e) f0 f1 f3 f4 f5⟩
  self := fun _ _ _ _ _ st h => wpAny_pyIter_rangeiter st h
end L2

namespace L2
open PySem PySem.Spec PyProof.Rows
section
variable {X : Cx} {tg : Expr}
def iList (K : PySem.W.Frag) (tl : TE) : TI := fun σ H R => tl σ H fun x H1 => ∃ a, x = .ref a ∧ (∃ xs, SqL K H1 a xs) ∧ R (Itl K a) H1
def iTup (K : PySem.W.Frag) (tl : TE) : TI := fun σ H R => tl σ H fun x H1 => ∃ a, x = .ref a ∧ (∃ xs, SqT K H1 a xs) ∧ R (Itt K a) H1
theorem pi_list {l : Expr} {tl : TE} (hl : PE X l tl) : PI X tg l (iList X.K tl) := by
  intro pins s σ H R I h
  refine thn (hl pins s σ H _ I h) fun v s1 ⟨x, H1, I1, r1, q1⟩ => ?_
  obtain ⟨a, e, ⟨xs, hq⟩, q⟩ := q1
  subst e
  cases r1
  obtain ⟨its, rv, p, hz⟩ := I1.list hq
  refine wpAny_pyIter_list p.isList ?_
  refine ⟨s1.heap.objs.size, [s1.heap.objs.size], _, _, H1, rfl, I1.kept (t' := s1.toks) fun b o e => Heap.get?_push_of_some _ e, turn_list a _, ⟨_, Heap.get?_push_size _ rfl, rfl, rfl⟩, fun b hb => ?_, q⟩
  have e : b = s1.heap.objs.size := by simpa using hb
  subst e
  exact I1.fpOk (Nat.le_refl _) (I1.hok.fresh (Nat.le_refl _))
theorem pi_tup {l : Expr} {tl : TE} (hl : PE X l tl) : PI X tg l (iTup X.K tl) := by
  intro pins s σ H R I h
  refine thn (hl pins s σ H _ I h) fun v s1 ⟨x, H1, I1, r1, q1⟩ => ?_
  obtain ⟨a, e, ⟨xs, hq⟩, q⟩ := q1
  subst e
  cases r1
  obtain ⟨its, rv, p, hz⟩ := I1.tuple hq
  refine wpAny_pyIter_tuple (show s1.heap.IsTuple a its.toArray from p) ?_
  refine ⟨s1.heap.objs.size, [s1.heap.objs.size], _, _, H1, rfl, I1.kept (t' := s1.toks) fun b o e => Heap.get?_push_of_some _ e, turn_tuple a _, ⟨_, Heap.get?_push_size _ rfl, rfl, rfl⟩, fun b hb => ?_, q⟩
  have e : b = s1.heap.objs.size := by simpa using hb
  subst e
  exact I1.fpOk (Nat.le_refl _) (I1.hok.fresh (Nat.le_refl _))
/-- a range object just made, walked -/
theorem range_it {pins : List (Addr × Obj)} {σ : St} {H : Hp} {s : Shared} {R : It → Hp → Prop} {E : Value → Shared → Prop} {lo hi : Int} {t u v : Tok} {tk : Nat} (I : Inv X pins σ H s) (h1 : -(2 ^ 62) ≤ lo) (h2 : lo < 2 ^ 62) (h3 : -(2 ^ 62) ≤ hi) (h4 : hi < 2 ^ 62)
    (q : R (Itr lo (hi - lo).toNat) H) : wpAny (model X.prog X.w) X.A (pyIter (.ref s.heap.objs.size)) (PIE X pins σ tg R) E { s with heap := s.heap.push { cls := .type "range", data := .fields #[.int lo t, .int hi u, .int 1 v] }, toks := tk } := by
  refine wpAny_pyIter_range (IsRange.new ..) (small_one h1 h2 h3 h4) ?_
  have I1 : Inv X pins σ H { s with heap := s.heap.push { cls := .type "range", data := .fields #[.int lo t, .int hi u, .int 1 v] }, toks := tk } := I.kept fun b o e => Heap.get?_push_of_some _ e
  refine ⟨(s.heap.push { cls := .type "range", data := .fields #[.int lo t, .int hi u, .int 1 v] }).objs.size, [(s.heap.push { cls := .type "range", data := .fields #[.int lo t, .int hi u, .int 1 v] }).objs.size], _, _, H, rfl,
    I1.kept (t' := tk) fun b o e => Heap.get?_push_of_some _ e, turn_range _ lo (hi - lo).toNat, ?_, fun b hb => ?_, q⟩
  · have e1 : lo + ((0 : Nat) : Int) * 1 = lo := by simp
    have e2 : (((hi - lo).toNat : Nat) : Int) - ((0 : Nat) : Int) = Builtin.Range.rangeSize lo hi 1 := by rw [rangeSize_one]; split <;> omega
    show IsRangeIter _ _ (lo + ((0 : Nat) : Int) * 1) ((((hi - lo).toNat : Nat) : Int) - ((0 : Nat) : Int)) 1
    rw [e1, e2]
    exact Heap.get?_push_size _ rfl
  · have e : b = (s.heap.push { cls := .type "range", data := .fields #[.int lo t, .int hi u, .int 1 v] }).objs.size := by simpa using hb
    subst e
    exact I1.fpOk (Nat.le_refl _) (I1.hok.fresh (Nat.le_refl _))
def iRng1 (ta : TA) : TI := fun σ H R => ta σ H fun vs H1 => ∃ j : Int, vs = [.int j] ∧ -(2 ^ 62) ≤ j ∧ j < 2 ^ 62 ∧ R (Itr 0 j.toNat) H1
def iRng2 (ta : TA) : TI := fun σ H R => ta σ H fun vs H1 => ∃ i j : Int, vs = [.int i, .int j] ∧ (-(2 ^ 62) ≤ i ∧ i < 2 ^ 62 ∧ -(2 ^ 62) ≤ j ∧ j < 2 ^ 62) ∧ R (Itr i (j - i).toNat) H1
theorem pi_range1 {a : Expr} {ta : TA} {p pos : Pos} (hg : Gl X "range") (hm : X.mg "range" = none) (ha : PA X [a] ta) (hs : starEach [a] X.env = [(false, eval a X.env)] := by rfl) : PI X tg (.Call (.Name "range" p) [a] [] pos) (iRng1 ta) := by
  intro pins s σ H R I h
  refine Call_ (ld_blt I hg hm boot_range (PyProof.Rows.callWith_type1 (thn (ha pos pins s σ H _ I h) fun us s1 ⟨vs, H1, I1, r1, q1⟩ => ?_) hs rfl))
  obtain ⟨j, e, q1, q2, q⟩ := q1
  subst e
  cases r1 with
  | cons r rr =>
    cases rr
    obtain ⟨t, rfl⟩ := r
    exact call_range_1 (range_it I1 (by omega) (by omega) q1 q2 (by simpa using q))
theorem pi_range2 {a b : Expr} {ta : TA} {p pos : Pos} (hg : Gl X "range") (hm : X.mg "range" = none) (ha : PA X [a, b] ta) (hs : starEach [a, b] X.env = [(false, eval a X.env), (false, eval b X.env)] := by rfl) (hs2 : starEach [b] X.env = [(false, eval b X.env)] := by rfl) :
    PI X tg (.Call (.Name "range" p) [a, b] [] pos) (iRng2 ta) := by
  intro pins s σ H R I h
  refine Call_ (ld_blt I hg hm boot_range (PyProof.Rows.callWith_type1 (thn (ha pos pins s σ H _ I h) fun us s1 ⟨vs, H1, I1, r1, q1⟩ => ?_) (by rw [hs, hs2]) (by rw [hs2]; rfl)))
  obtain ⟨i, j, e, ⟨q1, q2, q3, q4⟩, q⟩ := q1
  subst e
  cases r1 with
  | cons r rr =>
    cases rr with
    | cons r' rr =>
      cases rr
      obtain ⟨t, rfl⟩ := r
      obtain ⟨t', rfl⟩ := r'
      exact call_range_2 (range_it I1 q1 q2 q3 q4 q)

/-! ### for -/
/-- W: the invariant by the turn and a measure; N: what the body is to reach -/
def tFor (wi : TI) (g : TG) (tb : TS) : TS := fun D σ H => wi σ H fun J H1 => ∃ W : Nat → Nat → St → Hp → Prop, (∃ m, W 0 m σ H1) ∧ ∀ i m σ H, W i m σ H →
  (J.stop i H ∧ D.nx σ H) ∨ (J.go i H ∧ ∃ N : St → Hp → Prop, (∀ σ' H', N σ' H' → ∃ m', m' < m ∧ W (i + 1) m' σ' H') ∧ ∀ x H', J.yld i H x H' → g x σ H' fun σ2 H2 => tb { D with nx := N, ct := N, bk := D.nx } σ2 H2)
/-- the records at fp as they stand -/
def pinsAt (fp : List Addr) (h : Heap) : List (Addr × Obj) := fp.filterMap fun b => (h.get? b).map fun o => (b, o)
theorem mem_pinsAt {fp : List Addr} {h : Heap} {b : Addr} {o : Obj} (hb : b ∈ fp) (e : h.get? b = some o) : (b, o) ∈ pinsAt fp h := List.mem_filterMap.mpr ⟨b, hb, by rw [e]; rfl⟩
theorem of_pinsAt {fp : List Addr} {h : Heap} {p : Addr × Obj} (hp : p ∈ pinsAt fp h) : p.1 ∈ fp ∧ h.get? p.1 = some p.2 := by
  obtain ⟨b, hb, e⟩ := List.mem_filterMap.mp hp
  cases q : h.get? b with
  | none => rw [q] at e; cases e
  | some o =>
    rw [q] at e
    have e' : (b, o) = p := Option.some.inj e
    subst e'
    exact ⟨hb, q⟩
theorem Inv.pinned {pins : List (Addr × Obj)} {σ : St} {H : Hp} {s : Shared} {fp : List Addr} (I : Inv X pins σ H s) (hf : ∀ b ∈ fp, FpOk X pins H b) (ho : ∀ b ∈ fp, ∃ o, s.heap.get? b = some o ∧ ∀ v, o.data ≠ .cell v) : Inv X (pins ++ pinsAt fp s.heap) σ H s :=
  I.pins_of fun p hp => (List.mem_append.mp hp).elim (fun z => I.pin p (List.mem_append_right _ z)) fun z => by
    obtain ⟨hb, e⟩ := of_pinsAt z
    obtain ⟨f0, f1, f2, _⟩ := hf p.1 hb
    obtain ⟨o, e', d⟩ := ho p.1 hb
    rw [e] at e'; cases e'
    exact ⟨e, f0, f1, f2, d⟩
theorem Inv.unpinned {pins pl : List (Addr × Obj)} {σ : St} {H : Hp} {s : Shared} (I : Inv X (pins ++ pl) σ H s) : Inv X pins σ H s := I.pins_of fun p hp => I.pin p (List.mem_append_right _ (List.mem_append_left _ hp))
theorem ps_for {iter : Expr} {body : List Stmt} {wi : TI} {g : TG} {tb : TS} {pos : Pos} (hp : PassesOwn (model X.prog X.w) X.A X.env X.xe) (hc : X.calm = true) (hi : PI X tg iter wi) (hg : PG X tg g) (hb : PSs X body tb)
    (hs : ∀ x, foldedSetIterable iter X.env x = pure x := by intro _; rfl) : PS X (.For tg iter body [] pos) (tFor wi g tb) := by
  intro pins s σ H D I h
  refine wpAny_For (thn (hi pins s σ H _ I h) fun v s1 h1 => thn h1 fun itv s2 h2 => ?_) hs
  obtain ⟨it, fp, tn, J, H2, e, I2, T, st2, f2, W, ⟨m0, w0⟩, turn⟩ := h2
  subst e
  -- what stays true of the iterator's objects through the loop
  have stat : ∀ {H' : Hp}, (∀ b ∈ fp, H' b = none) → ∀ b ∈ fp, FpOk X pins H' b := fun hn b hb => ⟨hn b hb, (f2 b hb).2⟩
  refine codeAny_forLoop_any (fun n s' => ∃ i σ' H', Inv X pins σ' H' s' ∧ tn i s'.heap ∧ (∀ b ∈ fp, H' b = none) ∧ W i n σ' H') ?_ m0 ⟨0, σ, H2, I2, st2, fun b hb => (f2 b hb).1, w0⟩
  rintro n s3 ⟨i, σ3, H3, I3, st3, fr3, w3⟩
  rcases turn i n σ3 H3 w3 with ⟨stop, qn⟩ | ⟨go, N, hN, step⟩
  · refine wpAny_passesOwn hp (thn (T.done X rfl rfl rfl hc i pins s3 σ3 H3 X.xe I3 (stat fr3) st3 stop) fun r s4 ⟨hr, I4⟩ => ?_)
    subst hr
    exact wpAny_execs_nil ⟨σ3, H3, I4, qn⟩
  · refine wpAny_passesOwn hp (thn (T.item X rfl rfl rfl hc i pins s3 σ3 H3 X.xe I3 (stat fr3) st3 go) fun r s4 ⟨u, hr, h4⟩ => ?_)
    subst hr
    refine wpAny_passesOwn hp (thn h4 fun _ s5 ⟨x, H5, I5, r5, y5, st5, fr5⟩ => ?_)
    have I5' := I5.pinned (stat fr5) (T.obj _ _ st5)
    refine wpAny_passesOwn hp (thn (hg _ s5 σ3 H5 x u _ I5' r5 (step x H5 y5)) fun _ s6 ⟨σ6, H6, I6, q6⟩ => ?_)
    refine wpAny_passesOwn hp (thn (hb _ s6 σ6 H6 _ I6 q6) fun f s7 q7 => ?_)
    have again : ∀ {σ7 : St} {H7 : Hp}, Inv X (pins ++ pinsAt fp s5.heap) σ7 H7 s7 → N σ7 H7 → ∃ m, m < n ∧ ∃ i σ' H', Inv X pins σ' H' s7 ∧ tn i s7.heap ∧ (∀ b ∈ fp, H' b = none) ∧ W i m σ' H' := fun {σ7 H7} I7 n7 => by
      obtain ⟨m', hm, w7⟩ := hN σ7 H7 n7
      refine ⟨m', hm, i + 1, σ7, H7, I7.unpinned, T.keep _ _ _ st5 fun b hb o e => (I7.pin (b, o) (List.mem_append_right _ (List.mem_append_right _ (mem_pinsAt hb e)))).1, fun b hb => ?_, w7⟩
      obtain ⟨o, e, d⟩ := T.obj _ _ st5 b hb
      exact (I7.pin (b, o) (List.mem_append_right _ (List.mem_append_right _ (mem_pinsAt hb e)))).2.1
    cases f with
    | next => obtain ⟨σ7, H7, I7, n7⟩ := q7; exact again I7 n7
    | cont => obtain ⟨σ7, H7, I7, n7⟩ := q7; exact again I7 n7
    | brk => obtain ⟨σ7, H7, I7, q7⟩ := q7; exact ⟨σ7, H7, I7.unpinned, q7⟩
    | ret v => obtain ⟨x7, σ7, H7, I7, r7, q7⟩ := q7; exact ⟨x7, σ7, H7, I7.unpinned, r7, q7⟩
end

/-! ### the forms one uses -/
/-- over a list that the body leaves as it is -/
theorem for_list {K : PySem.W.Frag} {a : Addr} {xs : List V} {g : TG} {tb : TS} {D : Ends} {σ : St} {H : Hp} (Pv : Nat → St → Hp → Prop) (h0 : Pv 0 σ H) (hl : ∀ i σ H, i ≤ xs.length → Pv i σ H → SqL K H a xs)
    (hs : ∀ i x σ H, xs[i]? = some x → Pv i σ H → g x σ H fun σ2 H2 => tb { D with nx := Pv (i + 1), ct := Pv (i + 1), bk := D.nx } σ2 H2) (hd : ∀ σ H, Pv xs.length σ H → D.nx σ H) :
    ∃ W : Nat → Nat → St → Hp → Prop, (∃ m, W 0 m σ H) ∧ ∀ i m σ H, W i m σ H →
      ((Itl K a).stop i H ∧ D.nx σ H) ∨ ((Itl K a).go i H ∧ ∃ N : St → Hp → Prop, (∀ σ' H', N σ' H' → ∃ m', m' < m ∧ W (i + 1) m' σ' H') ∧ ∀ x H', (Itl K a).yld i H x H' → g x σ H' fun σ2 H2 => tb { D with nx := N, ct := N, bk := D.nx } σ2 H2) := by
  refine ⟨fun i m σ H => m = xs.length - i ∧ i ≤ xs.length ∧ Pv i σ H, ⟨xs.length, by simp, Nat.zero_le _, h0⟩, ?_⟩
  rintro i m σ H ⟨rfl, hi, p⟩
  have q := hl i σ H hi p
  by_cases hlt : i < xs.length
  · refine .inr ⟨⟨xs, xs[i], q, by simp [hlt]⟩, Pv (i + 1), fun σ' H' p' => ⟨xs.length - (i + 1), by omega, rfl, hlt, p'⟩, fun x H' y => ?_⟩
    obtain ⟨e, y⟩ := y
    subst e
    exact hs i x σ _ (y xs q) p
  · have e : i = xs.length := by omega
    subst e
    exact .inl ⟨⟨xs, q, Nat.le_refl _⟩, hd σ H p⟩
theorem for_tup {K : PySem.W.Frag} {a : Addr} {xs : List V} {g : TG} {tb : TS} {D : Ends} {σ : St} {H : Hp} (Pv : Nat → St → Hp → Prop) (h0 : Pv 0 σ H) (hl : ∀ i σ H, i ≤ xs.length → Pv i σ H → SqT K H a xs)
    (hs : ∀ i x σ H, xs[i]? = some x → Pv i σ H → g x σ H fun σ2 H2 => tb { D with nx := Pv (i + 1), ct := Pv (i + 1), bk := D.nx } σ2 H2) (hd : ∀ σ H, Pv xs.length σ H → D.nx σ H) :
    ∃ W : Nat → Nat → St → Hp → Prop, (∃ m, W 0 m σ H) ∧ ∀ i m σ H, W i m σ H →
      ((Itt K a).stop i H ∧ D.nx σ H) ∨ ((Itt K a).go i H ∧ ∃ N : St → Hp → Prop, (∀ σ' H', N σ' H' → ∃ m', m' < m ∧ W (i + 1) m' σ' H') ∧ ∀ x H', (Itt K a).yld i H x H' → g x σ H' fun σ2 H2 => tb { D with nx := N, ct := N, bk := D.nx } σ2 H2) := by
  refine ⟨fun i m σ H => m = xs.length - i ∧ i ≤ xs.length ∧ Pv i σ H, ⟨xs.length, by simp, Nat.zero_le _, h0⟩, ?_⟩
  rintro i m σ H ⟨rfl, hi, p⟩
  have q := hl i σ H hi p
  by_cases hlt : i < xs.length
  · refine .inr ⟨⟨xs, xs[i], q, by simp [hlt]⟩, Pv (i + 1), fun σ' H' p' => ⟨xs.length - (i + 1), by omega, rfl, hlt, p'⟩, fun x H' y => ?_⟩
    obtain ⟨e, y⟩ := y
    subst e
    exact hs i x σ _ (y xs q) p
  · have e : i = xs.length := by omega
    subst e
    exact .inl ⟨⟨xs, q, Nat.le_refl _⟩, hd σ H p⟩
theorem for_range {lo : Int} {n : Nat} {g : TG} {tb : TS} {D : Ends} {σ : St} {H : Hp} (Pv : Nat → St → Hp → Prop) (h0 : Pv 0 σ H)
    (hs : ∀ i σ H, i < n → Pv i σ H → g (.int (lo + i)) σ H fun σ2 H2 => tb { D with nx := Pv (i + 1), ct := Pv (i + 1), bk := D.nx } σ2 H2) (hd : ∀ σ H, Pv n σ H → D.nx σ H) :
    ∃ W : Nat → Nat → St → Hp → Prop, (∃ m, W 0 m σ H) ∧ ∀ i m σ H, W i m σ H →
      ((Itr lo n).stop i H ∧ D.nx σ H) ∨ ((Itr lo n).go i H ∧ ∃ N : St → Hp → Prop, (∀ σ' H', N σ' H' → ∃ m', m' < m ∧ W (i + 1) m' σ' H') ∧ ∀ x H', (Itr lo n).yld i H x H' → g x σ H' fun σ2 H2 => tb { D with nx := N, ct := N, bk := D.nx } σ2 H2) := by
  refine ⟨fun i m σ H => m = n - i ∧ i ≤ n ∧ Pv i σ H, ⟨n, by simp, Nat.zero_le _, h0⟩, ?_⟩
  rintro i m σ H ⟨rfl, hi, p⟩
  by_cases hlt : i < n
  · refine .inr ⟨hlt, Pv (i + 1), fun σ' H' p' => ⟨n - (i + 1), by omega, rfl, hlt, p'⟩, fun x H' y => ?_⟩
    obtain ⟨e, y⟩ := y
    subst e y
    exact hs i σ _ hlt p
  · have e : i = n := by omega
    subst e
    exact .inl ⟨Nat.le_refl _, hd σ H p⟩
/-- while, by a word and a measure of the state -/
theorem while_by {c : TT} {tb : TS} {D : Ends} {σ : St} {H : Hp} (Pv : St → Hp → Prop) (μ : St → Hp → Nat) (h0 : Pv σ H)
    (hs : ∀ σ H, Pv σ H → c σ H fun b H1 => if b = true then tb { D with nx := fun σ' H' => Pv σ' H' ∧ μ σ' H' < μ σ H, ct := fun σ' H' => Pv σ' H' ∧ μ σ' H' < μ σ H, bk := D.nx } σ H1 else D.nx σ H1)
    (mono : ∀ σ H Q Q', (∀ b H1, Q b H1 → Q' b H1) → c σ H Q → c σ H Q') : tWhile c tb D σ H := by
  refine ⟨fun m σ H => m = μ σ H ∧ Pv σ H, ⟨_, rfl, h0⟩, ?_⟩
  rintro m σ H ⟨rfl, p⟩
  refine mono σ H _ _ (fun b H1 q => ?_) (hs σ H p)
  cases b with
  | true => exact ⟨_, fun σ' H' ⟨p', l⟩ => ⟨_, l, rfl, p'⟩, q⟩
  | false => exact q
end L2

namespace L2
open PySem PySem.Spec PyProof.Rows

abbrev R2 := V → V → Hp → VK → Prop
/-- a two-place operation on values: f is binaryOp op, inplaceOp op or compareOp op -/
def OpR (X : Cx) (f : Value → Value → Sem Value) (r : R2) : Prop :=
  ∀ (pins : List (Addr × Obj)) (s : Shared) (σ : St) (H : Hp) (x y : V) (v u : Value) (Q : VK), Inv X pins σ H s → RelV x v → RelV y u → r x y H Q →
    wpAny (model X.prog X.w) X.A (f v u) (EP X pins σ Q) X.xe s
/-- a one-place operation -/
def UnR (X : Cx) (f : Value → Sem Value) (r : V → Hp → VK → Prop) : Prop :=
  ∀ (pins : List (Addr × Obj)) (s : Shared) (σ : St) (H : Hp) (x : V) (v : Value) (Q : VK), Inv X pins σ H s → RelV x v → r x H Q →
    wpAny (model X.prog X.w) X.A (f v) (EP X pins σ Q) X.xe s
/-- a call of a value that is known (a builtin, a type) with values -/
def CallR (X : Cx) (f : Value) (r : List V → Hp → VK → Prop) : Prop :=
  ∀ (pins : List (Addr × Obj)) (s : Shared) (σ : St) (H : Hp) (xs : List V) (us : List Value) (Q : VK), Inv X pins σ H s → Vals xs us → r xs H Q →
    wpAny (model X.prog X.w) X.A (call f us) (EP X pins σ Q) X.xe s
/-- a value's truth -/
def TruR (X : Cx) (r : V → Hp → (Bool → Hp → Prop) → Prop) : Prop :=
  ∀ (pins : List (Addr × Obj)) (s : Shared) (σ : St) (H : Hp) (x : V) (v : Value) (Q : Bool → Hp → Prop), Inv X pins σ H s → RelV x v → r x H Q →
    wpAny (model X.prog X.w) X.A (truthy v) (TP X pins σ Q) X.xe s

def tOp (r : R2) (ta tb : TE) : TE := fun σ H Q => ta σ H fun x H1 => tb σ H1 fun y H2 => r x y H2 Q
def tUn (r : V → Hp → VK → Prop) (ta : TE) : TE := fun σ H Q => ta σ H fun x H1 => r x H1 Q
/-- ints in, under C, and a value out -/
def rI (C : Int → Int → Prop) (g : Int → Int → V) : R2 := fun x y H Q => ∃ i j, x = .int i ∧ y = .int j ∧ C i j ∧ Q (g i j) H
def rI0 (g : Int → Int → V) : R2 := fun x y H Q => ∃ i j, x = .int i ∧ y = .int j ∧ Q (g i j) H
def rU (g : Int → V) : V → Hp → VK → Prop := fun x H Q => ∃ i, x = .int i ∧ Q (g i) H

section
variable {X : Cx} {a b c : Expr} {ta tb tc : TE} {pos : Pos}

theorem binT (ha : PE X a ta) (hb : PE X b tb) {pins : List (Addr × Obj)} {s : Shared} {σ : St} {H : Hp} {R : V → V → Hp → Prop} (I : Inv X pins σ H s)
    (h : ta σ H fun x H1 => tb σ H1 fun y H2 => R x y H2) {Q : Value → Shared → Prop} {f : Value → Value → Sem Value}
    (hf : ∀ v u s2 x y H2, Inv X pins σ H2 s2 → RelV x v → RelV y u → R x y H2 → wpAny (model X.prog X.w) X.A (f v u) Q X.xe s2) :
    wpAny (model X.prog X.w) X.A (eval a X.env) (fun v s₁ => wpAny (model X.prog X.w) X.A (eval b X.env) (fun u s₂ => wpAny (model X.prog X.w) X.A (f v u) Q X.xe s₂) X.xe s₁) X.xe s := by
  refine thn (ha pins s σ H _ I h) fun v s1 ⟨x, H1, I1, r1, q1⟩ => ?_
  refine thn (hb pins s1 σ H1 _ I1 q1) fun u s2 ⟨y, H2, I2, r2, q2⟩ => ?_
  exact hf v u s2 x y H2 I2 r1 r2 q2

theorem pe_op {op : Operator} {r : R2} (ho : OpR X (binaryOp op) r) (ha : PE X a ta) (hb : PE X b tb) : PE X (.BinOp a op b pos) (tOp r ta tb) := by
  intro pins s σ H Q I h
  exact wpAny_BinOp (binT ha hb I h fun v u s2 x y H2 I2 rx ry q => ho pins s2 σ H2 x y v u Q I2 rx ry q)
theorem pe_un {op : UnaryOp} {r : V → Hp → VK → Prop} (ho : UnR X (unaryOp op) r) (ha : PE X a ta) : PE X (.UnaryOp op a pos) (tUn r ta) := by
  intro pins s σ H Q I h
  exact UnaryOp_ (thn (ha pins s σ H _ I h) fun v s1 ⟨x, H1, I1, r1, q1⟩ => ho pins s1 σ H1 x v Q I1 r1 q1)
/-- a op= e at a name: the name's slot i -/
theorem augR {op : Operator} {r : R2} (ho : OpR X (inplaceOp op) r) {pins : List (Addr × Obj)} {s : Shared} {σ : St} {H : Hp} {x y : V} {v u : Value} {Q : VK} (I : Inv X pins σ H s)
    (rx : RelV x v) (ry : RelV y u) (q : r x y H Q) : wpAny (model X.prog X.w) X.A (inplaceOp op v u) (EP X pins σ Q) X.xe s := ho pins s σ H x y v u Q I rx ry q

/-! ### ints -/
theorem opI {f : Value → Value → Sem Value} {C : Int → Int → Prop} {g : Int → Int → Int}
    (rule : ∀ (i j : Int) (t u : Tok) (s : Shared) (Q : Value → Shared → Prop) (E : Value → Shared → Prop), C i j → Q (.int (g i j) s.toks) { s with toks := s.toks + 1 } → wpAny (model X.prog X.w) X.A (f (.int i t) (.int j u)) Q E s) :
    OpR X f (rI C fun i j => .int (g i j)) := by
  intro pins s σ H x y v u Q I rx ry h
  obtain ⟨i, j, rfl, rfl, hc, q⟩ := h
  obtain ⟨t, rfl⟩ := rx
  obtain ⟨t', rfl⟩ := ry
  exact rule i j t t' s _ _ hc ⟨.int (g i j), H, I.tok _, ⟨_, rfl⟩, q⟩
theorem opI0 {f : Value → Value → Sem Value} {g : Int → Int → Int}
    (rule : ∀ (i j : Int) (t u : Tok) (s : Shared) (Q : Value → Shared → Prop) (E : Value → Shared → Prop), Q (.int (g i j) s.toks) { s with toks := s.toks + 1 } → wpAny (model X.prog X.w) X.A (f (.int i t) (.int j u)) Q E s) :
    OpR X f (rI0 fun i j => .int (g i j)) := by
  intro pins s σ H x y v u Q I rx ry h
  obtain ⟨i, j, rfl, rfl, q⟩ := h
  obtain ⟨t, rfl⟩ := rx
  obtain ⟨t', rfl⟩ := ry
  exact rule i j t t' s _ _ ⟨.int (g i j), H, I.tok _, ⟨_, rfl⟩, q⟩
theorem opB0 {f : Value → Value → Sem Value} {g : Int → Int → Bool}
    (rule : ∀ (i j : Int) (t u : Tok) (s : Shared) (Q : Value → Shared → Prop) (E : Value → Shared → Prop), Q (.bool (g i j)) s → wpAny (model X.prog X.w) X.A (f (.int i t) (.int j u)) Q E s) :
    OpR X f (rI0 fun i j => .bl (g i j)) := by
  intro pins s σ H x y v u Q I rx ry h
  obtain ⟨i, j, rfl, rfl, q⟩ := h
  obtain ⟨t, rfl⟩ := rx
  obtain ⟨t', rfl⟩ := ry
  exact rule i j t t' s _ _ ⟨.bl (g i j), H, I, rfl, q⟩

def CDiv (i j : Int) : Prop := 0 < j ∧ j < 1073741824
def CDivN (i j : Int) : Prop := j ≠ 0 ∧ j.natAbs < 1073741824
def CPow (i j : Int) : Prop := 0 ≤ j ∧ j ≤ 1000000 ∧ i.natAbs < 2 ^ 64
def CMul (i j : Int) : Prop := (-(2 ^ 64) < i ∧ i < 2 ^ 64) ∨ (-(2 ^ 64) < j ∧ j < 2 ^ 64)
theorem CMul.ok {i j : Int} (h : CMul i j) : IntMulOk i j := by
  rcases h with ⟨h1, h2⟩ | ⟨h1, h2⟩
  · exact .of_left (intBits_le_64 h1 h2)
  · exact .of_right (intBits_le_64 h1 h2)
theorem two_pow_nn (k : Nat) : (0 : Int) ≤ 2 ^ k := by
  rw [two_pow_cast]
  exact Int.natCast_nonneg _

theorem op_add : OpR X (binaryOp .Add) (rI0 fun i j => .int (i + j)) := opI0 fun _ _ _ _ _ _ _ q => add_int q
theorem op_sub : OpR X (binaryOp .Sub) (rI0 fun i j => .int (i - j)) := opI0 fun _ _ _ _ _ _ _ q => sub_int q
theorem op_mul : OpR X (binaryOp .Mult) (rI CMul fun i j => .int (i * j)) := opI fun _ _ _ _ _ _ _ hc q => mul_int q hc.ok
/-- // by a positive divisor -/
theorem op_fdiv : OpR X (binaryOp .FloorDiv) (rI CDiv fun i j => .int (i / j)) := opI fun i j _ _ _ _ _ hc q => by
  have h1 : (0 : Int) < j := hc.1
  have h2 : j < 1073741824 := hc.2
  exact floordiv_int (by omega) (by rw [Int.fdiv_eq_ediv_of_nonneg i (by omega)]; exact q) (.inl (PyProof.noPylong_small (by omega)))
theorem op_fdivN : OpR X (binaryOp .FloorDiv) (rI CDivN fun i j => .int (i.fdiv j)) := opI fun _ _ _ _ _ _ _ hc q => floordiv_int hc.1 q (.inl (PyProof.noPylong_small hc.2))
/-- % by a positive divisor of any size -/
theorem op_mod : OpR X (binaryOp .Mod) (rI (fun _ j => 0 < j) fun i j => .int (i % j)) := opI fun i j _ _ _ _ _ hc q => by
  have h1 : (0 : Int) < j := hc
  exact mod_int' (by omega) (by rw [Int.fmod_eq_emod_of_nonneg i (by omega)]; exact q)
theorem op_modN : OpR X (binaryOp .Mod) (rI (fun _ j => j ≠ 0) fun i j => .int (i.fmod j)) := opI fun _ _ _ _ _ _ _ hc q => mod_int' hc q
theorem op_pow : OpR X (binaryOp .Pow) (rI CPow fun i j => .int (i ^ j.toNat)) := opI fun _ _ _ _ _ _ _ hc q => pow_int_small hc.1 hc.2.1 hc.2.2 q
theorem op_shl : OpR X (binaryOp .LShift) (rI CPow fun i j => .int (i * 2 ^ j.toNat)) := opI fun _ _ _ _ _ _ _ hc q => lshift_int_small hc.1 hc.2.1 hc.2.2 q
theorem op_shr : OpR X (binaryOp .RShift) (rI (fun _ j => 0 ≤ j) fun i j => .int (i / 2 ^ j.toNat)) := opI fun i j _ _ _ _ _ hc q =>
  rshift_int hc (by rw [Int.fdiv_eq_ediv_of_nonneg i (two_pow_nn _)]; exact q)
theorem op_and : OpR X (binaryOp .BitAnd) (rI0 fun i j => .int (Builtin.bitAnd i j)) := opI0 fun _ _ _ _ _ _ _ q => and_int q
theorem op_or : OpR X (binaryOp .BitOr) (rI0 fun i j => .int (Builtin.bitOr i j)) := opI0 fun _ _ _ _ _ _ _ q => or_int q
theorem op_xor : OpR X (binaryOp .BitXor) (rI0 fun i j => .int (Builtin.bitXor i j)) := opI0 fun _ _ _ _ _ _ _ q => xor_int q

theorem iop_add : OpR X (inplaceOp .Add) (rI0 fun i j => .int (i + j)) := opI0 fun _ _ _ _ _ _ _ q => iadd_int q
theorem iop_sub : OpR X (inplaceOp .Sub) (rI0 fun i j => .int (i - j)) := opI0 fun _ _ _ _ _ _ _ q => isub_int q
theorem iop_mul : OpR X (inplaceOp .Mult) (rI CMul fun i j => .int (i * j)) := opI fun _ _ _ _ _ _ _ hc q => imul_int q hc.ok
theorem iop_fdiv : OpR X (inplaceOp .FloorDiv) (rI CDiv fun i j => .int (i / j)) := opI fun i j _ _ _ _ _ hc q => by
  have h1 : (0 : Int) < j := hc.1
  have h2 : j < 1073741824 := hc.2
  exact ifloordiv_int (by omega) (by rw [Int.fdiv_eq_ediv_of_nonneg i (by omega)]; exact q) (.inl (PyProof.noPylong_small (by omega)))
theorem iop_mod : OpR X (inplaceOp .Mod) (rI (fun _ j => 0 < j) fun i j => .int (i % j)) := opI fun i j _ _ _ _ _ hc q => by
  have h1 : (0 : Int) < j := hc
  exact imod_int (by omega) (by rw [Int.fmod_eq_emod_of_nonneg i (by omega)]; exact q)
theorem iop_shl : OpR X (inplaceOp .LShift) (rI CPow fun i j => .int (i * 2 ^ j.toNat)) := opI fun _ _ _ _ _ _ _ hc q => ilshift_int_small hc.1 hc.2.1 hc.2.2 q
theorem iop_shr : OpR X (inplaceOp .RShift) (rI (fun _ j => 0 ≤ j) fun i j => .int (i / 2 ^ j.toNat)) := opI fun i j _ _ _ _ _ hc q =>
  irshift_int hc (by rw [Int.fdiv_eq_ediv_of_nonneg i (two_pow_nn _)]; exact q)
theorem iop_and : OpR X (inplaceOp .BitAnd) (rI0 fun i j => .int (Builtin.bitAnd i j)) := opI0 fun _ _ _ _ _ _ _ q => iand_int q
theorem iop_or : OpR X (inplaceOp .BitOr) (rI0 fun i j => .int (Builtin.bitOr i j)) := opI0 fun _ _ _ _ _ _ _ q => ior_int q
theorem iop_xor : OpR X (inplaceOp .BitXor) (rI0 fun i j => .int (Builtin.bitXor i j)) := opI0 fun _ _ _ _ _ _ _ q => ixor_int q

theorem unI {f : Value → Sem Value} {g : Int → Int}
    (rule : ∀ (i : Int) (t : Tok) (s : Shared) (Q : Value → Shared → Prop) (E : Value → Shared → Prop), Q (.int (g i) s.toks) { s with toks := s.toks + 1 } → wpAny (model X.prog X.w) X.A (f (.int i t)) Q E s) :
    UnR X f (rU fun i => .int (g i)) := by
  intro pins s σ H x v Q I rx h
  obtain ⟨i, rfl, q⟩ := h
  obtain ⟨t, rfl⟩ := rx
  exact rule i t s _ _ ⟨.int (g i), H, I.tok _, ⟨_, rfl⟩, q⟩
theorem un_neg : UnR X (unaryOp .USub) (rU fun i => .int (-i)) := unI fun _ _ _ _ _ q => neg_int q
theorem un_inv : UnR X (unaryOp .Invert) (rU fun i => .int (Builtin.bitNot i)) := unI fun _ _ _ _ _ q => invert_int q

/-! ### bools among ints: n += (a < b) -/
theorem op_add_ib : OpR X (binaryOp .Add) (fun x y H Q => ∃ i k, x = .int i ∧ y = .bl k ∧ Q (.int (i + b2i k)) H) := by
  intro pins s σ H x y v u Q I rx ry h
  obtain ⟨i, k, rfl, rfl, q⟩ := h
  obtain ⟨t, rfl⟩ := rx
  cases ry
  exact add_int_bool ⟨.int (i + b2i k), H, I.tok _, ⟨_, rfl⟩, q⟩
end

/-! ### comparisons -/
/-- the scalars that == tells apart as data does -/
def scal : V → V → Bool
  | .non, .non => true | .non, .int _ => true | .int _, .non => true | .non, .bl _ => true | .bl _, .non => true | .non, .str _ => true | .str _, .non => true
  | .int _, .int _ => true | .bl _, .bl _ => true | .str _, .str _ => true | .byt _, .byt _ => true
  | .int _, .str _ => true | .str _, .int _ => true | .bl _, .str _ => true | .str _, .bl _ => true
  | _, _ => false
def rEq : R2 := fun x y H Q => scal x y = true ∧ Q (.bl (decide (x = y))) H
def rNe : R2 := fun x y H Q => scal x y = true ∧ Q (.bl (!decide (x = y))) H

theorem dec_int {i j : Int} : decide (V.int i = V.int j) = (i == j) := by
  rw [Bool.eq_iff_iff]
  simp
theorem dec_bl {i j : Bool} : decide (V.bl i = V.bl j) = (i == j) := by
  rw [Bool.eq_iff_iff]
  simp
theorem dec_str {i j : Str} : decide (V.str i = V.str j) = (i == j) := by
  rw [Bool.eq_iff_iff]
  simp
theorem dec_byt {i j : Array UInt8} : decide (V.byt i = V.byt j) = (i.toList == j.toList) := by
  rw [Bool.eq_iff_iff]
  cases i
  cases j
  simp

section
variable {X : Cx} {a b c : Expr} {ta tb tc : TE} {pos : Pos}
theorem fin_bl {pins : List (Addr × Obj)} {σ : St} {H : Hp} {s : Shared} {Q : VK} {k k' : Bool} (I : Inv X pins σ H s) (q : Q (.bl k) H) (e : k = k') : EP X pins σ Q (.bool k') s := by
  subst e
  exact ⟨.bl k, H, I, rfl, q⟩
theorem op_eq : OpR X (compareOp .Eq) rEq := by
  intro pins s σ H x y v u Q I rx ry h
  obtain ⟨hs, q⟩ := h
  cases x with
  | non =>
    cases rx
    cases y with
    | non => cases ry; exact PySem.EqNone.eq_none_none (fin_bl I q (by simp))
    | bl j => cases ry; exact PySem.EqNone.eq_none_bool (fin_bl I q (by simp))
    | int j => obtain ⟨t', rfl⟩ := ry; exact PySem.EqNone.eq_none_int (fin_bl I q (by simp))
    | str j => obtain ⟨t', rfl⟩ := ry; exact PySem.EqNone.eq_none_str (fin_bl I q (by simp))
    | _ => exact absurd (show false = true from hs) Bool.false_ne_true
  | bl i =>
    cases rx
    cases y with
    | non => cases ry; exact PySem.EqNone.eq_bool_none (fin_bl I q (by simp))
    | bl j => cases ry; exact eq_bool (fin_bl I q dec_bl)
    | str j => obtain ⟨t', rfl⟩ := ry; exact PySem.EqMixed.eq_bool_str (fin_bl I q (by simp))
    | _ => exact absurd (show false = true from hs) Bool.false_ne_true
  | int i =>
    obtain ⟨t, rfl⟩ := rx
    cases y with
    | non => cases ry; exact PySem.EqNone.eq_int_none (fin_bl I q (by simp))
    | int j => obtain ⟨t', rfl⟩ := ry; exact eq_int (fin_bl I q dec_int)
    | str j => obtain ⟨t', rfl⟩ := ry; exact PySem.EqMixed.eq_int_str (fin_bl I q (by simp))
    | _ => exact absurd (show false = true from hs) Bool.false_ne_true
  | str i =>
    obtain ⟨t, rfl⟩ := rx
    cases y with
    | non => cases ry; exact PySem.EqNone.eq_str_none (fin_bl I q (by simp))
    | bl j => cases ry; exact PySem.EqMixed.eq_str_bool (fin_bl I q (by simp))
    | int j => obtain ⟨t', rfl⟩ := ry; exact PySem.EqMixed.eq_str_int (fin_bl I q (by simp))
    | str j => obtain ⟨t', rfl⟩ := ry; exact eq_str (fin_bl I q dec_str)
    | _ => exact absurd (show false = true from hs) Bool.false_ne_true
  | byt i =>
    obtain ⟨t, rfl⟩ := rx
    cases y with
    | byt j => obtain ⟨t', rfl⟩ := ry; exact PySem.W.eq_bytes (fin_bl I q dec_byt)
    | _ => exact absurd (show false = true from hs) Bool.false_ne_true
  | _ => cases y <;> exact absurd (show false = true from hs) Bool.false_ne_true
theorem op_ne : OpR X (compareOp .NotEq) rNe := by
  intro pins s σ H x y v u Q I rx ry h
  obtain ⟨hs, q⟩ := h
  cases x with
  | non =>
    cases rx
    cases y with
    | non => cases ry; exact PySem.EqNone.ne_none_none (fin_bl I q (by simp))
    | bl j => cases ry; exact PySem.EqNone.ne_none_bool (fin_bl I q (by simp))
    | int j => obtain ⟨t', rfl⟩ := ry; exact PySem.EqNone.ne_none_int (fin_bl I q (by simp))
    | str j => obtain ⟨t', rfl⟩ := ry; exact PySem.EqNone.ne_none_str (fin_bl I q (by simp))
    | _ => exact absurd (show false = true from hs) Bool.false_ne_true
  | bl i =>
    cases rx
    cases y with
    | non => cases ry; exact PySem.EqNone.ne_bool_none (fin_bl I q (by simp))
    | bl j => cases ry; exact ne_bool (fin_bl I q (congrArg not dec_bl))
    | str j => obtain ⟨t', rfl⟩ := ry; exact PySem.EqMixed.ne_bool_str (fin_bl I q (by simp))
    | _ => exact absurd (show false = true from hs) Bool.false_ne_true
  | int i =>
    obtain ⟨t, rfl⟩ := rx
    cases y with
    | non => cases ry; exact PySem.EqNone.ne_int_none (fin_bl I q (by simp))
    | int j => obtain ⟨t', rfl⟩ := ry; exact ne_int (fin_bl I q (congrArg not dec_int))
    | str j => obtain ⟨t', rfl⟩ := ry; exact PySem.EqMixed.ne_int_str (fin_bl I q (by simp))
    | _ => exact absurd (show false = true from hs) Bool.false_ne_true
  | str i =>
    obtain ⟨t, rfl⟩ := rx
    cases y with
    | non => cases ry; exact PySem.EqNone.ne_str_none (fin_bl I q (by simp))
    | bl j => cases ry; exact PySem.EqMixed.ne_str_bool (fin_bl I q (by simp))
    | int j => obtain ⟨t', rfl⟩ := ry; exact PySem.EqMixed.ne_str_int (fin_bl I q (by simp))
    | str j => obtain ⟨t', rfl⟩ := ry; exact ne_str (fin_bl I q (congrArg not dec_str))
    | _ => exact absurd (show false = true from hs) Bool.false_ne_true
  | byt i =>
    obtain ⟨t, rfl⟩ := rx
    cases y with
    | byt j => obtain ⟨t', rfl⟩ := ry; exact PySem.W.ne_bytes (fin_bl I q (congrArg not dec_byt))
    | _ => exact absurd (show false = true from hs) Bool.false_ne_true
  | _ => cases y <;> exact absurd (show false = true from hs) Bool.false_ne_true

theorem op_lt : OpR X (compareOp .Lt) (rI0 fun i j => .bl (decide (i < j))) := opB0 fun _ _ _ _ _ _ _ q => lt_int q
theorem op_le : OpR X (compareOp .LtE) (rI0 fun i j => .bl (decide (i ≤ j))) := opB0 fun _ _ _ _ _ _ _ q => le_int q
theorem op_gt : OpR X (compareOp .Gt) (rI0 fun i j => .bl (decide (j < i))) := opB0 fun _ _ _ _ _ _ _ q => gt_int q
theorem op_ge : OpR X (compareOp .GtE) (rI0 fun i j => .bl (decide (j ≤ i))) := opB0 fun _ _ _ _ _ _ _ q => ge_int q
theorem op_lt_str : OpR X (compareOp .Lt) (fun x y H Q => ∃ i j, x = .str i ∧ y = .str j ∧ Q (.bl (decide (i.cps.toList < j.cps.toList))) H) := by
  intro pins s σ H x y v u Q I rx ry h
  obtain ⟨i, j, rfl, rfl, q⟩ := h
  obtain ⟨t, rfl⟩ := rx
  obtain ⟨t', rfl⟩ := ry
  exact lt_str (fin_bl I q rfl)
/-- the one string within the other -/
theorem op_in_str : OpR X (compareOp .In) (fun x y H Q => ∃ i j, x = .str i ∧ y = .str j ∧ Q (.bl (!(Builtin.Str.occurrences j i 0 j.length 1).isEmpty)) H) := by
  intro pins s σ H x y v u Q I rx ry h
  obtain ⟨i, j, rfl, rfl, q⟩ := h
  obtain ⟨t, rfl⟩ := rx
  obtain ⟨t', rfl⟩ := ry
  exact in_str (fin_bl I q rfl)

/-- is None, is not None: the right side a value none -/
theorem op_isN : OpR X (compareOp .Is) (fun x y H Q => y = .non ∧ Q (.bl (decide (x = .non))) H) := by
  intro pins s σ H x y v u Q I rx ry h
  obtain ⟨rfl, q⟩ := h
  cases ry
  refine is_none_gen (fin_bl I q ?_)
  cases x <;> first
    | (cases rx; rfl)
    | (obtain ⟨t, rfl⟩ := rx; rfl)
theorem op_notN : OpR X (compareOp .IsNot) (fun x y H Q => y = .non ∧ Q (.bl (!decide (x = .non))) H) := by
  intro pins s σ H x y v u Q I rx ry h
  obtain ⟨rfl, q⟩ := h
  cases ry
  refine isnot_none_gen (fin_bl I q ?_)
  cases x <;> first
    | (cases rx; rfl)
    | (obtain ⟨t, rfl⟩ := rx; rfl)

theorem op_notin_str : OpR X (compareOp .NotIn) (fun x y H Q => ∃ i j, x = .str i ∧ y = .str j ∧ Q (.bl (!(!(Builtin.Str.occurrences j i 0 j.length 1).isEmpty))) H) := by
  intro pins s σ H x y v u Q I rx ry h
  obtain ⟨i, j, rfl, rfl, q⟩ := h
  obtain ⟨t, rfl⟩ := rx
  obtain ⟨t', rfl⟩ := ry
  exact notIn_str (fin_bl I q rfl)
/-- is, is not of two objects that are tracked lists or instances -/
def isObj : HO → Bool
  | .lst _ => true
  | .ins _ _ _ => true
  | _ => false
theorem obj_there {pins : List (Addr × Obj)} {s : Shared} {σ : St} {H : Hp} {a : Addr} {o : HO} (I : Inv X pins σ H s) (h : H a = some o) (p : isObj o = true) : ∃ ob, s.heap.get? a = some ob ∧ ob.cls ≠ .type "tuple" := by
  cases o with
  | lst xs =>
    obtain ⟨_, its, n, _, e⟩ : xs.length ≤ sizeLine ∧ ∃ (its : List Value) (n : Nat), Vals xs its ∧ s.heap.get? a = some { cls := .type "list", data := .seq its.toArray n } := I.hok a _ h
    exact ⟨_, e, (by show Value.type "list" ≠ .type "tuple"; decide +kernel)⟩
  | ins C dx fs =>
    have x := I.hok a _ h
    obtain ⟨_, _, _, e, _⟩ := x
    exact ⟨_, e, (by show Value.ref C ≠ .type "tuple"; exact fun z => by cases z)⟩
  | _ => exact absurd (show false = true from p) Bool.false_ne_true
theorem op_is_ref : OpR X (compareOp .Is) (fun x y H Q => ∃ a b oa ob, x = .ref a ∧ y = .ref b ∧ H a = some oa ∧ isObj oa = true ∧ H b = some ob ∧ isObj ob = true ∧ Q (.bl (decide (a = b))) H) := by
  intro pins s σ H x y v u Q I rx ry h
  obtain ⟨a, b, oa, ob, rfl, rfl, ha, pa, hb, pb, q⟩ := h
  cases rx
  cases ry
  obtain ⟨o1, e1, n1⟩ := obj_there I ha pa
  obtain ⟨o2, e2, _⟩ := obj_there I hb pb
  by_cases z : a = b
  · subst z
    exact wpAny_is_ref_self (fin_bl I q (by simp))
  · exact wpAny_is_ref_other z e1 e2 n1 (fin_bl I q (by simp [z]))
theorem op_isnot_ref : OpR X (compareOp .IsNot) (fun x y H Q => ∃ a b oa ob, x = .ref a ∧ y = .ref b ∧ H a = some oa ∧ isObj oa = true ∧ H b = some ob ∧ isObj ob = true ∧ Q (.bl (!decide (a = b))) H) := by
  intro pins s σ H x y v u Q I rx ry h
  obtain ⟨a, b, oa, ob, rfl, rfl, ha, pa, hb, pb, q⟩ := h
  cases rx
  cases ry
  obtain ⟨o1, e1, n1⟩ := obj_there I ha pa
  obtain ⟨o2, e2, _⟩ := obj_there I hb pb
  by_cases z : a = b
  · subst z
    exact wpAny_isNot_ref_self (fin_bl I q (by simp))
  · exact wpAny_isNot_ref_other z e1 e2 n1 (fin_bl I q (by simp [z]))

/-- two rules for one operation: by cases -/
theorem OpR.or {f : Value → Value → Sem Value} {r r' : R2} (h : OpR X f r) (h' : OpR X f r') : OpR X f (fun x y H Q => r x y H Q ∨ r' x y H Q) := by
  intro pins s σ H x y v u Q I rx ry q
  rcases q with q | q
  · exact h pins s σ H x y v u Q I rx ry q
  · exact h' pins s σ H x y v u Q I rx ry q

theorem nomark (b : Expr) {op : CmpOp} (h : op ≠ .In := by decide) (h2 : op ≠ .NotIn := by decide) : behindInMarks op b = false := by
  have e1 : (op == CmpOp.In) = false := by cases op <;> first | rfl | exact absurd rfl h
  have e2 : (op == CmpOp.NotIn) = false := by cases op <;> first | rfl | exact absurd rfl h2
  cases b <;> simp [behindInMarks, e1, e2]
/-- a comparison as a value; hm: nomark b, or (for in, not in) by with_unfolding_all rfl -/
theorem pe_cmpR {op : CmpOp} {r : R2} (ho : OpR X (compareOp op) r) (ha : PE X a ta) (hb : PE X b tb) (hm : behindInMarks op b = false) : PE X (.Compare a [op] [b] pos) (tOp r ta tb) := by
  intro pins s σ H Q I h
  exact wpAny_Compare1 (binT ha hb I h fun v u s2 x y H2 I2 rx ry q => ho pins s2 σ H2 x y v u Q I2 rx ry q) hm
/-- a reading of a value as a test -/
def tTest (t : TE) : TT := fun σ H Q => t σ H fun x H' => ∃ k, x = .bl k ∧ Q k H'
theorem pt_cmpR {op : CmpOp} {r : R2} (ho : OpR X (compareOp op) r) (ha : PE X a ta) (hb : PE X b tb) (hm : behindInMarks op b = false) : PT X (.Compare a [op] [b] pos) (tTest (tOp r ta tb)) := by
  intro pins s σ H Q I h
  refine wpAny_isTrue_Compare1 (thn (ha pins s σ H _ I h) fun v s1 ⟨x, H1, I1, r1, q1⟩ => thn (hb pins s1 σ H1 _ I1 q1) fun u s2 ⟨y, H2, I2, r2, q2⟩ =>
    thn (ho pins s2 σ H2 x y v u _ I2 r1 r2 q2) fun c s3 ⟨z, H3, I3, r3, k, e, q3⟩ => ?_) hm
  subst e
  cases r3
  exact wpAny_truthy_bool ⟨H3, I3, q3⟩
/-- a op1 b op2 c -/
def tChain (r r' : R2) (ta tb tc : TE) : TE := fun σ H Q => ta σ H fun x H1 => tb σ H1 fun y H2 => r x y H2 fun z H3 => ∃ k, z = .bl k ∧
  (if k = true then tc σ H3 fun w' H4 => r' y w' H4 Q else Q (.bl false) H3)
theorem pe_chain {op op' : CmpOp} {r r' : R2} (ho : OpR X (compareOp op) r) (ho' : OpR X (compareOp op') r') (ha : PE X a ta) (hb : PE X b tb) (hc : PE X c tc)
    (hm : lastMarks [op, op'] [b, c] = false := by with_unfolding_all rfl) : PE X (.Compare a [op, op'] [b, c] pos) (tChain r r' ta tb tc) := by
  intro pins s σ H Q I h
  refine Compare_chain (thn (ha pins s σ H _ I h) fun v s1 ⟨x, H1, I1, r1, q1⟩ => chain_link (thn (hb pins s1 σ H1 _ I1 q1) fun u s2 ⟨y, H2, I2, r2, q2⟩ =>
    thn (ho pins s2 σ H2 x y v u _ I2 r1 r2 q2) fun d s3 ⟨z, H3, I3, r3, k, e, q3⟩ => ?_)) hm
  subst e
  cases r3
  refine wpAny_truthy_bool ?_
  cases k with
  | false => exact ite_ff ⟨.bl false, H3, I3, rfl, q3⟩
  | true => exact ite_tt (chain_last (thn (hc pins s3 σ H3 _ I3 q3) fun w' s4 ⟨z', H4, I4, r4, q4⟩ => ho' pins s4 σ H4 y z' u w' Q I4 r2 r4 q4))
theorem pt_chain {op op' : CmpOp} {r r' : R2} (ho : OpR X (compareOp op) r) (ho' : OpR X (compareOp op') r') (ha : PE X a ta) (hb : PE X b tb) (hc : PE X c tc)
    (hm : lastMarks [op, op'] [b, c] = false := by with_unfolding_all rfl) : PT X (.Compare a [op, op'] [b, c] pos) (tTest (tChain r r' ta tb tc)) := by
  intro pins s σ H Q I h
  refine isTrue_chain (thn (ha pins s σ H _ I h) fun v s1 ⟨x, H1, I1, r1, q1⟩ => test_link (thn (hb pins s1 σ H1 _ I1 q1) fun u s2 ⟨y, H2, I2, r2, q2⟩ =>
    thn (ho pins s2 σ H2 x y v u _ I2 r1 r2 q2) fun d s3 ⟨z, H3, I3, r3, k, e, q3⟩ => ?_)) hm
  subst e
  cases r3
  refine wpAny_truthy_bool ?_
  cases k with
  | false =>
    obtain ⟨k', e', q'⟩ := q3
    cases e'
    exact ite_ff ⟨H3, I3, q'⟩
  | true =>
    refine ite_tt (test_last (thn (hc pins s3 σ H3 _ I3 q3) fun w' s4 ⟨z', H4, I4, r4, q4⟩ => thn (ho' pins s4 σ H4 y z' u w' _ I4 r2 r4 q4) fun d' s5 ⟨z2, H5, I5, r5, k2, e2, q5⟩ => ?_))
    subst e2
    cases r5
    exact wpAny_truthy_bool ⟨H5, I5, q5⟩

/-! ### truth -/
/-- a value's truth by the abstract heap -/
def TruV (K : PySem.W.Frag) (x : V) (H : Hp) (k : Bool) : Prop :=
  match x with
  | .non => k = false
  | .bl b => k = b
  | .int i => k = (i != 0)
  | .str y => y.length ≤ sizeLine ∧ k = ((y.length : Int) != 0)
  | .byt y => y.size ≤ sizeLine ∧ k = ((y.size : Int) != 0)
  | .ref p => (∃ xs, SqL K H p xs ∧ k = !xs.isEmpty) ∨ (∃ xs, SqT K H p xs ∧ k = !xs.isEmpty) ∨ ∃ kvs, H p = some (.dK kvs) ∧ k = !kvs.isEmpty
  | _ => False
theorem isEmpty_kv {κ : Type} {kvs : List (κ × V)} {vs : List (κ × Value)} (r : KV kvs vs) : (!vs.isEmpty) = !kvs.isEmpty := by
  cases r <;> rfl
theorem isEmpty_of {xs : List V} {its : List Value} (r : Vals xs its) : (!its.toArray.isEmpty) = !xs.isEmpty := by
  cases r <;> simp
theorem line63 : (sizeLine : Nat) < 2 ^ 63 := by rw [sizeLine_eq]; decide
theorem tru_ok : TruR X (fun x H Q => ∃ k, TruV X.K x H k ∧ Q k H) := by
  intro pins s σ H x v Q I rx h
  obtain ⟨k, e, q⟩ := h
  have hl := line63
  have hs : sizeLine = 16777216 := sizeLine_eq
  cases x with
  | non =>
    cases rx
    have e' : k = false := e
    subst e'
    exact truthy_none ⟨H, I, q⟩
  | bl b =>
    cases rx
    have e' : k = b := e
    subst e'
    exact wpAny_truthy_bool ⟨H, I, q⟩
  | int i =>
    obtain ⟨t, rfl⟩ := rx
    have e' : k = (i != 0) := e
    subst e'
    exact PySem.P.truthy_int ⟨H, I, q⟩
  | str y =>
    obtain ⟨t, rfl⟩ := rx
    obtain ⟨hy, e'⟩ : y.length ≤ sizeLine ∧ k = ((y.length : Int) != 0) := e
    subst e'
    exact PySem.P.truthy_str (by omega) ⟨H, I.tok _, q⟩
  | byt y =>
    obtain ⟨t, rfl⟩ := rx
    obtain ⟨hy, e'⟩ : y.size ≤ sizeLine ∧ k = ((y.size : Int) != 0) := e
    subst e'
    exact PySem.W.truthy_bytes (by omega) ⟨H, I.tok _, q⟩
  | ref p =>
    cases rx
    have e' : (∃ xs, SqL X.K H p xs ∧ k = !xs.isEmpty) ∨ (∃ xs, SqT X.K H p xs ∧ k = !xs.isEmpty) ∨ ∃ kvs, H p = some (.dK kvs) ∧ k = !kvs.isEmpty := e
    rcases e' with ⟨xs, hx, e'⟩ | ⟨xs, hx, e'⟩ | ⟨kvs, hx, e'⟩
    · subst e'
      obtain ⟨its, r, pl, hz⟩ := I.list hx
      have hlen := r.length
      exact wpAny_truthy_list pl.isList (by simp only [List.size_toArray]; omega) ⟨H, I.tok _, by rw [isEmpty_of r]; exact q⟩
    · subst e'
      obtain ⟨its, r, pl, hz⟩ := I.tuple hx
      have hlen := r.length
      exact truthy_tuple pl (by simp only [List.size_toArray]; omega) ⟨H, I.tok _, by rw [isEmpty_of r]; exact q⟩
    · subst e'
      obtain ⟨hz, hS, vs, r, m⟩ : kvs.length ≤ sizeLine ∧ (p == sysModules) = false ∧ ∃ vs, KV kvs vs ∧ s.heap.DictOf (mixKind X.prog X.w) p vs := I.hok p _ hx
      have hlen : kvs.length = vs.length := Paired.length r
      exact wpAny_truthy_dict hS m (by omega) ⟨H, I.tok _, by rw [isEmpty_kv r]; exact q⟩
  | _ => exact (show False from e).elim
/-- any expression whose test is its value's truth (a name, a call, a subscript, a field ..: he by fun _ => rfl) -/
theorem pt_truth (ha : PE X a ta) (he : ∀ whole, isTrue a X.env whole = (do let v ← whole; standAt a.pos; holding [v] (truthy v))) :
    PT X a (fun σ H Q => ta σ H fun x H' => ∃ k, TruV X.K x H' k ∧ Q k H') := by
  intro pins s σ H Q I h
  exact isTrue_plain (thn (ha pins s σ H _ I h) fun v s1 ⟨x, H1, I1, r1, q1⟩ => tru_ok pins s1 σ H1 x v Q I1 r1 q1) (he _)

/-! ### strs and bytes -/
theorem pe_byt {x : List UInt8} {k : Nat} : PE X (.Constant (.bytes x) k pos) (fun _ H Q => Q (.byt x.toArray) H) := fun _ _ _ H _ I h => PySem.W.Constant_bytes ⟨.byt x.toArray, H, I.tok _, ⟨_, rfl⟩, h⟩
theorem op_add_str : OpR X (binaryOp .Add) (fun x y H Q => ∃ i j, x = .str i ∧ y = .str j ∧ i.length + j.length ≤ sizeLine ∧ Q (.str (i ++ j)) H) := by
  intro pins s σ H x y v u Q I rx ry h
  obtain ⟨i, j, rfl, rfl, hz, q⟩ := h
  obtain ⟨t, rfl⟩ := rx
  obtain ⟨t', rfl⟩ := ry
  exact add_str (fun t' tk => ⟨.str (i ++ j), H, I.tok _, ⟨_, rfl⟩, q⟩) hz
theorem iop_add_str : OpR X (inplaceOp .Add) (fun x y H Q => ∃ i j, x = .str i ∧ y = .str j ∧ i.length + j.length ≤ sizeLine ∧ Q (.str (i ++ j)) H) := by
  intro pins s σ H x y v u Q I rx ry h
  obtain ⟨i, j, rfl, rfl, hz, q⟩ := h
  obtain ⟨t, rfl⟩ := rx
  obtain ⟨t', rfl⟩ := ry
  exact iadd_str (fun t' tk => ⟨.str (i ++ j), H, I.tok _, ⟨_, rfl⟩, q⟩) hz
theorem op_add_byt : OpR X (binaryOp .Add) (fun x y H Q => ∃ i j, x = .byt i ∧ y = .byt j ∧ i.size + j.size ≤ 16777216 ∧ Q (.byt (i ++ j)) H) := by
  intro pins s σ H x y v u Q I rx ry h
  obtain ⟨i, j, rfl, rfl, hz, q⟩ := h
  obtain ⟨t, rfl⟩ := rx
  obtain ⟨t', rfl⟩ := ry
  exact PySem.W.KBy.add_bytes hz (fun t' tk => ⟨.byt (i ++ j), H, I.tok _, ⟨_, rfl⟩, q⟩)

def PlainIxT (b : Expr) : Prop := ∀ o i, subscripted b false o i = operate [o, i] (getItem o i)
/-- s[i], 0 ≤ i < len -/
theorem pe_item_str (ha : PE X a ta) (hb : PE X b tb) (hs : PlainIxT b) :
    PE X (.Subscript a b pos) (tOp (fun x y H Q => ∃ z i c, x = .str z ∧ y = .int i ∧ 0 ≤ i ∧ i < 2 ^ 63 ∧ i < z.length ∧ z.cps[i.toNat]? = some c ∧ Q (.str ⟨#[c]⟩) H) ta tb) := by
  intro pins s σ H Q I h
  refine Subscript_ (binT ha hb I h fun v u s2 x y H2 I2 rx ry q => ?_)
  obtain ⟨z, i, c, rfl, rfl, h0, h63, h1, hc, q⟩ := q
  obtain ⟨t, rfl⟩ := rx
  obtain ⟨t', rfl⟩ := ry
  have e : seqIndex? i z.length = some i.toNat := PySem.StrLaws.seqIndex_nonneg h0 h1
  exact tail_any (typeIs_str s2 z t) slot_str_getitem.lookup (getItem_str (c := c) (by
    have e1 : decide (i < -(2 ^ 63 : Int)) = false := decide_eq_false (by omega)
    have e2 : decide (i ≥ 2 ^ 63) = false := decide_eq_false (by omega)
    rw [e1, e2] <;> rfl) (by rw [e]; exact hc) ⟨.str ⟨#[c]⟩, H2, I2.tok _, ⟨_, rfl⟩, q⟩) (hs _ _)
/-- b[i], 0 ≤ i < len -/
theorem pe_item_byt (ha : PE X a ta) (hb : PE X b tb) (hs : PlainIxT b) :
    PE X (.Subscript a b pos) (tOp (fun x y H Q => ∃ (z : List UInt8) (i : Int), x = .byt z.toArray ∧ y = .int i ∧ z.length ≤ sizeLine ∧ 0 ≤ i ∧ i < z.length ∧ Q (.int ((z.getD i.toNat 0).toNat : Nat)) H) ta tb) := by
  intro pins s σ H Q I h
  refine Subscript_ (binT ha hb I h fun v u s2 x y H2 I2 rx ry q => ?_)
  obtain ⟨z, i, rfl, rfl, hz, h0, h1, q⟩ := q
  obtain ⟨t, rfl⟩ := rx
  obtain ⟨t', rfl⟩ := ry
  have hl : sizeLine = 16777216 := sizeLine_eq
  exact tail_any (PySem.W.typeIs_bytes s2 z.toArray t) PySem.W.FB.slot_bytes_getitem.lookup (PySem.W.getItem_bytes (by omega) h0 h1 ⟨.int ((z.getD i.toNat 0).toNat : Nat), H2, I2.tok _, ⟨_, rfl⟩, q⟩) (hs _ _)

/-! ### scalar builtins, by CallR -/
theorem vals1 {x : V} {us : List Value} (r : Vals [x] us) : ∃ u, us = [u] ∧ RelV x u := by
  cases r with
  | cons r1 r2 => cases r2; exact ⟨_, rfl, r1⟩
theorem vals2 {x y : V} {us : List Value} (r : Vals [x, y] us) : ∃ u w', us = [u, w'] ∧ RelV x u ∧ RelV y w' := by
  cases r with
  | cons r1 r2 =>
    cases r2 with
    | cons r3 r4 => cases r4; exact ⟨_, _, rfl, r1, r3⟩
theorem call_abs : CallR X (.builtin "abs") (fun xs H Q => ∃ i, xs = [.int i] ∧ Q (.int (if i < 0 then -i else i)) H) := by
  intro pins s σ H xs us Q I r h
  obtain ⟨i, rfl, q⟩ := h
  obtain ⟨u, rfl, t, rfl⟩ := vals1 r
  exact call_abs_int fun u tk => ⟨.int (if i < 0 then -i else i), H, I.tok _, ⟨_, rfl⟩, q⟩
theorem call_max2 (hc : X.calm = true) : CallR X (.builtin "max") (fun xs H Q => ∃ i j, xs = [.int i, .int j] ∧ Q (.int (if j > i then j else i)) H) := by
  intro pins s σ H xs us Q I r h
  obtain ⟨i, j, rfl, q⟩ := h
  obtain ⟨u, w', rfl, ⟨t, rfl⟩, ⟨t', rfl⟩⟩ := vals2 r
  refine max_two_ints (I.ok.hd hc) fun h' tk k => ⟨_, H, I.kept k, ?_, q⟩
  by_cases hj : j > i
  · rw [if_pos hj, if_pos hj]; exact ⟨_, rfl⟩
  · rw [if_neg hj, if_neg hj]; exact ⟨_, rfl⟩
theorem call_min2 (hc : X.calm = true) : CallR X (.builtin "min") (fun xs H Q => ∃ i j, xs = [.int i, .int j] ∧ Q (.int (if j < i then j else i)) H) := by
  intro pins s σ H xs us Q I r h
  obtain ⟨i, j, rfl, q⟩ := h
  obtain ⟨u, w', rfl, ⟨t, rfl⟩, ⟨t', rfl⟩⟩ := vals2 r
  refine min_two_ints (I.ok.hd hc) fun h' tk k => ⟨_, H, I.kept k, ?_, q⟩
  by_cases hj : j < i
  · rw [if_pos hj, if_pos hj]; exact ⟨_, rfl⟩
  · rw [if_neg hj, if_neg hj]; exact ⟨_, rfl⟩
theorem call_int1 : CallR X (.type "int") (fun xs H Q => (∃ i, xs = [.int i] ∧ Q (.int i) H) ∨ ∃ k, xs = [.bl k] ∧ Q (.int (if k then 1 else 0)) H) := by
  intro pins s σ H xs us Q I r h
  rcases h with ⟨i, rfl, q⟩ | ⟨k, rfl, q⟩
  · obtain ⟨u, rfl, t, rfl⟩ := vals1 r
    exact call_int_int ⟨.int i, H, I, ⟨_, rfl⟩, q⟩
  · obtain ⟨u, rfl, r1⟩ := vals1 r
    cases r1
    exact call_int_bool ⟨.int (if k then 1 else 0), H, I.tok _, ⟨_, rfl⟩, q⟩
theorem call_bool1 : CallR X (.type "bool") (fun xs H Q => (∃ i, xs = [.int i] ∧ Q (.bl (i != 0)) H) ∨ ∃ k, xs = [.bl k] ∧ Q (.bl k) H) := by
  intro pins s σ H xs us Q I r h
  rcases h with ⟨i, rfl, q⟩ | ⟨k, rfl, q⟩
  · obtain ⟨u, rfl, t, rfl⟩ := vals1 r
    exact call_bool_int ⟨.bl (i != 0), H, I, rfl, q⟩
  · obtain ⟨u, rfl, r1⟩ := vals1 r
    cases r1
    exact call_bool_bool ⟨.bl k, H, I, rfl, q⟩
theorem call_str_int : CallR X (.type "str") (fun xs H Q => ∃ i, xs = [.int i] ∧ i.natAbs.log2 < 1920 ∧ Q (.str (toString i)) H) := by
  intro pins s σ H xs us Q I r h
  obtain ⟨i, rfl, hz, q⟩ := h
  obtain ⟨u, rfl, t, rfl⟩ := vals1 r
  exact PySem.P.str_of_int hz ⟨.str _, H, I.tok _, ⟨_, rfl⟩, q⟩
theorem call_ord : CallR X (.builtin "ord") (fun xs H Q => ∃ x, xs = [.str x] ∧ x.length = 1 ∧ Q (.int (x.cps.getD 0 0 : Nat)) H) := by
  intro pins s σ H xs us Q I r h
  obtain ⟨x, rfl, hz, q⟩ := h
  obtain ⟨u, rfl, t, rfl⟩ := vals1 r
  exact ord_of_one hz ⟨.int _, H, I.tok _, ⟨_, rfl⟩, q⟩
theorem call_chr : CallR X (.builtin "chr") (fun xs H Q => ∃ i, xs = [.int i] ∧ 0 ≤ i ∧ i ≤ 1114111 ∧ Q (.str ⟨#[i.toNat]⟩) H) := by
  intro pins s σ H xs us Q I r h
  obtain ⟨i, rfl, h0, h1, q⟩ := h
  obtain ⟨u, rfl, t, rfl⟩ := vals1 r
  exact chr_of_range h0 h1 ⟨.str _, H, I.tok _, ⟨_, rfl⟩, q⟩
/-- len of a str, a bytes, a list, a tuple -/
def LenV (K : PySem.W.Frag) (x : V) (H : Hp) (n : Nat) : Prop :=
  match x with
  | .str y => y.length ≤ sizeLine ∧ n = y.length
  | .byt y => y.size ≤ sizeLine ∧ n = y.size
  | .ref p => (∃ xs, SqL K H p xs ∧ n = xs.length) ∨ ∃ xs, SqT K H p xs ∧ n = xs.length
  | _ => False
theorem call_len : CallR X (.builtin "len") (fun xs H Q => ∃ x n, xs = [x] ∧ LenV X.K x H n ∧ Q (.int n) H) := by
  intro pins s σ H xs us Q I r h
  obtain ⟨x, n, rfl, e, q⟩ := h
  obtain ⟨u, rfl, rx⟩ := vals1 r
  have hl := line63
  have hs : sizeLine = 16777216 := sizeLine_eq
  cases x with
  | str y =>
    obtain ⟨t, rfl⟩ := rx
    obtain ⟨hy, e'⟩ : y.length ≤ sizeLine ∧ n = y.length := e
    subst e'
    exact len_str (by omega) ⟨.int _, H, I.tok _, ⟨_, rfl⟩, q⟩
  | byt y =>
    obtain ⟨t, rfl⟩ := rx
    obtain ⟨hy, e'⟩ : y.size ≤ sizeLine ∧ n = y.size := e
    subst e'
    exact PySem.W.len_bytes (by omega) ⟨.int _, H, I.tok _, ⟨_, rfl⟩, q⟩
  | ref p =>
    cases rx
    have e' : (∃ xs, SqL X.K H p xs ∧ n = xs.length) ∨ ∃ xs, SqT X.K H p xs ∧ n = xs.length := e
    rcases e' with ⟨xs, hx, e'⟩ | ⟨xs, hx, e'⟩
    · subst e'
      obtain ⟨its, r', pl, hz⟩ := I.list hx
      have hlen := r'.length
      exact Calls.call_len_list pl.isList (by simp only [List.size_toArray]; omega) ⟨.int xs.length, H, I.tok _, ⟨_, by simp only [List.size_toArray]; rw [hlen]⟩, q⟩
    · subst e'
      obtain ⟨its, r', pl, hz⟩ := I.tuple hx
      have hlen := r'.length
      exact len_tuple pl (by simp only [List.size_toArray]; omega) ⟨.int xs.length, H, I.tok _, ⟨_, by simp only [List.size_toArray]; rw [hlen]⟩, q⟩
  | _ => exact (show False from e).elim
/-- divmod: a new tuple -/
theorem call_divmod : CallR X (.builtin "divmod") (fun xs H Q => ∃ i j, xs = [.int i, .int j] ∧ CDiv i j ∧ ∀ p, H p = none → Q (.ref p) (upd H p (.tup [.int (i / j), .int (i % j)]))) := by
  intro pins s σ H xs us Q I r h
  obtain ⟨i, j, rfl, ⟨h1, h2⟩, q⟩ := h
  obtain ⟨u, w', rfl, ⟨t, rfl⟩, ⟨t', rfl⟩⟩ := vals2 r
  refine divmod_int (by omega) ?_ (.inl (PyProof.noPylong_small (by omega)))
  rw [Int.fdiv_eq_ediv_of_nonneg i (by omega), Int.fmod_eq_emod_of_nonneg i (by omega)]
  have hn : H s.heap.objs.size = none := I.hok.fresh (Nat.le_refl _)
  refine ⟨.ref s.heap.objs.size, _, ?_, rfl, q _ hn⟩
  refine I.laid (fun b o e => Heap.get?_push_of_some _ e) (Nat.le_refl _) ⟨by simp only [List.length_cons, List.length_nil]; rw [sizeLine_eq]; decide, [.int (i / j) s.toks, .int (i % j) (s.toks + 1)], .cons ⟨_, rfl⟩ (.cons ⟨_, rfl⟩ .nil), ?_⟩
  exact ⟨_, Heap.get?_push_size s.heap rfl, rfl, 0, rfl⟩
end
end L2

namespace L2
open PySem PySem.Spec PyProof.Rows

/-! ### an instance, its attributes a map -/
structure ObjM (h : Heap) (x dx C : Addr) (mA : Str → Option Value) : Prop where
  obj : h.get? x = some (PySem.W.instObj C dx)
  ns : h.Ns1 dx mA
  ne : dx ≠ x

theorem lookIn_ns {h : Heap} {dx : Addr} {mA : Str → Option Value} (n : h.Ns1 dx mA) : ∃ od, h.get? dx = some od ∧ ∀ name, PySem.W.lookIn name od = some (mA name) := by
  obtain ⟨o, es, ep, ho, hd, hk, _, hm⟩ := n
  refine ⟨o, ho, fun name => ?_⟩
  have e := hm name
  unfold nsFind findBy at e
  rw [← Array.find?_toList] at e
  unfold PySem.W.lookIn
  rw [hd]
  dsimp only
  split
  · rename_i y q
    rw [q] at e
    exact congrArg some e
  · rename_i q
    rw [q] at e
    have a : es.toList.any (·.refKey) = false := by
      rw [List.any_eq_false]
      intro y hy
      obtain ⟨z, t, hkey⟩ := hk y (Array.mem_toList_iff.mp hy)
      simp [DictEntry.refKey, hkey]
    have a' : ¬ es.toList.any (·.refKey) = true := by rw [a]; exact Bool.false_ne_true
    rw [if_neg a']
    exact congrArg some e

theorem ObjM.look {h : Heap} {x dx C : Addr} {mA : Str → Option Value} (I : ObjM h x dx C mA) : ∃ od, PySem.W.InstAt h x (PySem.W.instObj C dx) C (some od) ∧ ∀ name, PySem.W.lookIn name od = some (mA name) :=
  let ⟨od, ho, hl⟩ := lookIn_ns I.ns
  ⟨od, ⟨I.obj, rfl, rfl, ho⟩, hl⟩

section
variable {prog : Program} {w : World} {A : Around} {E : Value → Shared → Prop} {s : Shared} {K : PySem.W.Frag} {x dx C f : Addr} {mA : Str → Option Value} {name : Str} {v : Value}

theorem get_map {expr : Bool} {Q : Value → Shared → Prop} (X : K.In s.heap) (I : ObjM s.heap x dx C mA) (hg : PySem.W.plainGet K C name = true) (hh : PySem.W.hasDictIn K C = true)
    (ha : PySem.W.findIn K (.ref C) name = some none) (hv : mA name = some v) (hv' : PySem.W.handedIn v = true) (h : Q v { s with toks := s.toks + 1 }) :
    wpAny (model prog w) A (getAttr (.ref x) name expr) Q E s := by
  obtain ⟨od, J, hl⟩ := I.look
  exact PySem.W.get_value X J (PySem.W.plainGet_of hg).1 (PySem.W.findObj_own hh ha rfl (by rw [hl, hv])) hv' h

theorem get_const {expr : Bool} {a : Value} {Q : Value → Shared → Prop} (X : K.In s.heap) (I : ObjM s.heap x dx C mA) (hg : PySem.W.plainGet K C name = true) (hh : PySem.W.hasDictIn K C = true)
    (ha : PySem.W.findIn K (.ref C) name = some (some a)) (hn : PySem.W.specialIn K a "__get__" = some none) (hc : PySem.W.copiedNames.contains name = false) (hv : mA name = none) (hv' : PySem.W.handedIn a = true)
    (h : Q a { s with toks := s.toks + 1 }) : wpAny (model prog w) A (getAttr (.ref x) name expr) Q E s := by
  obtain ⟨od, J, hl⟩ := I.look
  exact PySem.W.get_value X J (PySem.W.plainGet_of hg).1 (PySem.W.findObj_cls hh ha hn hv' hc (by rw [hl, hv])) hv' h

theorem get_meth {pl : Sem Bool} {Q : Value × List Value → Shared → Prop} (X : K.In s.heap) (I : ObjM s.heap x dx C mA) (hg : PySem.W.plainGet K C name = true)
    (hf : PySem.W.findIn K (.ref C) name = some (some (.ref f))) (ht : PySem.W.isFn K (.ref f) = true) (hv : mA name = none) (h : Q (.ref f, [.ref x]) s) :
    wpAny (model prog w) A (getMethod (.ref x) name pl) Q E s := by
  obtain ⟨od, J, hl⟩ := I.look
  exact PySem.W.method_fn X J (PySem.W.plainGet_of hg).1 (PySem.W.plainGet_of hg).2 hf (beq_iff_eq.mp ht) (by show (PySem.W.lookIn name od).map (·.isSome) = some false; rw [hl, hv]; rfl) h

theorem set_map {ns : List Str} {Q : Unit → Shared → Prop} (X : K.In s.heap) (I : ObjM s.heap x dx C mA)
    (hs : PySem.W.findIn K (.ref C) "__setattr__" = some (some (.builtin "object.__setattr__"))) (hp : PySem.W.plainOver K C = true) (ht : PySem.W.takerIn K C name = some none) (hh : PySem.W.hasDictIn K C = true)
    (hw : PySem.Within mA ns) (hsz : ns.length ≤ sizeLine)
    (h : ∀ h', ObjM h' x dx C (fun y => if y = name then some v else mA y) → Heap.SameBut dx s.heap h' → Q () { s with heap := h', toks := s.toks + 2 }) :
    wpAny (model prog w) A (setAttr (.ref x) name v) Q E s := by
  obtain ⟨od, J, hl⟩ := I.look
  refine PySem.W.set_plain X J hs (PySem.W.osa_open (s := { s with toks := s.toks + 1 }) (r := none) X J hp ht fun b => ?_)
  obtain ⟨cd, hc, hd'⟩ := PySem.W.any_some hh
  have hx : s.heap.get? x = some ⟨.ref C, some dx, .plain, #[]⟩ := I.obj
  refine wpAny_bind (wpAny_pure (wpAny_bind (wpAny_bind (wpAny_loadPart hx (wpAny_bind (PySem.W.Looks.here (s := { s with toks := s.toks + 1 }) (PySem.W.looks_clsIn X hc) ?_))))))
  rw [hd']
  refine wpAny_pure (a := some dx) (wpAny_bind (wpAny_pure (wpAny_bind ?_)))
  refine wpAny_nsSet1 (s := { s with toks := s.toks + 1 }) I.ns fun h' hn2 hs2 => ?_
  obtain ⟨oD, esD, epD, hoD, hdD, hcD⟩ := hn2.count (PySem.Within.cons name v hw)
  refine wpAny_bind (wpAny_lookBehind hoD (by rw [hdD]; exact pastItsLine_dict (Nat.le_trans hcD (by rw [List.length_cons]; omega))) ?_)
  exact wpAny_pure (h _ ⟨(hs2.2 _ (Ne.symm I.ne)).trans I.obj, hn2, I.ne⟩ hs2)

/-- C(..): the dict at the heap's end, the instance behind it; then its __init__ -/
theorem make_map {R : Result → Shared → Prop} {vs : List Value} {kw : List (Str × Value)} (X : K.In s.heap) (hm : PySem.W.makesIn K C = true)
    (hi : PySem.W.findIn K (.ref C) "__init__" = some (some (.ref f))) (hf : PySem.W.typeIn K (.ref f) = some (.type "function"))
    (h : codeAny (model prog w) (A.under (.builtin "type.__call__" ⟨.ref C :: vs, kw⟩)) (.call (.ref f) ⟨.ref (s.heap.objs.size + 1) :: vs, kw⟩) (PySem.W.InitBack (s.heap.objs.size + 1) R)
      { s with heap := (s.heap.push PySem.W.emptyDict).push (PySem.W.instObj C s.heap.objs.size) }) :
    codeAny (model prog w) A (.call (.ref C) ⟨vs, kw⟩) R s := by
  obtain ⟨hh, g, d, t, os⟩ := s
  exact PySem.W.make_core (PySem.W.makes_of X hm) (PySem.W.looks_findIn X hi) (fun self => PySem.W.bind_fn X self hf) (.inl rfl) h
/-- C() where there is no __init__ but object's -/
theorem make_map0 {R : Result → Shared → Prop} (X : K.In s.heap) (hm : PySem.W.makesIn K C = true)
    (hi : PySem.W.findIn K (.ref C) "__init__" = some (some (.builtin "object.__init__")))
    (hb : ∀ self, PySem.W.Looks (model prog w) s.heap (bindSpecial (.builtin "object.__init__") self) (.builtin "object.__init__", [self]))
    (h : codeAny (model prog w) (A.under (.builtin "type.__call__" ⟨[.ref C], []⟩)) (.call (.builtin "object.__init__") ⟨[.ref (s.heap.objs.size + 1)], []⟩) (PySem.W.InitBack (s.heap.objs.size + 1) R)
      { s with heap := (s.heap.push PySem.W.emptyDict).push (PySem.W.instObj C s.heap.objs.size) }) :
    codeAny (model prog w) A (.call (.ref C) ⟨[], []⟩) R s := by
  obtain ⟨hh, g, d, t, os⟩ := s
  exact PySem.W.make_core (PySem.W.makes_of X hm) (PySem.W.looks_findIn X hi) hb (.inr ⟨rfl, rfl⟩) h
end

/-! ### the attributes as a list of pairs -/
def putF (f : Str) (v : V) : List (Str × V) → List (Str × V)
  | [] => [(f, v)]
  | (g, x) :: r => if g = f then (g, v) :: r else (g, x) :: putF f v r
theorem lookup_putF (f g : Str) (v : V) : ∀ fs : List (Str × V), (putF f v fs).lookup g = if g = f then some v else fs.lookup g
  | [] => by
    show List.lookup g [(f, v)] = _
    by_cases h : g = f
    · have hb : (g == f) = true := beq_iff_eq.mpr h
      simp only [List.lookup, hb, if_pos h]
    · have hb : (g == f) = false := beq_eq_false_iff_ne.mpr h
      simp only [List.lookup, hb, if_neg h]
  | (k, x) :: r => by
    have ih := lookup_putF f g v r
    rw [show putF f v ((k, x) :: r) = (if k = f then (k, v) :: r else (k, x) :: putF f v r) from rfl]
    by_cases hk : k = f
    · rw [if_pos hk]
      by_cases h : g = k
      · have hb : (g == k) = true := beq_iff_eq.mpr h
        simp only [List.lookup, hb, if_pos (h.trans hk)]
      · have hb : (g == k) = false := beq_eq_false_iff_ne.mpr h
        simp only [List.lookup, hb, if_neg (fun e : g = f => h (e.trans hk.symm))]
    · rw [if_neg hk]
      by_cases h : g = k
      · have hb : (g == k) = true := beq_iff_eq.mpr h
        simp only [List.lookup, hb, if_neg (fun e : g = f => hk (h.symm.trans e))]
      · have hb : (g == k) = false := beq_eq_false_iff_ne.mpr h
        simp only [List.lookup, hb]
        exact ih
theorem keys_putF (f : Str) (v : V) : ∀ fs : List (Str × V), f ∈ (putF f v fs).map (·.1) ∧ ∀ g, g ∈ fs.map (·.1) → g ∈ (putF f v fs).map (·.1)
  | [] => ⟨by simp [putF], fun g h => by simp at h⟩
  | (k, x) :: r => by
    obtain ⟨i1, i2⟩ := keys_putF f v r
    rw [show putF f v ((k, x) :: r) = (if k = f then (k, v) :: r else (k, x) :: putF f v r) from rfl]
    by_cases hk : k = f
    · rw [if_pos hk]
      subst hk
      exact ⟨by simp, fun g h => by simpa using h⟩
    · rw [if_neg hk]
      refine ⟨?_, fun g h => ?_⟩
      · rw [List.map_cons]
        exact List.mem_cons_of_mem _ i1
      · rw [List.map_cons] at h ⊢
        rcases List.mem_cons.mp h with e | e
        · exact List.mem_cons.mpr (.inl e)
        · exact List.mem_cons_of_mem _ (i2 g e)
theorem length_putF (f : Str) (v : V) : ∀ fs : List (Str × V), (putF f v fs).length ≤ fs.length + 1
  | [] => by simp [putF]
  | (k, x) :: r => by
    have ih := length_putF f v r
    rw [show putF f v ((k, x) :: r) = (if k = f then (k, v) :: r else (k, x) :: putF f v r) from rfl]
    by_cases hk : k = f
    · rw [if_pos hk, List.length_cons, List.length_cons]; omega
    · rw [if_neg hk, List.length_cons, List.length_cons]; omega

theorem RelO.some_of {v : V} {o : Option Value} (r : RelO (some v) o) : ∃ u, o = some u ∧ RelV v u := by
  cases o with
  | none => exact (show False from r).elim
  | some u => exact ⟨u, rfl, r⟩
theorem RelO.none_of {o : Option Value} (r : RelO none o) : o = none := by
  cases o with
  | none => rfl
  | some u => exact (show False from r).elim
theorem handed_of {v : V} {u : Value} (r : RelV v u) : PySem.W.handedIn u = true := by
  cases v with
  | non => cases (show u = Value.none from r); rfl
  | bl b => cases (show u = Value.bool b from r); rfl
  | int i => obtain ⟨t, e⟩ := (show ∃ t, u = Value.int i t from r); cases e; rfl
  | str x => obtain ⟨t, e⟩ := (show ∃ t, u = Value.str x t from r); cases e; rfl
  | byt b => obtain ⟨t, e⟩ := (show ∃ t, u = Value.bytes b t from r); cases e; rfl
  | flt b => obtain ⟨t, e⟩ := (show ∃ t, u = Value.float b t from r); cases e; rfl
  | ref a => cases (show u = Value.ref a from r); rfl
  | ty n => cases (show u = Value.type n from r); rfl

section
variable {P : Program} {w : World} {H H' : Hp} {h h' : Heap} {a C dx : Addr} {fs fs' : List (Str × V)}
theorem ins_get (hok : HOk P w H h) (e : H a = some (.ins C dx fs)) : ∃ mA, ObjM h a dx C mA ∧ (∀ f, RelO (fs.lookup f) (mA f)) ∧ PySem.Within mA (fs.map (·.1)) ∧ fs.length ≤ 1000 ∧ H dx = some (.own a) := by
  obtain ⟨d, z, ne, ob, mA, n, r, q⟩ := (show ObjOk P w H h a (.ins C dx fs) from hok a _ e)
  exact ⟨mA, ⟨ob, n, ne⟩, r, q, z, d⟩
end

/-! ### what of the text a class must have -/
structure Cls (K : PySem.W.Frag) (C : Addr) : Prop where
  pg : PySem.W.plainGet K C Str.empty = true
  hd : PySem.W.hasDictIn K C = true
  po : PySem.W.plainOver K C = true
  sa : PySem.W.findIn K (.ref C) "__setattr__" = some (some (.builtin "object.__setattr__"))
theorem Cls.get {K : PySem.W.Frag} {C : Addr} (c : Cls K C) (f : Str) : PySem.W.plainGet K C f = true := c.pg
/-- no class of it has the name -/
def NoAttr (K : PySem.W.Frag) (C : Addr) (f : Str) : Prop := PySem.W.findIn K (.ref C) f = some none
theorem NoAttr.taker {K : PySem.W.Frag} {C : Addr} {f : Str} (n : NoAttr K C f) : PySem.W.takerIn K C f = some none := by
  unfold PySem.W.takerIn
  rw [show PySem.W.findIn K (.ref C) f = some none from n]
  rfl
/-- a constant of the class -/
structure Con (K : PySem.W.Frag) (C : Addr) (f : Str) (v : V) (u : Value) : Prop where
  at_ : PySem.W.findIn K (.ref C) f = some (some u)
  rel : RelV v u
  get : PySem.W.specialIn K u "__get__" = some none
  cp : PySem.W.copiedNames.contains f = false
/-- a method: a plain def of the class or of one above it -/
structure Meth (K : PySem.W.Frag) (C : Addr) (m : Str) (f : Addr) : Prop where
  at_ : PySem.W.findIn K (.ref C) m = some (some (.ref f))
  fn : PySem.W.isFn K (.ref f) = true
  kp : PySem.W.keepIn K (.ref f) = true

section
variable {X : Cx} {pins : List (Addr × Obj)} {σ : St} {H : Hp} {s : Shared} {a C dx : Addr} {fs : List (Str × V)} {f : Str} {v : V} {A : Around} {E : Value → Shared → Prop}

theorem getattr_ok {b : Bool} {Q : Value → Shared → Prop} (I : Inv X pins σ H s) (e : H a = some (.ins C dx fs)) (c : Cls X.K C) (n : NoAttr X.K C f) (l : fs.lookup f = some v)
    (h : ∀ u s', Inv X pins σ H s' → RelV v u → Q u s') : wpAny (model X.prog X.w) A (getAttr (.ref a) f b) Q E s := by
  obtain ⟨mA, O, r, _, _, _⟩ := ins_get I.hok e
  obtain ⟨u, hu, ru⟩ := RelO.some_of (v := v) (o := mA f) (by rw [← l]; exact r f)
  exact get_map I.kIn O (c.get f) c.hd n hu (handed_of ru) (h u _ (I.tok _) ru)

theorem getcon_ok {b : Bool} {u : Value} {Q : Value → Shared → Prop} (I : Inv X pins σ H s) (e : H a = some (.ins C dx fs)) (c : Cls X.K C) (k : Con X.K C f v u) (l : fs.lookup f = none)
    (h : ∀ s', Inv X pins σ H s' → Q u s') : wpAny (model X.prog X.w) A (getAttr (.ref a) f b) Q E s := by
  obtain ⟨mA, O, r, _, _, _⟩ := ins_get I.hok e
  have hn : mA f = none := RelO.none_of (by rw [← l]; exact r f)
  exact get_const I.kIn O (c.get f) c.hd k.at_ k.get k.cp hn (handed_of k.rel) (h _ (I.tok _))

theorem getmeth_ok {m : Str} {g : Addr} {pl : Sem Bool} {Q : Value × List Value → Shared → Prop} (I : Inv X pins σ H s) (e : H a = some (.ins C dx fs)) (c : Cls X.K C) (k : Meth X.K C m g) (l : fs.lookup m = none)
    (h : Q (.ref g, [.ref a]) s) : wpAny (model X.prog X.w) A (getMethod (.ref a) m pl) Q E s := by
  obtain ⟨mA, O, r, _, _, _⟩ := ins_get I.hok e
  have hn : mA m = none := RelO.none_of (by rw [← l]; exact r m)
  exact get_meth I.kIn O (c.get m) k.at_ k.fn hn h

theorem setattr_ok {y : V} {u : Value} {Q : Unit → Shared → Prop} (I : Inv X pins σ H s) (e : H a = some (.ins C dx fs)) (c : Cls X.K C) (n : NoAttr X.K C f) (hl : fs.length < 1000) (ry : RelV y u)
    (h : ∀ s', Inv X pins σ (upd H a (.ins C dx (putF f y fs))) s' → Q () s') : wpAny (model X.prog X.w) A (setAttr (.ref a) f u) Q E s := by
  obtain ⟨mA, O, r, wi, _, ho⟩ := ins_get I.hok e
  have hz : (fs.map (·.1)).length ≤ sizeLine := by rw [List.length_map, sizeLine_eq]; omega
  refine set_map I.kIn O c.sa c.po n.taker c.hd wi hz fun h' O' sb => h _ ?_
  have hd : ∃ o, h'.get? dx = some o := let ⟨o, _, _, e', _⟩ := O'.ns; ⟨o, e'⟩
  refine I.write (x := a) (e := dx) (by rw [e]; exact True.intro) (.inr ho) (fun b q hb z => (sb.2 b hb).trans z) hd ?_
  refine ⟨by rw [upd_ne O.ne]; exact ho, ?_, O.ne, O'.obj, _, O'.ns, fun g => ?_, fun g hg => ?_⟩
  · have := length_putF f y fs; omega
  · show RelO ((putF f y fs).lookup g) (if g = f then some u else mA g)
    rw [lookup_putF]
    by_cases q : g = f
    · rw [if_pos q, if_pos q]; exact ry
    · rw [if_neg q, if_neg q]; exact r g
  · by_cases q : g = f
    · rw [q]; exact (keys_putF f y fs).1
    · refine (keys_putF f y fs).2 g (wi g fun z => hg ?_)
      show (if g = f then some u else mA g) = none
      rw [if_neg q]; exact z

/-- a new instance, tracked, without attributes -/
theorem Inv.made (I : Inv X pins σ H s) : Inv X pins σ (upd (upd H s.heap.objs.size (.own (s.heap.objs.size + 1))) (s.heap.objs.size + 1) (.ins C s.heap.objs.size []))
    { s with heap := (s.heap.push PySem.W.emptyDict).push (PySem.W.instObj C s.heap.objs.size) } := by
  have e1 : (s.heap.push PySem.W.emptyDict).get? s.heap.objs.size = some PySem.W.emptyDict := Heap.get?_push_size s.heap rfl
  have e2 : ((s.heap.push PySem.W.emptyDict).push (PySem.W.instObj C s.heap.objs.size)).get? (s.heap.objs.size + 1) = some (PySem.W.instObj C s.heap.objs.size) := by
    have := Heap.get?_push_size (s.heap.push PySem.W.emptyDict) (o := PySem.W.instObj C s.heap.objs.size) rfl
    rwa [Heap.size_push] at this
  have e3 : (s.heap.push PySem.W.emptyDict).Ns s.heap.objs.size (fun _ => none) := ⟨PySem.W.emptyDict, #[], _, e1, rfl, (fun e he => absurd he (by simp)), fun _ => rfl⟩
  have I1 := I.laid (a := s.heap.objs.size) (o := .own (s.heap.objs.size + 1)) (h' := s.heap.push PySem.W.emptyDict) (t' := s.toks) (fun b u q => Heap.get?_push_of_some _ q) (Nat.le_refl _) ⟨_, e1⟩
  refine I1.laid (a := s.heap.objs.size + 1) (o := .ins C s.heap.objs.size []) (t' := s.toks) (fun b u q => Heap.get?_push_of_some _ q) (Nat.le_of_eq (Heap.size_push _ _)) ?_
  have ne : s.heap.objs.size ≠ s.heap.objs.size + 1 := Nat.ne_of_lt (Nat.lt_succ_self _)
  refine ⟨by rw [upd_ne ne, upd_same], Nat.zero_le _, ne, e2, fun _ => none, (Heap.Ns1.of_empty e3).at fun o q => Heap.get?_push_of_some _ q, fun _ => True.intro, fun y hy => absurd rfl hy⟩

/-- e.f where nothing but the object is asked: through attributeBase (super) and the last hold -/
theorem attr_of {prog : Program} {w : World} {env : Env} {e : Expr} {f : Str} {pos : Pos} {s : Shared} {Q : Value → Shared → Prop} (hb : attributeBase e f env (eval e env) = eval e env)
    (h : wpAny (model prog w) A (eval e env) (fun o s₁ => wpAny (model prog w) A (getAttr o f true) Q E s₁) E s) : wpAny (model prog w) A (eval (.Attribute e f pos) env) Q E s :=
  Attribute_any_ h (by rw [arm_eval_Attribute, hb])
end

/-! ### readings and rules -/
/-- e.f, an attribute of the instance -/
def tFld (K : PySem.W.Frag) (ta : TE) (f : Str) : TE := fun σ H Q => ta σ H fun x H1 => ∃ a C dx fs v, x = .ref a ∧ H1 a = some (.ins C dx fs) ∧ Cls K C ∧ NoAttr K C f ∧ fs.lookup f = some v ∧ Q v H1
/-- e.f, a constant of the class -/
def tCon (K : PySem.W.Frag) (ta : TE) (f : Str) : TE := fun σ H Q => ta σ H fun x H1 => ∃ a C dx fs v u, x = .ref a ∧ H1 a = some (.ins C dx fs) ∧ Cls K C ∧ Con K C f v u ∧ fs.lookup f = none ∧ Q v H1
/-- e.f = value -/
def sFld (K : PySem.W.Frag) (ta tv : TE) (f : Str) : TS := fun D σ H => tv σ H fun y H1 => ta σ H1 fun x H2 => ∃ a C dx fs, x = .ref a ∧ H2 a = some (.ins C dx fs) ∧ Cls K C ∧ NoAttr K C f ∧ fs.length < 1000 ∧
  D.nx σ (upd H2 a (.ins C dx (putF f y fs)))
/-- an augmented operator on two values -/
def InOp (X : Cx) (op : Operator) (rd : V → V → Hp → VK → Prop) : Prop :=
  ∀ (pins : List (Addr × Obj)) (s : Shared) (σ : St) (H : Hp) (x y : V) (u v : Value) (Q : VK), Inv X pins σ H s → RelV x u → RelV y v → rd x y H Q → wpAny (model X.prog X.w) X.A (inplaceOp op u v) (EP X pins σ Q) X.xe s
/-- e.f op= value -/
def sFldAug (K : PySem.W.Frag) (ta tv : TE) (rd : V → V → Hp → VK → Prop) (f : Str) : TS := fun D σ H => ta σ H fun x H1 => ∃ a C dx fs v, x = .ref a ∧ H1 a = some (.ins C dx fs) ∧ Cls K C ∧ NoAttr K C f ∧ fs.lookup f = some v ∧
  tv σ H1 fun y H2 => rd v y H2 fun z H3 => ∃ dx' fs', H3 a = some (.ins C dx' fs') ∧ fs'.length < 1000 ∧ D.nx σ (upd H3 a (.ins C dx' (putF f z fs')))

section
variable {X : Cx} {o e value : Expr} {f : Str} {pos pos' tpos : Pos} {ta tv : TE}
theorem pe_fld (he : PE X e ta) (hb : attributeBase e f X.env (eval e X.env) = eval e X.env) : PE X (.Attribute e f pos) (tFld X.K ta f) := by
  intro pins s σ H Q I h
  refine attr_of hb (thn (he pins s σ H _ I h) fun u s1 ⟨x, H1, I1, rx, a, C, dx, fs, v, ex, ea, c, n, l, q⟩ => ?_)
  subst ex
  obtain rfl : u = Value.ref a := rx
  exact getattr_ok I1 ea c n l fun u' s2 I2 ru => ⟨v, H1, I2, ru, q⟩
theorem pe_con (he : PE X e ta) (hb : attributeBase e f X.env (eval e X.env) = eval e X.env) : PE X (.Attribute e f pos) (tCon X.K ta f) := by
  intro pins s σ H Q I h
  refine attr_of hb (thn (he pins s σ H _ I h) fun u s1 ⟨x, H1, I1, rx, a, C, dx, fs, v, u0, ex, ea, c, k, l, q⟩ => ?_)
  subst ex
  obtain rfl : u = Value.ref a := rx
  exact getcon_ok I1 ea c k l fun s2 I2 => ⟨v, H1, I2, k.rel, q⟩
theorem ps_fld (ha : PE X o ta) (hv : PE X value tv) (hs : swapsWith value (some (.Attribute o f pos')) pos.line X.env = pure false) : PS X (.Assign [.Attribute o f pos'] value pos) (sFld X.K ta tv f) := by
  intro pins s σ H D I h
  refine plainObj_wpAny_Assign_Attribute (thn (hv pins s σ H _ I h) fun u s1 ⟨y, H1, I1, ry, q⟩ => thn (ha pins s1 σ H1 _ I1 q) fun ov s2 ⟨x, H2, I2, rx, a, C, dx, fs, ex, ea, c, n, l, q2⟩ => ?_) hs
  subst ex
  obtain rfl : ov = Value.ref a := rx
  exact setattr_ok I2 ea c n l ry fun s3 I3 => ⟨σ, _, I3, q2⟩
theorem ps_fldaug {op : Operator} {rd : V → V → Hp → VK → Prop} (ha : PE X o ta) (hv : PE X value tv) (hop : InOp X op rd) : PS X (.AugAssign (.Attribute o f tpos) op value pos) (sFldAug X.K ta tv rd f) := by
  intro pins s σ H D I h
  refine wpAny_AugAssign_AttributeAny (thn (ha pins s σ H _ I h) fun ov s1 ⟨x, H1, I1, rx, a, C, dx, fs, v, ex, ea, c, n, l, q⟩ => ?_)
  subst ex
  obtain rfl : ov = Value.ref a := rx
  refine getattr_ok I1 ea c n l fun u s2 I2 ru => thn (hv pins s2 σ H1 _ I2 q) fun w3 s3 ⟨y, H2, I3, ry, q3⟩ => thn (hop pins s3 σ H2 v y u w3 _ I3 ru ry q3) fun w4 s4 ⟨z, H3, I4, rz, dx', fs', ea', l', q4⟩ => ?_
  exact setattr_ok I4 ea' c n l' rz fun s5 I5 => ⟨σ, _, I5, q4⟩
def rAdd : V → V → Hp → VK → Prop := fun x y H Q => ∃ i j, x = .int i ∧ y = .int j ∧ Q (.int (i + j)) H
def rSub : V → V → Hp → VK → Prop := fun x y H Q => ∃ i j, x = .int i ∧ y = .int j ∧ Q (.int (i - j)) H
theorem in_add : InOp X .Add rAdd := by
  rintro pins s σ H x y u v Q I rx ry ⟨i, j, rfl, rfl, q⟩
  obtain ⟨t, rfl⟩ := (show ∃ t, u = Value.int i t from rx)
  obtain ⟨t', rfl⟩ := (show ∃ t', v = Value.int j t' from ry)
  exact PyProof.Rows.iadd_int ⟨.int (i + j), H, I.tok _, ⟨_, rfl⟩, q⟩
theorem in_sub : InOp X .Sub rSub := by
  rintro pins s σ H x y u v Q I rx ry ⟨i, j, rfl, rfl, q⟩
  obtain ⟨t, rfl⟩ := (show ∃ t, u = Value.int i t from rx)
  obtain ⟨t', rfl⟩ := (show ∃ t', v = Value.int j t' from ry)
  exact PyProof.Rows.isub_int ⟨.int (i - j), H, I.tok _, ⟨_, rfl⟩, q⟩

/-- what is between an instance and its method: the tree of a method call -/
theorem methcall_of {pl : Sem Bool} {m : Str} {apos : Pos} {args : List Expr} {pins : List (Addr × Obj)} {s : Shared} {σ : St} {H : Hp} {Q : Value → Shared → Prop} {te : TE} (he : PE X e te) (I : Inv X pins σ H s)
    (h : te σ H fun x H1 => ∃ a C dx fs g, x = .ref a ∧ H1 a = some (.ins C dx fs) ∧ Cls X.K C ∧ Meth X.K C m g ∧ fs.lookup m = none ∧
      ∀ s1, Inv X pins σ H1 s1 → wpAny (model X.prog X.w) X.A (callWith pos (.ref g) [.ref a] (backTo pos (starEach args X.env)) (backToKw pos (keywordEach [] X.env))) Q X.xe s1)
    (ht : eval (.Call (.Attribute e m apos) args [] pos) X.env = (do
      let ov ← eval e X.env
      standAt apos.atName
      let (f, first) ← holding [ov] (getMethod ov m pl)
      callWith pos f first (backTo pos (starEach args X.env)) (backToKw pos (keywordEach [] X.env)))) :
    wpAny (model X.prog X.w) X.A (eval (.Call (.Attribute e m apos) args [] pos) X.env) Q X.xe s := by
  refine PySem.W.methodCall_KW (pl := pl) (thn (he pins s σ H _ I h) fun u s1 ⟨x, H1, I1, rx, a, C, dx, fs, g, ex, ea, c, k, l, q⟩ => ?_) ht
  subst ex
  obtain rfl : u = Value.ref a := rx
  exact getmeth_ok I1 ea c k l (q s1 I1)
end

/-! ### isinstance -/
section
variable {X : Cx} {pins : List (Addr × Obj)} {σ : St} {H : Hp} {s : Shared} {A : Around} {E : Value → Shared → Prop} {Q : Value → Shared → Prop} {c : Value} {b : Bool}
/-- the type of a value, as the fragment's deciders take it; for an instance its class -/
inductive TyOf (K : PySem.W.Frag) (H : Hp) : V → Value → Prop where
  | non : TyOf K H .non (.type "NoneType")
  | bl (x : Bool) : TyOf K H (.bl x) (.type "bool")
  | int (i : Int) : TyOf K H (.int i) (.type "int")
  | str (x : Str) : TyOf K H (.str x) (.type "str")
  | flt (x : UInt64) : TyOf K H (.flt x) (.type "float")
  | lst {a : Addr} {xs : List V} (e : H a = some (.lst xs)) : TyOf K H (.ref a) (.type "list")
  | frz {a : Addr} {o : Obj} {xs : List V} (e : H a = some (.frz o (.lst xs))) : TyOf K H (.ref a) (.type "list")
  | tup {a : Addr} {xs : List V} (e : H a = some (.tup xs)) : TyOf K H (.ref a) (.type "tuple")
  | dK {a : Addr} {kvs : List (Key × V)} (e : H a = some (.dK kvs)) : TyOf K H (.ref a) (.type "dict")
  | dT {a : Addr} {kvs : List (List Key × V)} (e : H a = some (.dT kvs)) : TyOf K H (.ref a) (.type "dict")
  | ins {a C dx : Addr} {fs : List (Str × V)} (e : H a = some (.ins C dx fs)) (cl : Cls K C) (ha : PySem.W.findIn K (.ref C) "__class__" = some (some (.builtin "object.__class__")))
      (hn : PySem.W.specialIn K (.builtin "object.__class__") "__get__" = some (some (.builtin "getset_descriptor.__get__"))) (htk : PySem.W.takesIn K (.builtin "object.__class__") = some true)
      (hm : PySem.W.mroIn K C (.type "object") = some true) : TyOf K H (.ref a) (.ref C)
/-- isinstance(x, c) for one class c, a built-in or an own one: kitOne's answer -/
theorem isinst_ok {x : V} {u t : Value} (I : Inv X pins σ H s) (rx : RelV x u) (ty : TyOf X.K H x t) (e : PySem.W.kitOne X.K t c = some b) (h : ∀ tk, Q (.bool b) { s with toks := tk }) :
    wpAny (model X.prog X.w) A (call (.builtin "isinstance") [u, c]) Q E s := by
  cases ty with
  | non => cases (show u = Value.none from rx); exact PySem.W.kia_one PySem.W.kitx_none I.kIn True.intro e (fun z => nomatch z) h
  | bl y => cases (show u = Value.bool y from rx); exact PySem.W.kia_one PySem.W.kitx_bool I.kIn True.intro e (fun z => nomatch z) h
  | int i => obtain ⟨t, q⟩ := (show ∃ t, u = Value.int i t from rx); cases q; exact PySem.W.kia_one PySem.W.kitx_int I.kIn True.intro e (fun z => nomatch z) h
  | str y => obtain ⟨t, q⟩ := (show ∃ t, u = Value.str y t from rx); cases q; exact PySem.W.kia_one PySem.W.kitx_str I.kIn True.intro e (fun z => nomatch z) h
  | flt y => obtain ⟨t, q⟩ := (show ∃ t, u = Value.float y t from rx); cases q; exact PySem.W.kia_one PySem.W.kitx_float I.kIn True.intro e (fun z => nomatch z) h
  | @lst a xs ea =>
    cases (show u = Value.ref a from rx)
    obtain ⟨_, _, n, _, h1⟩ := (show ObjOk X.prog X.w H s.heap a (.lst xs) from I.hok a _ ea)
    exact PySem.W.kia_one PySem.W.kitx_list I.kIn ⟨_, h1, rfl⟩ e (fun z => nomatch z) h
  | @frz a ob xs ea =>
    cases (show u = Value.ref a from rx)
    obtain ⟨_, _, _, n, _, h1⟩ := (show ObjOk X.prog X.w H s.heap a (.frz ob (.lst xs)) from I.hok a _ ea)
    exact PySem.W.kia_one PySem.W.kitx_list I.kIn ⟨_, h1, rfl⟩ e (fun z => nomatch z) h
  | @tup a xs ea =>
    cases (show u = Value.ref a from rx)
    obtain ⟨_, _, _, p⟩ := (show ObjOk X.prog X.w H s.heap a (.tup xs) from I.hok a _ ea)
    obtain ⟨o, h1, h2, _⟩ := p
    exact PySem.W.kia_one PySem.W.kitx_tuple I.kIn ⟨o, h1, h2⟩ e (fun z => nomatch z) h
  | @dK a kvs ea =>
    cases (show u = Value.ref a from rx)
    obtain ⟨_, _, vs, _, p⟩ := (show ObjOk X.prog X.w H s.heap a (.dK kvs) from I.hok a _ ea)
    obtain ⟨o, es, ep, h1, h2, _⟩ := p
    exact PySem.W.kia_one PySem.W.kitx_dict I.kIn ⟨o, h1, h2.1⟩ e (fun z => nomatch z) h
  | @dT a kvs ea =>
    cases (show u = Value.ref a from rx)
    obtain ⟨_, _, xs, _, o, es, ep, h1, h2, _⟩ := (show ObjOk X.prog X.w H s.heap a (.dT kvs) from I.hok a _ ea)
    exact PySem.W.kia_one PySem.W.kitx_dict I.kIn ⟨o, h1, h2.1⟩ e (fun z => nomatch z) h
  | @ins a C dx fs ea cl ha hn htk hm =>
    cases (show u = Value.ref a from rx)
    obtain ⟨mA, O, _⟩ := ins_get I.hok ea
    obtain ⟨od, J, _⟩ := O.look
    exact PySem.W.kia_one (PySem.W.kitx_own (cl.get _) cl.hd ha hn htk hm) I.kIn J e (fun z => nomatch z) h
end
end L2

namespace L2
open PySem PySem.Spec PyProof.Rows

/-! ### room -/
structure Room (k : Nat) (A : Around) : Prop where
  hd : A.handled = none
  dp : A.depth + 3 * k + 5 < recursionLimit
  un : A.units + 16 * k + 200 < cLine
theorem Room.mono {j k : Nat} {A : Around} (r : Room k A) (h : j ≤ k) : Room j A := ⟨r.hd, by have := r.dp; omega, by have := r.un; omega⟩
theorem Room.deeper {k : Nat} {A : Around} (r : Room (k + 1) A) (env : Env) : Room k (A.deeper env) :=
  ⟨r.hd, by have := r.dp; show A.depth + 1 + 3 * k + 5 < _; omega, by have := r.un; show A.units + 3 + 16 * k + 200 < _; omega⟩
theorem Room.in1 {k : Nat} {A : Around} (r : Room (k + 1) A) : Room k A.in1 :=
  ⟨r.hd, by have := r.dp; show A.depth + 3 * k + 5 < _; omega, by have := r.un; show A.units + 1 + 16 * k + 200 < _; omega⟩
theorem make_depth {A : Around} {C : Addr} {us : List Value} {kw : List (Str × Value)} : (A.under (.builtin "type.__call__" ⟨.ref C :: us, kw⟩)).depth = A.depth + 1 := by
  first | rfl | simp [Around.under, Code.weight, Code.isCreation, Code.isGuard, Code.isCaller, Code.frames, Code.isFrame, guardIds]
theorem make_units {A : Around} {C : Addr} {us : List Value} {kw : List (Str × Value)} : (A.under (.builtin "type.__call__" ⟨.ref C :: us, kw⟩)).units = A.units + 1 := by
  first | rfl | simp [Around.under, Code.cUnits, Code.frames, Code.isFrame]
theorem Room.make {k : Nat} {A : Around} (r : Room (k + 1) A) (C : Addr) (us : List Value) (kw : List (Str × Value)) : Room k (A.under (.builtin "type.__call__" ⟨.ref C :: us, kw⟩)) :=
  ⟨r.hd, by have := r.dp; rw [make_depth]; omega, by have := r.un; rw [make_units]; omega⟩
theorem Room.depth {k : Nat} {A : Around} (r : Room k A) : A.depth < recursionLimit := by have := r.dp; omega
theorem Room.units {k : Nat} {A : Around} (r : Room k A) : A.units + 64 < cLine := by have := r.un; omega
theorem Room.units0 {k : Nat} {A : Around} (r : Room k A) : A.units < cLine := by have := r.un; omega

/-! ### argument lists and displays -/
def tNil : TA := fun _ H Q => Q [] H
def tCons (ta : TE) (tr : TA) : TA := fun σ H Q => ta σ H fun x H1 => tr σ H1 fun xs H2 => Q (x :: xs) H2
section
variable {X : Cx} {e : Expr} {es : List Expr} {te : TE} {t : TA} {pos : Pos}
theorem pa_nil : PA X [] tNil := fun _ _ _ _ H Q I h => Calls.spliced_nil ⟨[], H, I, .nil, h⟩
theorem pa_cons (ha : PE X e te) (hr : PA X es t) (hs : starEach (e :: es) X.env = (false, eval e X.env) :: starEach es X.env := by rfl) : PA X (e :: es) (tCons te t) := by
  intro pos pins s σ H Q I h
  rw [hs]
  show wpAny _ _ (spliced ((false, eval e X.env) :: backTo pos (starEach es X.env))) _ _ s
  refine Calls.spliced_cons (thn (ha pins s σ H _ I h) fun u s1 ⟨x, H1, I1, r1, q1⟩ => ?_)
  exact thn (hr pos pins s1 σ H1 _ I1 q1) fun us s2 ⟨xs, H2, I2, r2, q2⟩ => ⟨x :: xs, H2, I2, .cons r1 r2, q2⟩

/-- a tuple, a list of written items -/
def tTup (t : TA) : TE := fun σ H Q => t σ H fun xs H1 => xs.length ≤ sizeLine ∧ ∀ p, H1 p = none → Q (.ref p) (upd H1 p (.tup xs))
def tLst (t : TA) : TE := fun σ H Q => t σ H fun xs H1 => xs.length ≤ sizeLine ∧ ∀ p, H1 p = none → Q (.ref p) (upd H1 p (.lst xs))
theorem pe_tup {x1} (h : PA X es t) : PE X (.Tuple es x1 pos) (tTup t) := by
  intro pins s σ H Q I hq
  refine wpAny_Tuple_spliced (thn (h pos pins s σ H _ I hq) fun us s1 ⟨xs, H1, I1, r, z, q⟩ => ⟨by rw [← r.length]; exact z, ?_⟩)
  have hf : H1 s1.heap.objs.size = none := I1.hok.fresh (Nat.le_refl _)
  refine ⟨.ref s1.heap.objs.size, upd H1 s1.heap.objs.size (.tup xs), I1.laid (t' := s1.toks) (fun b u e => Heap.get?_push_of_some _ e) (Nat.le_refl _) ?_, rfl, q _ hf⟩
  exact ⟨z, us, r, ⟨_, Heap.get?_push_size _ rfl, rfl, _, rfl⟩⟩
theorem pe_lst (h : PA X es t) : PE X (.List es pos) (tLst t) := by
  intro pins s σ H Q I hq
  refine wpAny_List_spliced (thn (h pos pins s σ H _ I hq) fun us s1 ⟨xs, H1, I1, r, z, q⟩ => ⟨by rw [← r.length]; exact z, ?_⟩)
  have hf : H1 s1.heap.objs.size = none := I1.hok.fresh (Nat.le_refl _)
  refine ⟨.ref s1.heap.objs.size, upd H1 s1.heap.objs.size (.lst xs), I1.laid (t' := s1.toks) (fun b u e => Heap.get?_push_of_some _ e) (Nat.le_refl _) ?_, rfl, q _ hf⟩
  exact ⟨z, us, 0, r, Heap.get?_push_size _ rfl⟩
end

/-! ### what a def promises -/
/-- a def's promise: the bound arguments in the parameters' order, the heap, the wanted end, the wanted exception -/
abbrev Sp := List V → Hp → VK → XK → Prop
/-- how an exception lies behind a call (file 08 gives it): the callers' frames, abstract heap and state ahead of the call, the wish, the exception, the state -/
abbrev CXT := List Env → Hp → Shared → XK → Value → Shared → Prop

/-- the state at a call -/
structure Env0 (P : Program) (w : World) (K : PySem.W.Frag) (mg : Str → Option Value) (base : Heap) (A : Around) (outer : List Env) (s : Shared) (H : Hp) : Prop where
  frames : A.frames = some outer
  mod : Mod K mg base
  bs : ∀ b o, base.get? b = some o → s.heap.get? b = some o ∧ H b = none
  bsz : base.objs.size ≤ s.heap.objs.size
  funs : s.heap.FunFrames base outer
  frf : ∀ b ∈ frs outer, H b = none
  hok : HOk P w H s.heap
  bare : AllBare s.gens
/-- a call's end -/
def CE (outer : List Env) (P : Program) (w : World) (H : Hp) (s : Shared) (Q : VK) (u : Value) (s' : Shared) : Prop :=
  ∃ v H', s'.os = s.os ∧ AllBare s'.gens ∧ Un (frs outer) [] H H' s.heap s'.heap ∧ HOk P w H' s'.heap ∧ RelV v u ∧ Q v H'
def CR (CX : CXT) (outer : List Env) (P : Program) (w : World) (H : Hp) (s : Shared) (Q : VK) (E : XK) (r : Result) (s' : Shared) : Prop :=
  match r with
  | .ok (.ret u) => CE outer P w H s Q u s'
  | .ok _ => False
  | .error e => CX outer H s E e s'
structure FnOk (P : Program) (w : World) (K : PySem.W.Frag) (mg : Str → Option Value) (base : Heap) (CX : CXT) (k : Nat) (f : Addr) (fd : FuncData) (ps : List Str) (sp : Sp) : Prop where
  len : ∀ vs H Q E, sp vs H Q E → vs.length = ps.length
  run : ∀ (A : Around) (outer : List Env) (s : Shared) (H : Hp) (args : Args) (us : List Value) (vs : List V) (Q : VK) (E : XK), Room k A → Env0 P w K mg base A outer s H → BindsTo s fd args (ps.zip us) → Vals vs us → sp vs H Q E →
    codeAny (model P w) A (.call (.ref f) args) (CR CX outer P w H s Q E) s
theorem FnOk.mono {P : Program} {w : World} {K : PySem.W.Frag} {mg : Str → Option Value} {base : Heap} {CX : CXT} {j k : Nat} {f : Addr} {fd : FuncData} {ps : List Str} {sp : Sp} (F : FnOk P w K mg base CX j f fd ps sp) (h : j ≤ k) :
    FnOk P w K mg base CX k f fd ps sp := ⟨F.len, fun A outer s H args us vs Q E hr => F.run A outer s H args us vs Q E (hr.mono h)⟩
/-- a weaker promise -/
theorem FnOk.imp {P : Program} {w : World} {K : PySem.W.Frag} {mg : Str → Option Value} {base : Heap} {CX : CXT} {k : Nat} {f : Addr} {fd : FuncData} {ps : List Str} {sp sp' : Sp} (F : FnOk P w K mg base CX k f fd ps sp)
    (h : ∀ vs H Q E, sp' vs H Q E → sp vs H Q E) : FnOk P w K mg base CX k f fd ps sp' :=
  ⟨fun vs H Q E q => F.len vs H Q E (h _ _ _ _ q), fun A outer s H args us vs Q E hr he hb hv hs => F.run A outer s H args us vs Q E hr he hb hv (h _ _ _ _ hs)⟩

theorem Env0.make {P : Program} {w : World} {K : PySem.W.Frag} {mg : Str → Option Value} {base : Heap} {A : Around} {outer : List Env} {s : Shared} {H : Hp} (e : Env0 P w K mg base A outer s H) (C : Addr) (us : List Value) (kw : List (Str × Value)) :
    Env0 P w K mg base (A.under (.builtin "type.__call__" ⟨.ref C :: us, kw⟩)) outer s H := ⟨by first | exact e.frames | (simpa [Around.under, Code.envs, Code.isFrame, pushEnvs] using e.frames), e.mod, e.bs, e.bsz, e.funs, e.frf, e.hok, e.bare⟩
theorem Env0.in1 {P : Program} {w : World} {K : PySem.W.Frag} {mg : Str → Option Value} {base : Heap} {A : Around} {outer : List Env} {s : Shared} {H : Hp} (e : Env0 P w K mg base A outer s H) :
    Env0 P w K mg base A.in1 outer s H := ⟨e.frames, e.mod, e.bs, e.bsz, e.funs, e.frf, e.hok, e.bare⟩

section
variable {X : Cx} {pins : List (Addr × Obj)} {σ : St} {H : Hp} {s s' : Shared}
/-- from a body: what a callee wants -/
theorem Inv.env0 (I : Inv X pins σ H s) : Env0 X.prog X.w X.K X.mg X.base X.A X.stack s H :=
  ⟨I.ok.frames, I.ok.mod, I.bs, Nat.le_trans I.ok.bsz I.sz, I.stack, I.stkFree, I.hok, I.bare⟩
/-- behind a call -/
theorem Inv.after {Q : VK} {u : Value} (I : Inv X pins σ H s) (h : CE X.stack X.prog X.w H s Q u s') : EP X pins σ Q u s' := by
  obtain ⟨v, H', os, bare, un, hok, r, q⟩ := h
  obtain ⟨hh, g, d, t, os'⟩ := s'
  obtain rfl : os' = s.os := os
  exact ⟨v, H', I.call (h' := hh) (g' := g) (d' := d) (t' := t) (ch := []) un hok bare (fun b z => absurd z (by simp)), r, q⟩
end

/-! ### calls -/
/-- f(..): the written arguments, then the defaults dvs; E: what is wanted of an exception -/
def tCall (sp : Sp) (dvs : List V) (E : XK) (t : TA) : TE := fun σ H Q => t σ H fun vs H1 => sp (vs ++ dvs) H1 Q E
/-- o.m(..) of an instance of the class at C -/
def tMeth (C : Addr) (m : Str) (sp : Sp) (dvs : List V) (E : XK) (ta : TE) (t : TA) : TE := fun σ H Q => ta σ H fun x H1 => ∃ a dx fs, x = .ref a ∧ H1 a = some (.ins C dx fs) ∧ fs.lookup m = none ∧
  t σ H1 fun vs H2 => sp (x :: (vs ++ dvs)) H2 Q E
/-- C(..): a new instance and its dict, then __init__ -/
def tMake (C : Addr) (sp : Sp) (dvs : List V) (E : XK) (t : TA) : TE := fun σ H Q => t σ H fun vs H1 => ∀ x dx, H1 x = none → H1 dx = none → dx ≠ x →
  sp (.ref x :: (vs ++ dvs)) (upd (upd H1 dx (.own x)) x (.ins C dx [])) (fun v H2 => v = .non ∧ Q (.ref x) H2) E

/-- how the parameters are bound: us the positional arguments, kw the keywords' values by name, ds the defaults that fill up -/
def Binds (K : PySem.W.Frag) (fd : FuncData) (ps : List Str) (ds : List Value) : Prop :=
  ∀ (s : Shared) (us : List Value), K.In s.heap → (us ++ ds).length = ps.length → BindsTo s fd ⟨us, []⟩ (ps.zip (us ++ ds))
/-- every parameter is given -/
theorem Binds.all {K : PySem.W.Frag} {fd : FuncData} {ps : List Str} (h : ∀ us : List Value, us.length = ps.length → bindArgs fd ⟨us, []⟩ = pure (ps.zip us)) : Binds K fd ps [] := fun s us _ hl => by
  rw [List.append_nil] at hl ⊢
  exact .of_eq (h us hl)

/-- an exception of a callee reaches what this body wants of exceptions -/
def Passes (CX : CXT) (X : Cx) (E : XK) : Prop := ∀ (pins : List (Addr × Obj)) (σ : St) (H : Hp) (s : Shared) (e : Value) (s' : Shared), Inv X pins σ H s → CX X.stack H s E e s' → X.xe e s'

section
variable {X : Cx} {CX : CXT} {k : Nat} {f C : Addr} {fd : FuncData} {ps : List Str} {sp : Sp} {dvs : List V} {ds : List Value} {E : XK} {x m : Str} {p pos apos : Pos} {e o : Expr} {es : List Expr} {ta : TE} {t : TA}

/-- the callee runs -/
theorem run_fn {pins : List (Addr × Obj)} {σ : St} {H : Hp} {s : Shared} {Q : VK} {us : List Value} {vs : List V} (F : FnOk X.prog X.w X.K X.mg X.base CX k f fd ps sp) (hr : Room k X.A) (hb : Binds X.K fd ps ds) (hd : Vals dvs ds) (hx : Passes CX X E)
    (I : Inv X pins σ H s) (r : Vals vs us) (h : sp (vs ++ dvs) H Q E) : wpAny (model X.prog X.w) X.A (call (.ref f) us) (EP X pins σ Q) X.xe s := by
  have r2 : Vals (vs ++ dvs) (us ++ ds) := r.append hd
  have hl : (us ++ ds).length = ps.length := by rw [← r2.length]; exact F.len _ _ _ _ h
  refine wpAny_call (codeAny_mono (F.run X.A X.stack s H ⟨us, []⟩ (us ++ ds) (vs ++ dvs) Q E hr I.env0 (hb s us I.kIn hl) r2 h) fun r s' hq => ?_)
  cases r with
  | error e => exact hx pins σ H s e s' I hq
  | ok fl =>
    cases fl with
    | ret u => exact I.after hq
    | next => exact False.elim hq
    | brk => exact False.elim hq
    | cont => exact False.elim hq

theorem pe_call (F : FnOk X.prog X.w X.K X.mg X.base CX k f fd ps sp) (hr : Room k X.A) (hg : Gl X x) (hm : X.mg x = some (.ref f)) (hk : PySem.W.keepIn X.K (.ref f) = true) (hb : Binds X.K fd ps ds) (hd : Vals dvs ds) (hx : Passes CX X E)
    (ha : PA X (e :: es) t) (hdb : (x == ("__debug__" : Str)) = false := by decide) (he : starEach (e :: es) X.env = (false, eval e X.env) :: starEach es X.env := by rfl) (hpl : (backTo pos (starEach es X.env)).any (·.1) = false := by rfl) :
    PE X (.Call (.Name x p) (e :: es) [] pos) (tCall sp dvs E t) := by
  intro pins s σ H Q I h
  refine wpAny_Call_Name_kw (ld_glob I hg hm ?_ hdb)
  refine PySem.W.callWith_K (h₀ := X.base) I.ok.mod.kin hk (thn (ha pos pins s σ H _ I h) fun us s1 ⟨vs, H1, I1, r, q⟩ => ⟨I1.kIn, ?_⟩) he hpl
  exact run_fn F hr hb hd hx I1 r q
theorem pe_call0 (F : FnOk X.prog X.w X.K X.mg X.base CX k f fd ps sp) (hr : Room k X.A) (hg : Gl X x) (hm : X.mg x = some (.ref f)) (hk : PySem.W.keepIn X.K (.ref f) = true) (hb : Binds X.K fd ps ds) (hd : Vals dvs ds) (hx : Passes CX X E)
    (hdb : (x == ("__debug__" : Str)) = false := by decide) : PE X (.Call (.Name x p) [] [] pos) (tCall sp dvs E tNil) := by
  intro pins s σ H Q I h
  refine wpAny_Call_Name_kw (ld_glob I hg hm ?_ hdb)
  exact PySem.W.callWith_K0 I.kIn hk (run_fn (us := []) F hr hb hd hx I .nil h)

/-- o.m(e, ..) -/
theorem pe_meth {pl : Sem Bool} (he : PE X o ta) (c : Cls X.K C) (hm : Meth X.K C m f) (F : FnOk X.prog X.w X.K X.mg X.base CX k f fd ps sp) (hr : Room k X.A) (hb : Binds X.K fd ps ds) (hd : Vals dvs ds) (hx : Passes CX X E) (ha : PA X (e :: es) t)
    (hst : starEach (e :: es) X.env = (false, eval e X.env) :: starEach es X.env := by rfl) (hpl : (backTo pos (starEach es X.env)).any (·.1) = false := by rfl)
    (ht : eval (.Call (.Attribute o m apos) (e :: es) [] pos) X.env = (do
      let ov ← eval o X.env
      standAt apos.atName
      let (f, first) ← holding [ov] (getMethod ov m pl)
      callWith pos f first (backTo pos (starEach (e :: es) X.env)) (backToKw pos (keywordEach [] X.env))) := by rfl) :
    PE X (.Call (.Attribute o m apos) (e :: es) [] pos) (tMeth C m sp dvs E ta t) := by
  intro pins s σ H Q I h
  refine PySem.W.methodCall_KW (pl := pl) (thn (he pins s σ H _ I h) fun u s1 ⟨x, H1, I1, rx, a, dx, fs, ex, ea, l, q⟩ => ?_) ht
  subst ex
  obtain rfl : u = Value.ref a := rx
  refine getmeth_ok I1 ea c hm l ?_
  refine PySem.W.callWith_K (first := [.ref a]) (h₀ := X.base) I.ok.mod.kin hm.kp (thn (ha pos pins s1 σ H1 _ I1 q) fun us s2 ⟨vs, H2, I2, r, q2⟩ => ⟨I2.kIn, ?_⟩) hst hpl
  exact run_fn (us := .ref a :: us) (vs := .ref a :: vs) F hr hb hd hx I2 (.cons rfl r) q2
/-- o.m() -/
theorem pe_meth0 {pl : Sem Bool} (he : PE X o ta) (c : Cls X.K C) (hm : Meth X.K C m f) (F : FnOk X.prog X.w X.K X.mg X.base CX k f fd ps sp) (hr : Room k X.A) (hb : Binds X.K fd ps ds) (hd : Vals dvs ds) (hx : Passes CX X E)
    (ht : eval (.Call (.Attribute o m apos) [] [] pos) X.env = (do
      let ov ← eval o X.env
      standAt apos.atName
      let (f, first) ← holding [ov] (getMethod ov m pl)
      callWith pos f first (backTo pos (starEach [] X.env)) (backToKw pos (keywordEach [] X.env))) := by rfl) :
    PE X (.Call (.Attribute o m apos) [] [] pos) (tMeth C m sp dvs E ta tNil) := by
  intro pins s σ H Q I h
  refine PySem.W.methodCall_KW (pl := pl) (thn (he pins s σ H _ I h) fun u s1 ⟨x, H1, I1, rx, a, dx, fs, ex, ea, l, q⟩ => ?_) ht
  subst ex
  obtain rfl : u = Value.ref a := rx
  refine getmeth_ok I1 ea c hm l ?_
  exact PySem.W.callWith_K0 (first := [.ref a]) I1.kIn hm.kp (run_fn (us := [.ref a]) (vs := [.ref a]) F hr hb hd hx I1 (.cons rfl .nil) q)

/-- what a class must have to be made -/
structure Mk (K : PySem.W.Frag) (C f : Addr) : Prop where
  makes : PySem.W.makesIn K C = true
  init : PySem.W.findIn K (.ref C) "__init__" = some (some (.ref f))
  fn : PySem.W.isFn K (.ref f) = true
  kp : PySem.W.keepIn K (.ref C) = true

theorem run_make {pins : List (Addr × Obj)} {σ : St} {H : Hp} {s : Shared} {Q : VK} {us : List Value} {vs : List V} (M : Mk X.K C f) (F : FnOk X.prog X.w X.K X.mg X.base CX k f fd ps sp) (hr : Room (k + 1) X.A) (hb : Binds X.K fd ps ds) (hd : Vals dvs ds)
    (hx : Passes CX X E) (I : Inv X pins σ H s) (r : Vals vs us)
    (h : ∀ x dx, H x = none → H dx = none → dx ≠ x → sp (.ref x :: (vs ++ dvs)) (upd (upd H dx (.own x)) x (.ins C dx [])) (fun v H2 => v = .non ∧ Q (.ref x) H2) E) :
    wpAny (model X.prog X.w) X.A (call (.ref C) us) (EP X pins σ Q) X.xe s := by
  have hq := h (s.heap.objs.size + 1) s.heap.objs.size (I.hok.fresh (Nat.le_succ _)) (I.hok.fresh (Nat.le_refl _)) (Nat.ne_of_lt (Nat.lt_succ_self _))
  have I2 := Inv.made (C := C) I
  have r2 : Vals (V.ref (s.heap.objs.size + 1) :: (vs ++ dvs)) (Value.ref (s.heap.objs.size + 1) :: (us ++ ds)) := .cons rfl (r.append hd)
  have hl : (Value.ref (s.heap.objs.size + 1) :: us ++ ds).length = ps.length := by
    have e := r2.length
    rw [F.len _ _ _ _ hq] at e
    exact e.symm
  refine wpAny_call (make_map (f := f) I.kIn M.makes M.init (beq_iff_eq.mp M.fn) (codeAny_mono (F.run _ X.stack _ _ ⟨Value.ref (s.heap.objs.size + 1) :: us, []⟩ (Value.ref (s.heap.objs.size + 1) :: (us ++ ds)) _ _ E (hr.make C us [])
    (I2.env0.make C us []) (hb _ (Value.ref (s.heap.objs.size + 1) :: us) I2.kIn hl) r2 hq) fun r s' hq' => ?_))
  cases r with
  | error e => exact hx pins σ _ _ e s' I2 hq'
  | ok fl =>
    cases fl with
    | ret u =>
      obtain ⟨v, H', I3, rv, ev, q3⟩ := I2.after hq'
      subst ev
      exact ⟨rv, ⟨V.ref (s.heap.objs.size + 1), H', I3, rfl, q3⟩⟩
    | next => exact False.elim hq'
    | brk => exact False.elim hq'
    | cont => exact False.elim hq'
theorem pe_make (M : Mk X.K C f) (F : FnOk X.prog X.w X.K X.mg X.base CX k f fd ps sp) (hr : Room (k + 1) X.A) (hg : Gl X x) (hm : X.mg x = some (.ref C)) (hb : Binds X.K fd ps ds) (hd : Vals dvs ds) (hx : Passes CX X E)
    (ha : PA X (e :: es) t) (hdb : (x == ("__debug__" : Str)) = false := by decide) (he : starEach (e :: es) X.env = (false, eval e X.env) :: starEach es X.env := by rfl) (hpl : (backTo pos (starEach es X.env)).any (·.1) = false := by rfl) :
    PE X (.Call (.Name x p) (e :: es) [] pos) (tMake C sp dvs E t) := by
  intro pins s σ H Q I h
  refine wpAny_Call_Name_kw (ld_glob I hg hm ?_ hdb)
  refine PySem.W.callWith_K (h₀ := X.base) I.ok.mod.kin M.kp (thn (ha pos pins s σ H _ I h) fun us s1 ⟨vs, H1, I1, r, q⟩ => ⟨I1.kIn, ?_⟩) he hpl
  exact run_make M F hr hb hd hx I1 r q
theorem pe_make0 (M : Mk X.K C f) (F : FnOk X.prog X.w X.K X.mg X.base CX k f fd ps sp) (hr : Room (k + 1) X.A) (hg : Gl X x) (hm : X.mg x = some (.ref C)) (hb : Binds X.K fd ps ds) (hd : Vals dvs ds) (hx : Passes CX X E)
    (hdb : (x == ("__debug__" : Str)) = false := by decide) : PE X (.Call (.Name x p) [] [] pos) (tMake C sp dvs E tNil) := by
  intro pins s σ H Q I h
  refine wpAny_Call_Name_kw (ld_glob I hg hm ?_ hdb)
  exact PySem.W.callWith_K0 I.kIn M.kp (run_make (us := []) M F hr hb hd hx I .nil h)
end

/-! ### keywords -/
/-- the values of the keywords, from the left -/
def PK (X : Cx) (kws : List Keyword) (t : TA) : Prop :=
  ∀ (pos : Pos) (pins : List (Addr × Obj)) (s : Shared) (σ : St) (H : Hp) (Q : List V → Hp → Prop), Inv X pins σ H s → t σ H Q → wpAny (model X.prog X.w) X.A (evalAll ((backToKw pos (keywordEach kws X.env)).map (·.2))) (AP X pins σ Q) X.xe s
section
variable {X : Cx} {CX : CXT} {k : Nat} {f C : Addr} {fd : FuncData} {ps ks : List Str} {sp : Sp} {E : XK} {x m : Str} {p pos apos kpos : Pos} {e o : Expr} {es : List Expr} {kws : List Keyword} {te ta : TE} {t tk : TA} {nm : Option Str}
theorem pk_nil : PK X [] tNil := fun _ _ _ _ H Q I h => wpAny_evalAll_nil ⟨[], H, I, .nil, h⟩
theorem pk_cons (ha : PE X e te) (hr : PK X kws t) : PK X (⟨nm, e, kpos⟩ :: kws) (tCons te t) := by
  intro pos pins s σ H Q I h
  show wpAny _ _ (evalAll ((do let v ← eval e X.env; standAt pos; pure v) :: (backToKw pos (keywordEach kws X.env)).map (·.2))) _ _ s
  refine wpAny_evalAll_cons (wpAny_bind (thn (ha pins s σ H _ I h) fun u s1 ⟨x, H1, I1, r1, q1⟩ => wpAny_bind (wpAny_standAt (wpAny_pure ?_))))
  exact thn (hr pos pins s1 σ H1 _ I1 q1) fun us s2 ⟨xs, H2, I2, r2, q2⟩ => ⟨x :: xs, H2, I2, .cons r1 r2, q2⟩

/-- how a call with keywords binds: g puts the positional values us and the keywords' values ws (names ks) in the parameters' order, defaults among them -/
structure KBinds (K : PySem.W.Frag) (fd : FuncData) (ps ks : List Str) (g : List Value → List Value → List Value) (gV : List V → List V → List V) : Prop where
  to : ∀ (s : Shared) (us ws : List Value), K.In s.heap → (g us ws).length = ps.length → BindsTo s fd ⟨us, ks.zip ws⟩ (ps.zip (g us ws))
  rel : ∀ {vs : List V} {us : List Value} {zs : List V} {ws : List Value}, Vals vs us → Vals zs ws → Vals (gV vs zs) (g us ws)
def tCallK (sp : Sp) (gV : List V → List V → List V) (E : XK) (t tk : TA) : TE := fun σ H Q => t σ H fun vs H1 => tk σ H1 fun zs H2 => sp (gV vs zs) H2 Q E
variable {g : List Value → List Value → List Value} {gV : List V → List V → List V}
theorem run_fnk {pins : List (Addr × Obj)} {σ : St} {H : Hp} {s : Shared} {Q : VK} {us ws : List Value} {vs zs : List V} (F : FnOk X.prog X.w X.K X.mg X.base CX k f fd ps sp) (hr : Room k X.A) (hb : KBinds X.K fd ps ks g gV) (hx : Passes CX X E)
    (I : Inv X pins σ H s) (r : Vals vs us) (rz : Vals zs ws) (h : sp (gV vs zs) H Q E) : wpAny (model X.prog X.w) X.A (call (.ref f) us (ks.zip ws)) (EP X pins σ Q) X.xe s := by
  have r2 := hb.rel r rz
  have hl : (g us ws).length = ps.length := by rw [← r2.length]; exact F.len _ _ _ _ h
  refine wpAny_call (codeAny_mono (F.run X.A X.stack s H ⟨us, ks.zip ws⟩ (g us ws) (gV vs zs) Q E hr I.env0 (hb.to s us ws I.kIn hl) r2 h) fun r s' hq => ?_)
  cases r with
  | error e => exact hx pins σ H s e s' I hq
  | ok fl =>
    cases fl with
    | ret u => exact I.after hq
    | next => exact False.elim hq
    | brk => exact False.elim hq
    | cont => exact False.elim hq
/-- f(e, .., k = v, ..) -/
theorem pe_callK (F : FnOk X.prog X.w X.K X.mg X.base CX k f fd ps sp) (hr : Room k X.A) (hg : Gl X x) (hm : X.mg x = some (.ref f)) (hk : PySem.W.keepIn X.K (.ref f) = true) (hb : KBinds X.K fd ps ks g gV) (hx : Passes CX X E)
    (ha : PA X (e :: es) t) (hkw : PK X kws tk) (hall : (backToKw pos (keywordEach kws X.env)).all (·.1.isSome) = true := by rfl) (hks : (backToKw pos (keywordEach kws X.env)).filterMap (·.1) = ks := by rfl)
    (hdb : (x == ("__debug__" : Str)) = false := by decide) (he : starEach (e :: es) X.env = (false, eval e X.env) :: starEach es X.env := by rfl)
    (hpl : ((backTo pos (starEach (e :: es) X.env)).any (·.1) || (backToKw pos (keywordEach kws X.env)).any (·.1.isNone)) = false := by rfl) :
    PE X (.Call (.Name x p) (e :: es) kws pos) (tCallK sp gV E t tk) := by
  intro pins s σ H Q I h
  refine wpAny_Call_Name_kw (ld_glob I hg hm ?_ hdb)
  refine PySem.W.callWith_KW (h₀ := X.base) I.ok.mod.kin hk hall (thn (ha pos pins s σ H _ I h) fun us s1 ⟨vs, H1, I1, r, q⟩ => ?_) hpl he
  refine thn (hkw pos pins s1 σ H1 _ I1 q) fun ws s2 ⟨zs, H2, I2, rz, q2⟩ => ⟨I2.kIn, ?_⟩
  rw [hks]
  exact run_fnk F hr hb hx I2 r rz q2
end

/-! ### a def's body keeps its promise -/
/-- names: the parameters first -/
structure FnScope (N P : List Str) (sc : Scope) : Prop where
  kind : sc.kind = .function
  co : sc.isCoroutine = false
  gen : sc.isGenerator = false
  nd : N.Nodup
  pre : N.take P.length = P
  par : ∀ x ∈ P, sc.names.lookup x = some .local ∨ sc.names.lookup x = some .cell
  nofree : ∀ y ∈ sc.names, y.2 ≠ .free

theorem bindL_out {kindOf : Str → Option NameKind} {x : Str} : ∀ {binds : List (Str × Value)} {m : Str → Option Value}, (∀ v, (x, v) ∉ binds) → bindL kindOf binds m x = m x
  | [], _, _ => rfl
  | (n, v) :: r, m, h => by
    unfold bindL
    rw [bindL_out fun w hw => h w (List.mem_cons_of_mem _ hw)]
    split
    · have : x ≠ n := by rintro rfl; exact h v List.mem_cons_self
      simp [this]
    · rfl
theorem bindC_out {kindOf : Str → Option NameKind} {x : Str} : ∀ {binds : List (Str × Value)} {m : Str → Option Value}, (∀ v, (x, v) ∉ binds) → bindC kindOf binds m x = m x
  | [], _, _ => rfl
  | (n, v) :: r, m, h => by
    unfold bindC
    rw [bindC_out fun w hw => h w (List.mem_cons_of_mem _ hw)]
    split
    · rfl
    · have : x ≠ n := by rintro rfl; exact h v List.mem_cons_self
      simp [this]
theorem bindL_get {kindOf : Str → Option NameKind} {x : Str} {v : Value} : ∀ {P : List Str} {vs : List Value} {i : Nat} {m : Str → Option Value}, P.Nodup → P[i]? = some x → vs[i]? = some v → kindOf x = some .local →
    bindL kindOf (P.zip vs) m x = some v
  | [], _, _, _, _, h, _, _ => by simp at h
  | _ :: _, [], _, _, _, _, h, _ => by simp at h
  | p :: P, w :: vs, 0, m, nd, h1, h2, hk => by
    simp at h1 h2; subst h1; subst h2
    show bindL kindOf ((p, w) :: P.zip vs) m p = _
    unfold bindL
    rw [bindL_out fun v hv => (List.nodup_cons.mp nd).1 (List.of_mem_zip hv).1, if_pos hk]
    simp
  | p :: P, w :: vs, i + 1, m, nd, h1, h2, hk => by
    show bindL kindOf ((p, w) :: P.zip vs) m x = _
    unfold bindL
    exact bindL_get (i := i) (List.nodup_cons.mp nd).2 (by simpa using h1) (by simpa using h2) hk
theorem bindC_get {kindOf : Str → Option NameKind} {x : Str} {v : Value} : ∀ {P : List Str} {vs : List Value} {i : Nat} {m : Str → Option Value}, P.Nodup → P[i]? = some x → vs[i]? = some v → kindOf x ≠ some .local →
    bindC kindOf (P.zip vs) m x = some v
  | [], _, _, _, _, h, _, _ => by simp at h
  | _ :: _, [], _, _, _, _, h, _ => by simp at h
  | p :: P, w :: vs, 0, m, nd, h1, h2, hk => by
    simp at h1 h2; subst h1; subst h2
    show bindC kindOf ((p, w) :: P.zip vs) m p = _
    unfold bindC
    rw [bindC_out fun v hv => (List.nodup_cons.mp nd).1 (List.of_mem_zip hv).1, if_neg hk]
    simp
  | p :: P, w :: vs, i + 1, m, nd, h1, h2, hk => by
    show bindC kindOf ((p, w) :: P.zip vs) m x = _
    unfold bindC
    exact bindC_get (i := i) (List.nodup_cons.mp nd).2 (by simpa using h1) (by simpa using h2) hk

/-- the names' values at the entry -/
def start (N : List Str) (vs : List V) : St := vs.map some ++ List.replicate (N.length - vs.length) none

/-- the context of a def's body, at its entry; an exception leaves the frame, then lies as CX says -/
def cxOf (CX : CXT) (P : Program) (w : World) (K : PySem.W.Frag) (mg : Str → Option Value) (base : Heap) (N : List Str) (qual : Str) (scope : Scope) (f : Addr) (cd : Value) (A : Around) (outer : List Env) (s : Shared) (H : Hp) (E : XK) : Cx where
  prog := P
  w := w
  K := K
  mg := mg
  base := base
  A := A.deeper (envOfC qual scope s.heap.objs.size f cd)
  N := N
  s₀ := s
  H₀ := H
  env := envOfC qual scope s.heap.objs.size f cd
  outer := outer
  stack := envOfC qual scope s.heap.objs.size f cd :: outer
  ex := []
  calm := true
  fn := fun _ => true
  pn := []
  xe := fun e s' => wpAny (model P w) (A.deeper (envOfC qual scope s.heap.objs.size f cd)) (leaving (envOfC qual scope s.heap.objs.size f cd) e) (fun _ s'' => CX outer H s E e s'') (fun e' s'' => CX outer H s E e' s'') s'

theorem cell_has {sc : Scope} {n : Nat} {x : Str} (h : sc.names.lookup x = some .cell) : ∃ c, (cellsFrom n sc.names []).lookup x = some c := by
  have q := PySem.W.cellsFrom_some sc.names n [] (.inl h)
  exact Option.isSome_iff_exists.mp q

theorem inv_start {CX : CXT} {P : Program} {w : World} {K : PySem.W.Frag} {mg : Str → Option Value} {base : Heap} {N ps : List Str} {qual : Str} {scope : Scope} {f : Addr} {cd : Value} {A : Around} {outer : List Env} {s s1 : Shared} {H : Hp} {E : XK} {us : List Value} {vs : List V}
    (S : FnScope N ps scope) (hd : A.handled = none) (e0 : Env0 P w K mg base A outer s H) (hl : vs.length = ps.length) (r : Vals vs us)
    (x : InCallC s s.heap.objs.size (bindL (envOfC qual scope s.heap.objs.size f cd).kindOf (ps.zip us) fun _ => none) (cellsFrom (s.heap.objs.size + 1) scope.names []) (bindC (envOfC qual scope s.heap.objs.size f cd).kindOf (ps.zip us) fun _ => none) s1) :
    Inv (cxOf CX P w K mg base N qual scope f cd A outer s H E) [] (start N vs) H s1 := by
  have hpl : ps.length ≤ N.length := by have := congrArg List.length S.pre; rw [List.length_take] at this; omega
  obtain ⟨h1, tk, rfl, hk⟩ := x.done
  have noA : ∀ b : Addr, b ∉ (cxOf CX P w K mg base N qual scope f cd A outer s H E).ex := fun b z => absurd (show b ∈ ([] : List Addr) from z) (by simp)
  refine ⟨⟨e0.mod, S.kind, rfl, rfl, Nat.le_refl _, fun y z c h1 h2 => ?_, fun y hy => ?_, fun y c _ h => ?_, fun _ => hd, Around.frames_deeper e0.frames, .inr ⟨rfl, rfl⟩, fun b z => absurd z (noA b), e0.bs, e0.bsz, fun b _ _ => noA b, fun b z => absurd z (noA b), e0.funs, e0.frf⟩,
    rfl, e0.bare, Un.kept hk, ⟨_, x.toInCall.ns, fun i y v h1 h2 h3 => ?_⟩, fun y c h => ⟨_, x.cell y c h⟩, e0.hok.fresh (Nat.le_refl _), fun y c h => ?_, fun p hp => absurd (show p ∈ ([] : List (Addr × Obj)) from hp) (by simp), e0.hok.kept hk, ?_⟩
  · exact name_of_addr x.apart (PySem.mem_of_lookup h1) (PySem.mem_of_lookup h2)
  · have hy : scope.names.lookup y = some .cell ∨ scope.names.lookup y = some .free := hy
    rcases hy with hy | hy
    · exact cell_has hy
    · exact absurd rfl (S.nofree _ (PySem.mem_of_lookup hy))
  · exact Nat.le_of_lt (x.above y c (PySem.mem_of_lookup h))
  · have hi : i < vs.length := by
      unfold start at h2
      by_cases hi : i < vs.length
      · exact hi
      · rw [List.getElem?_append_right (by simpa using hi)] at h2
        rw [List.getElem?_replicate] at h2
        split at h2 <;> cases h2
    have ha : vs[i]? = some v := by
      unfold start at h2
      rw [List.getElem?_append_left (by simpa using hi), List.getElem?_map] at h2
      cases e : vs[i]? with
      | none => rw [e] at h2; cases h2
      | some a => rw [e] at h2; cases h2; rfl
    obtain ⟨u, hu, rv⟩ := r.get ha
    have hp : ps[i]? = some y := by
      rw [← S.pre, List.getElem?_take_of_lt (by omega)]; exact h1
    have ndP : ps.Nodup := by rw [← S.pre]; exact S.nd.sublist (List.take_sublist _ _)
    refine ⟨u, rv, ?_⟩
    rcases S.par y (List.mem_of_getElem? hp) with k | k
    · exact .inl ⟨k, bindL_get ndP hp hu k⟩
    · obtain ⟨c, e⟩ := cell_has (n := s.heap.objs.size + 1) k
      refine .inr ⟨.inl k, c, e, ?_⟩
      have q := x.cell y c e
      rw [bindC_get ndP hp hu (by show scope.names.lookup y ≠ _; rw [k]; decide)] at q
      exact q
  · exact e0.hok.fresh (Nat.le_of_lt (x.above y c (PySem.mem_of_lookup h)))
  · unfold start
    show _ = N.length
    rw [List.length_append, List.length_map, List.length_replicate]
    omega

/-- THE RULE: a def (or a method) of the text, by its body. The body's reading t is chosen for each entry; it is run at the parameters' values -/
theorem fn_of {CX : CXT} {P : Program} {w : World} {K : PySem.W.Frag} {mg : Str → Option Value} {base : Heap} {k : Nat} {f : Addr} {name qual : Str} {params : Arguments} {body : List Stmt} {scope : Scope} {dV kV doc pm cdv ct oc : Value} {an od : Option Addr}
    {osl : Array (Option Value)} {N ps : List Str} {sp : Sp} (lk : K.lookup f = some ⟨oc, od, .func (PySem.W.fnOf name qual params body scope dV kV doc pm an cdv ct), osl⟩) (hcd : PySem.W.codeIn K cdv qual = true) (S : FnScope N ps scope)
    (len : ∀ vs H Q E, sp vs H Q E → vs.length = ps.length)
    (hbody : ∀ (A : Around) (outer : List Env) (s : Shared) (H : Hp) (vs : List V) (Q : VK) (E : XK), Room k (A.deeper (envOfC qual scope s.heap.objs.size f cdv)) → sp vs H Q E →
      ∃ t, PSs (cxOf CX P w K mg base N qual scope f cdv A outer s H E) body t ∧ t { nx := fun _ H' => Q .non H', rt := Q } (start N vs) H) :
    FnOk P w K mg base CX (k + 1) f (PySem.W.fnOf name qual params body scope dV kV doc pm an cdv ct) ps sp := by
  refine ⟨len, fun A outer s H args us vs Q E hr e0 hb r hsp => ?_⟩
  have hl := len _ _ _ _ hsp
  have KX : K.In s.heap := e0.mod.kin.keeps fun b o e => (e0.bs b o e).1
  have lim : s.heap.NoLimit := e0.mod.nolimit.keeps fun b o e => (e0.bs b o e).1
  have hkind : ∀ y ∈ ps.zip us, scope.names.lookup y.1 = some .local ∨ (scope.names.lookup y.1 = some .cell ∧ ((cellsFrom (s.heap.objs.size + 1) scope.names []).lookup y.1).isSome = true) := fun ⟨n, v⟩ hy => by
    rcases S.par n (List.of_mem_zip hy).1 with q | q
    · exact .inl q
    · exact .inr ⟨q, PySem.W.cellsFrom_some _ _ _ (.inl q)⟩
  refine codeAny_call_function hr.depth (KX _ _ lk) rfl S.co S.gen rfl (PySem.W.codeRec_of KX hcd) (hb _ _ _ _ ?_)
  refine wpAny_newFunctionEnv_cells S.kind hkind fun env he s1 x => ?_
  subst he
  refine ⟨lim.keeps x.toInCall.keep, codeAny_func ?_⟩
  obtain ⟨t, ht, hq⟩ := hbody A outer s H vs Q E (hr.deeper _) hsp
  have I : Inv (cxOf CX P w K mg base N qual scope f cdv A outer s H E) [] (start N vs) H s1 := inv_start S hr.hd e0 hl r x
  refine wpAny_mono (ht [] s1 (start N vs) H _ I hq) (fun fl s' hs => ?_) fun e s' hs => hs
  have fin : ∀ {σ' : St} {H' : Hp} {v : V} {u : Value}, Inv (cxOf CX P w K mg base N qual scope f cdv A outer s H E) [] σ' H' s' → RelV v u → Q v H' → CE outer P w H s Q u s' :=
    fun {σ' H' v u} J rv q => ⟨v, H', J.os, J.bare, J.base, J.hok, rv, q⟩
  cases fl with
  | ret u =>
    obtain ⟨v, σ', H', J, rv, q⟩ := hs
    exact fin J rv q
  | next =>
    obtain ⟨σ', H', J, q⟩ := hs
    exact fin (v := V.non) (u := Value.none) J rfl q
  | brk =>
    obtain ⟨_, _, _, q⟩ := hs
    exact False.elim q
  | cont =>
    obtain ⟨_, _, _, q⟩ := hs
    exact False.elim q
end L2

namespace L2
open PySem PySem.Spec PyProof.Rows
section
variable {X : Cx} {x : Str} {p pos : Pos} {e : Expr} {es : List Expr} {t : TA} {id T : String} {r : List V → Hp → VK → Prop}

def tCB (r : List V → Hp → VK → Prop) (t : TA) : TE := fun σ H Q => t σ H fun vs H1 => r vs H1 Q
/-- f(e, ..), f a built-in function -/
theorem pe_callB (hc : CallR X (.builtin id) r) (hg : Gl X x) (hm : X.mg x = none) (hv : bootBuiltins x = some (.builtin id)) (ha : PA X (e :: es) t) (hn : x ≠ "__name__" := by decide) (hdb : (x == ("__debug__" : Str)) = false := by decide)
    (he : starEach (e :: es) X.env = (false, eval e X.env) :: starEach es X.env := by rfl) (hpl : (backTo pos (starEach es X.env)).any (·.1) = false := by rfl) : PE X (.Call (.Name x p) (e :: es) [] pos) (tCB r t) := by
  intro pins s σ H Q I h
  refine wpAny_Call_Name_kw (ld_blt I hg hm hv ?_ hn hdb)
  exact PyProof.Rows.callWith_builtin1 (thn (ha pos pins s σ H _ I h) fun us s1 ⟨vs, H1, I1, r1, q1⟩ => hc pins s1 σ H1 vs us Q I1 r1 q1) he hpl
/-- T(e, ..), T a built-in type -/
theorem pe_callTy (hc : CallR X (.type T) r) (hg : Gl X x) (hm : X.mg x = none) (hv : bootBuiltins x = some (.type T)) (ha : PA X (e :: es) t) (hn : x ≠ "__name__" := by decide) (hdb : (x == ("__debug__" : Str)) = false := by decide)
    (he : starEach (e :: es) X.env = (false, eval e X.env) :: starEach es X.env := by rfl) (hpl : (backTo pos (starEach es X.env)).any (·.1) = false := by rfl) : PE X (.Call (.Name x p) (e :: es) [] pos) (tCB r t) := by
  intro pins s σ H Q I h
  refine wpAny_Call_Name_kw (ld_blt I hg hm hv ?_ hn hdb)
  exact PyProof.Rows.callWith_type1 (thn (ha pos pins s σ H _ I h) fun us s1 ⟨vs, H1, I1, r1, q1⟩ => hc pins s1 σ H1 vs us Q I1 r1 q1) he hpl
/-- T() -/
theorem pe_callTy0 (hc : CallR X (.type T) r) (hg : Gl X x) (hm : X.mg x = none) (hv : bootBuiltins x = some (.type T)) (hn : x ≠ "__name__" := by decide) (hdb : (x == ("__debug__" : Str)) = false := by decide) :
    PE X (.Call (.Name x p) [] [] pos) (tCB r tNil) := by
  intro pins s σ H Q I h
  refine wpAny_Call_Name_kw (ld_blt I hg hm hv ?_ hn hdb)
  exact PyProof.Rows.callWith_type0 (hc pins s σ H [] [] Q I .nil h)
end
end L2

namespace HT
open PySem PyProof.Rows

/-- t < u of tuples of ints -/
def lexLt : List Int → List Int → Bool
  | [], [] => false
  | [], _ :: _ => true
  | _ :: _, [] => false
  | x :: xs, y :: ys => if x = y then lexLt xs ys else decide (x < y)
theorem lexLt_cons (x y : Int) (xs ys : List Int) : lexLt (x :: xs) (y :: ys) = if x = y then lexLt xs ys else decide (x < y) := rfl
theorem lexLt_nil_nil : lexLt [] [] = false := rfl
theorem lexLt_nil_cons (y : Int) (ys : List Int) : lexLt [] (y :: ys) = true := rfl
theorem lexLt_cons_nil (x : Int) (xs : List Int) : lexLt (x :: xs) [] = false := rfl

theorem eqAt_int (A : Around) (s : Shared) (a : Int) (t : Tok) (c : Int) (u : Tok) : ∃ e, SeqAt.EqAt A s (.int a t) (.int c u) e ∧ (e = true ↔ a = c) :=
  ⟨(a == c), SeqAt.EqAt.int_int a t c u, by simp⟩
theorem rcLt_int (A : Around) (s : Shared) (a : Int) (t : Tok) (c : Int) (u : Tok) (prog : Program) (w : World) (E : Value → Shared → Prop) (Q : Value → Shared → Prop) (h : Q (.bool (decide (a < c))) s) :
    wpAny (model prog w) A (richCompare .Lt (.int a t) (.int c u)) Q E s :=
  (PyProof.Rows.lt_int h : wpAny (model prog w) A (compareOp .Lt (.int a t) (.int c u)) Q E s)

section
open PySem.SeqAt
open PySem.AutoSeq1 (wpAny_loadPart')
open PySem.MeetsSeq PySem.MeetsSeq2 PySem.MeetsSeq3

theorem tuple_lt_ints (l b : Addr) (items items2 : Array Value) (n n2 : Nat) (dd dd2 : Option Addr) (sl sl2 : Array (Option Value)) (ns ms : List Int) (hi : IntsAre items.toList ns) (hj : IntsAre items2.toList ms) :
    Meets (Builtin.«tuple.__lt__» ⟨[.ref l, .ref b], []⟩)
      (fun _ R s => s.heap.get? l = some { cls := .type "tuple", dict := dd, data := .seq items n, slots := sl } ∧ s.heap.get? b = some { cls := .type "tuple", dict := dd2, data := .seq items2 n2, slots := sl2 } ∧
        R (.ok (.ret (.bool (lexLt ns ms)))) s) :=
  .of_wp fun prog w A R s h => by
    obtain ⟨hp, g, d, tk, os⟩ := s; obtain ⟨hl, hb, h⟩ := h
    have f2 := AutoSeq1.sub_tuple_tuple
    have z1 : items.size = ns.length := by rw [← hi.length]; simp
    have z2 : items2.size = ms.length := by rw [← hj.length]; simp
    wp_walk using wpAny_loadPart' hl, wpAny_loadPart' hb, wpAny_forIn_list _ (fun rest b s' => b.1 = none ∧ s' = ⟨hp, g, d, tk, os⟩ ∧ ∃ (vs ws : List Value) (ns' ms' : List Int), rest = vs.zip ws ∧
      IntsAre vs ns' ∧ IntsAre ws ms' ∧ ns'.length + items2.size = ms'.length + items.size ∧ R (.ok (.ret (.bool (lexLt ns' ms')))) ⟨hp, g, d, tk, os⟩) _
    case turn =>
      rintro ⟨y, x⟩ rest b s' ⟨hb', rfl, vs, ws, ns', ms', hz, hvi, hwi, hlen, hR⟩
      cases hvi with
      | nil => rw [List.zip_nil_left] at hz; cases hz
      | cons a t hvi' =>
        cases hwi with
        | nil => rw [List.zip_nil_right] at hz; cases hz
        | cons c u hwi' =>
          rw [List.zip_cons_cons] at hz
          injection hz with hyx hrest
          injection hyx with hy hx
          subst hy hx
          rw [lexLt_cons] at hR
          simp only [List.length_cons] at hlen
          obtain ⟨e, he, hiff⟩ := eqAt_int A.in1 ⟨hp, g, d, tk, os⟩ a t c u
          refine wpAny_bind (he prog w _ _ ?_)
          cases e with
          | true =>
            rw [if_pos (hiff.mp rfl)] at hR
            wp_walk
            exact ⟨rfl, rfl, _, _, _, _, hrest, hvi', hwi', by omega, hR⟩
          | false =>
            rw [if_neg (fun q => absurd (hiff.mpr q) Bool.false_ne_true)] at hR
            have hri := rcLt_int A.in1 ⟨hp, g, d, tk, os⟩ a t c u prog w
            wp_walk using hri
            exact ⟨_, rfl, by simpa using hR⟩
    case fin =>
      rintro ⟨b1, b2⟩ s' ⟨hb', rfl, vs, ws, ns', ms', hz, hvi, hwi, hlen, hR⟩
      simp only at hb'
      subst hb'
      have hv : lexLt ns' ms' = decide (items.size < items2.size) := by
        cases hvi with
        | nil =>
          cases hwi with
          | nil =>
            simp only [List.length_nil] at hlen
            rw [lexLt_nil_nil]
            exact (decide_eq_false (by omega)).symm
          | cons c u hw =>
            simp only [List.length_nil, List.length_cons] at hlen
            rw [lexLt_nil_cons]
            exact (decide_eq_true (by omega)).symm
        | cons a t hv =>
          cases hwi with
          | nil =>
            simp only [List.length_nil, List.length_cons] at hlen
            rw [lexLt_cons_nil]
            exact (decide_eq_false (by omega)).symm
          | cons c u hw =>
            rw [List.zip_cons_cons] at hz
            cases hz
      rw [hv] at hR
      wp_walk
      exact ⟨_, rfl, by simpa [Builtin.Tuple.tupleCompareSizes] using hR⟩
    case h =>
      exact ⟨rfl, rfl, items.toList, items2.toList, ns, ms, rfl, hi, hj, by omega, h⟩
end

section
variable {prog : Program} {w : World} {A : Around} {E : Value → Shared → Prop} {s : Shared}

theorem lt_tupInts {l b : Addr} {items items2 : Array Value} {ns ms : List Int} {Q : Value → Shared → Prop} (hl : IsTup s.heap l items) (hb : IsTup s.heap b items2) (hi : IntsAre items.toList ns) (hj : IntsAre items2.toList ms)
    (hu : A.units < cLine) (h : Q (.bool (lexLt ns ms)) s) : wpAny (model prog w) A (compareOp .Lt (.ref l) (.ref b)) Q E s := by
  obtain ⟨⟨cls, dd, data, sl⟩, ho, hc, n, hd⟩ := id hl
  obtain ⟨⟨cls2, dd2, data2, sl2⟩, ho2, hc2, n2, hd2⟩ := id hb
  simp only at hc hd hc2 hd2
  subst hc hd hc2 hd2
  exact richCompare_meets_room (op := .Lt) ⟨_, ho, rfl⟩ ⟨_, ho2, rfl⟩ PySem.F.slot_tuple_lt PySem.F.entry_tuple_lt (PySem.F.args_tuple_lt_2 _ _) (tuple_lt_ints l b items items2 n n2 dd dd2 sl sl2 ns ms hi hj)
    ⟨ho, ho2, show Value.bool (lexLt ns ms) ≠ Value.notImplemented ∧ Q (.bool (lexLt ns ms)) s from ⟨(fun x => nomatch x), h⟩⟩ hu

/-- t + u, t not empty -/
theorem cat_tup {t b : Addr} {vs ws : List Value} {Q : Value → Shared → Prop} (ht : IsTup s.heap t vs.toArray) (hb : IsTup s.heap b ws.toArray) (hv : vs ≠ [])
    (h1 : ws = [] → Q (.ref t) s) (h2 : ws ≠ [] → Q (.ref s.heap.objs.size) { s with heap := s.heap.push { cls := .type "tuple", data := .seq (vs ++ ws).toArray } })
    (hsz : vs.length + ws.length ≤ sizeLine) : wpAny (model prog w) A (binaryOp .Add (.ref t) (.ref b)) Q E s := by
  obtain ⟨⟨cls, dd, data, sl⟩, ho, hc, n, hd⟩ := id ht
  obtain ⟨⟨cls2, dd2, data2, sl2⟩, ho2, hc2, n2, hd2⟩ := id hb
  simp only at hc hd hc2 hd2
  subst hc hd hc2 hd2
  have e : vs.toArray ++ ws.toArray = (vs ++ ws).toArray := by simp
  by_cases hw : ws = []
  · exact concat_meets ⟨_, ho, rfl⟩ ⟨_, ho2, rfl⟩ noFill_tuple_add seq_tuple_add PySem.F.slot_tuple_add PySem.F.entry_tuple_add (PySem.F.args_tuple_add_2 _ _)
      (tuple_addW1 t b vs.toArray ws.toArray n n2 dd dd2 sl sl2 (by simpa using hv) (by simp [hw])) ⟨ho, ho2, h1 hw⟩
  · refine concat_meets ⟨_, ho, rfl⟩ ⟨_, ho2, rfl⟩ noFill_tuple_add seq_tuple_add PySem.F.slot_tuple_add PySem.F.entry_tuple_add (PySem.F.args_tuple_add_2 _ _)
      (tuple_addW2 t b vs.toArray ws.toArray n n2 dd dd2 sl sl2 (by simpa using hv) (by simpa using hw) (by rw [List.size_toArray, List.size_toArray]; exact hsz)) ⟨ho, ho2, ?_⟩
    rw [e]
    exact h2 hw

/-! ### t[a:b], not the whole -/
/-- a slice's bound as a place among n (d where it is left out) -/
def sIx (n d : Nat) : Option Int → Nat
  | none => d
  | some v => if v < 0 then (v + (n : Int)).toNat else min v.toNat n
theorem sIx_none (n d : Nat) : sIx n d none = d := rfl
theorem sIx_nat (n d k : Nat) : sIx n d (some (k : Int)) = min k n := by
  show (if (k : Int) < 0 then ((k : Int) + (n : Int)).toNat else min (k : Int).toNat n) = min k n
  rw [if_neg (by omega), Int.toNat_natCast]
theorem sIx_le (n d : Nat) (hd : d ≤ n) (o : Option Int) : sIx n d o ≤ n := by
  cases o with
  | none => exact hd
  | some v =>
    show (if v < 0 then (v + (n : Int)).toNat else min v.toNat n) ≤ n
    by_cases hv : v < 0
    · rw [if_pos hv]; omega
    · rw [if_neg hv]; exact Nat.min_le_right _ _
theorem clip_eq (v : Int) (n d : Nat) : (if v < 0 then max (v + (n : Int)) 0 else min v (n : Int)) = ((sIx n d (some v) : Nat) : Int) := by
  show (if v < 0 then max (v + (n : Int)) 0 else min v (n : Int)) = (((if v < 0 then (v + (n : Int)).toNat else min v.toNat n) : Nat) : Int)
  by_cases hv : v < 0
  · simp only [if_pos hv]; omega
  · simp only [if_neg hv]; omega
theorem adjust_gen (lo hi : Option Int) (n : Nat) : Builtin.Slice.sliceAdjust lo hi 1 (n : Int) = (((sIx n 0 lo : Nat) : Int), ((sIx n n hi : Nat) : Int)) := by
  have h1 : ¬ ((1 : Int) < 0) := by omega
  unfold Builtin.Slice.sliceAdjust
  simp only [h1, if_false]
  refine Prod.ext ?_ ?_
  · cases lo with
    | none => rfl
    | some v => exact clip_eq v n 0
  · cases hi with
    | none => rfl
    | some v => exact clip_eq v n n
theorem places_gen (i j : Nat) : Builtin.Slice.slicePlaces (i : Int) (j : Int) 1 = j - i := by
  unfold Builtin.Slice.slicePlaces
  have h1 : (1 : Int) > 0 := by omega
  simp only [h1, if_true, Int.ediv_one]
  split <;> omega
theorem slicePart_ {v : Value} {o : Option Int} {Q : Option Int → Shared → Prop} (p : IsPart v o) (h : Q o s) : wpAny (model prog w) A (Builtin.Slice.slicePartIndex v) Q E s := by
  cases p with
  | none => exact slicePart_none h
  | int i t => exact slicePart_int h
theorem sliceApplied_gen {sl : Addr} {vl vu : Value} {lo hi : Option Int} {n : Nat} {Q : Int × Int × Nat → Shared → Prop} (hs : s.heap.IsSliceOf sl vl vu .none) (pl : IsPart vl lo) (pu : IsPart vu hi)
    (h : Q (((sIx n 0 lo : Nat) : Int), 1, sIx n n hi - sIx n 0 lo) s) : wpAny (model prog w) A (Builtin.Slice.sliceApplied (.ref sl) (pure (n : Int))) Q E s := by
  obtain ⟨os, hos, hcs, hds⟩ := id hs
  unfold Builtin.Slice.sliceApplied Builtin.Slice.sliceFields
  refine wpAny_bind (wpAny_bind (wpAny_field hos hds (x := vl) rfl (wpAny_bind (wpAny_field hos hds (x := vu) rfl (wpAny_bind (wpAny_field hos hds (x := .none) rfl (wpAny_pure ?_)))))))
  refine wpAny_bind (slicePart_none ?_)
  show wpAny _ _ (if ((1 : Int) == 0) = true then _ else _) _ _ s
  rw [if_neg (by decide)]
  refine wpAny_bind (slicePart_ pl (wpAny_bind (slicePart_ pu (wpAny_bind (wpAny_pure ?_)))))
  show wpAny _ _ (match Builtin.Slice.sliceAdjust lo hi 1 (n : Int) with | (lo, hi) => pure (lo, (1 : Int), Builtin.Slice.slicePlaces lo hi 1)) _ _ s
  rw [adjust_gen lo hi n]
  show wpAny _ _ (pure (((sIx n 0 lo : Nat) : Int), (1 : Int), Builtin.Slice.slicePlaces ((sIx n 0 lo : Nat) : Int) ((sIx n n hi : Nat) : Int) 1)) _ _ s
  rw [places_gen]
  exact wpAny_pure h
theorem pick_gen (xs : Array Value) (i k : Nat) : ((List.range k).filterMap fun (m : Nat) => xs[((i : Int) + (m : Int) * 1).toNat]?).toArray = ((xs.toList.drop i).take k).toArray := by
  have e : (fun (m : Nat) => xs[((i : Int) + (m : Int) * 1).toNat]?) = fun m => xs[i + m]? := by
    funext m
    have : ((i : Int) + (m : Int) * 1).toNat = i + m := by omega
    rw [this]
  rw [e]
  have := pick_run xs i k
  rw [List.filterMap_map] at this
  have e2 : ((fun x => xs[x]?) ∘ fun x => i + x) = fun m => xs[i + m]? := rfl
  rw [e2] at this
  rw [this]

theorem getItem_tuple_cut {t sl : Addr} {items : Array Value} {vl vu : Value} {lo hi : Option Int} {Q : Value → Shared → Prop} (ht : IsTup s.heap t items) (hs : s.heap.IsSliceOf sl vl vu .none) (pl : IsPart vl lo) (pu : IsPart vu hi)
    (hw : ¬ (sIx items.size 0 lo = 0 ∧ sIx items.size items.size hi = items.size))
    (h : Q (.ref s.heap.objs.size) { s with heap := s.heap.push { cls := .type "tuple", data := .seq ((items.toList.drop (sIx items.size 0 lo)).take (sIx items.size items.size hi - sIx items.size 0 lo)).toArray } })
    (hsz : items.size ≤ sizeLine) : wpAny (model prog w) A (getItem (.ref t) (.ref sl)) Q E s := by
  have htake : sizeOk (.seq ((items.toList.drop (sIx items.size 0 lo)).take (sIx items.size items.size hi - sIx items.size 0 lo)).toArray) := by
    show ((items.toList.drop (sIx items.size 0 lo)).take (sIx items.size items.size hi - sIx items.size 0 lo)).toArray.size ≤ sizeLine
    rw [List.size_toArray, List.length_take, List.length_drop, Array.length_toList]
    omega
  have hj : sIx items.size items.size hi ≤ items.size := sIx_le _ _ (Nat.le_refl _) hi
  obtain ⟨os, hos, hcs, hds⟩ := id hs
  have hTs : s.TypeIs (.ref sl) "slice" := ⟨os, hos, hcs⟩
  unfold getItem
  try with_reducible refine wpAny_holding ?_
  first | refine wpAny_bind (wpAny_pure ?_) | skip
  refine wpAny_bind (wpAny_sequenceKey ht.typeIs (by decide) ?_)
  refine wpAny_bind (wpAny_callSpecial?_slot (name := Str.ofString "__getitem__") ht.typeIs PyProof.Rows.slot_tuple_getitem
    (wpAny_call_entry PyProof.Rows.slot_tuple_getitem ht.typeIs entry_tuple_getitem ?_ (args_tuple_getitem _ _)))
  show wpAny _ _ (Builtin.Tuple.tupleItemsOf (.ref t) >>= _) _ _ s
  refine wpAny_bind (tupleItemsOf_ ht ?_)
  refine wpAny_bind (wpAny_typeOf hTs ?_)
  rw [if_pos (by decide)]
  refine wpAny_bind (sliceApplied_gen hs pl pu ?_)
  have hno : ¬ ((((sIx items.size 0 lo : Nat) : Int) == 0 && (1 : Int) == 1 && (sIx items.size items.size hi - sIx items.size 0 lo) == items.size) = true) := by
    intro q
    rw [Bool.and_eq_true, Bool.and_eq_true] at q
    have q1 : ((sIx items.size 0 lo : Nat) : Int) = 0 := eq_of_beq q.1.1
    have q2 : sIx items.size items.size hi - sIx items.size 0 lo = items.size := eq_of_beq q.2
    exact hw ⟨by omega, by omega⟩
  show wpAny _ _ (if (((sIx items.size 0 lo : Nat) : Int) == 0 && (1 : Int) == 1 && (sIx items.size items.size hi - sIx items.size 0 lo) == items.size) = true then _ else _) _ _ s
  rw [if_neg hno, pick_gen]
  first
    | exact wpAny_bind (m := Builtin.Tuple.tupleExact _) (wpAny_newObj_type (wpAny_pure ⟨_, rfl, wpAny_pure h⟩) htake)
    | exact wpAny_bind (m := Builtin.Tuple.tupleExact _) (wpAny_newObj_type (wpAny_bind (wpAny_pure (wpAny_pure ⟨_, rfl, wpAny_pure h⟩))) htake)
    | exact wpAny_bind (wpAny_bind (m := Builtin.Tuple.tupleExact _) (wpAny_newObj_type (wpAny_pure (wpAny_pure ⟨_, rfl, wpAny_pure h⟩)) htake))
    | exact wpAny_bind (wpAny_bind (m := Builtin.Tuple.tupleExact _) (wpAny_newObj_type (wpAny_pure ⟨_, rfl, wpAny_pure h⟩) htake))
end
end HT

namespace L2
open PySem PySem.Spec PyProof.Rows

/-! ### the parts of a slice -/
abbrev TO := St → Hp → (Option Int → Hp → Prop) → Prop
/-- a slice's part (left out, or an int) -/
def PO (X : Cx) (e : Option Expr) (t : TO) : Prop :=
  ∀ (pins : List (Addr × Obj)) (s : Shared) (σ : St) (H : Hp) (Q : Option Int → Hp → Prop), Inv X pins σ H s → t σ H Q →
    wpAny (model X.prog X.w) X.A (evalPart e X.env) (fun u s' => ∃ o H', Inv X pins σ H' s' ∧ IsPart u o ∧ Q o H') X.xe s
def tNoPart : TO := fun _ H Q => Q none H
def tPart (t : TE) : TO := fun σ H Q => t σ H fun x H1 => ∃ i, x = .int i ∧ Q (some i) H1

theorem intsAre_of {ns : List Int} : ∀ {us : List Value}, Vals (ns.map V.int) us → IntsAre us ns := by
  induction ns with
  | nil => intro us r; rw [List.map_nil] at r; cases r; exact .nil
  | cons n ns ih =>
    intro us r
    rw [List.map_cons] at r
    cases r with
    | cons r1 r2 =>
      obtain ⟨t, e⟩ := r1
      subst e
      exact .cons n t (ih r2)

section
variable {X : Cx} {e : Expr} {te : TE} {lo hi : Option Expr} {tl th : TO} {pos p2 : Pos}

theorem po_none : PO X none tNoPart := by
  intro pins s σ H Q I h
  rw [evalPart_none]
  exact wpAny_pure ⟨none, H, I, .none, h⟩
theorem po_some (h : PE X e te) : PO X (some e) (tPart te) := by
  intro pins s σ H Q I hw
  rw [evalPart_some]
  refine thn (h pins s σ H _ I hw) fun u s1 ⟨x, H1, I1, r1, q1⟩ => ?_
  obtain ⟨i, rfl, q⟩ := q1
  obtain ⟨t, rfl⟩ := r1
  exact ⟨some i, H1, I1, .int i t, q⟩

/-- what a slice of a value is, by values: the slice object stands at sl -/
def SlR (X : Cx) (r : V → Option Int → Option Int → Hp → VK → Prop) : Prop :=
  ∀ (pins : List (Addr × Obj)) (s : Shared) (σ : St) (H : Hp) (x : V) (v vl vu : Value) (lo hi : Option Int) (sl : Addr) (Q : VK), Inv X pins σ H s → RelV x v → s.heap.IsSliceOf sl vl vu .none → IsPart vl lo → IsPart vu hi → r x lo hi H Q →
    ∃ T id, typeLookup (.type T) "__getitem__" = pure (some (.builtin id)) ∧ s.TypeIs v T ∧ wpAny (model X.prog X.w) X.A (getItem v (.ref sl)) (EP X pins σ Q) X.xe s
theorem SlR.or {r r' : V → Option Int → Option Int → Hp → VK → Prop} (h : SlR X r) (h' : SlR X r') : SlR X (fun x lo hi H Q => r x lo hi H Q ∨ r' x lo hi H Q) := by
  intro pins s σ H x v vl vu lo hi sl Q I rx hs pl pu q
  rcases q with q | q
  · exact h pins s σ H x v vl vu lo hi sl Q I rx hs pl pu q
  · exact h' pins s σ H x v vl vu lo hi sl Q I rx hs pl pu q
def tSl (r : V → Option Int → Option Int → Hp → VK → Prop) (te : TE) (tl th : TO) : TE := fun σ H Q => te σ H fun x H1 => tl σ H1 fun l H2 => th σ H2 fun u H3 => r x l u H3 Q
/-- a[lo:hi], any a -/
theorem pe_slice {r : V → Option Int → Option Int → Hp → VK → Prop} (hr : SlR X r) (he : PE X e te) (hl : PO X lo tl) (hu : PO X hi th) : PE X (.Subscript e (.Slice lo hi none p2) pos) (tSl r te tl th) := by
  intro pins s σ H Q I h
  refine Subscript_ (thn (he pins s σ H _ I h) fun v s1 ⟨x, H1, I1, r1, q1⟩ => ?_)
  refine wpAny_Slice (thn (hl pins s1 σ H1 _ I1 q1) fun vl s2 ⟨l, H2, I2, pl, q2⟩ => thn (hu pins s2 σ H2 _ I2 q2) fun vu s3 ⟨u, H3, I3, pu, q3⟩ => ?_)
  rw [evalPart_none]
  refine wpAny_pure ?_
  have I4 : Inv X pins σ H3 { s3 with heap := s3.heap.push { cls := .type "slice", data := .fields #[vl, vu, .none] } } := I3.kept (t' := s3.toks) fun b ob q => Heap.get?_push_of_some _ q
  obtain ⟨T, id, hT, ht, hg⟩ := hr pins { s3 with heap := s3.heap.push { cls := .type "slice", data := .fields #[vl, vu, .none] } } σ H3 x v vl vu l u s3.heap.objs.size Q I4 r1 (Heap.IsSliceOf.new ..) pl pu q3
  show wpAny (model X.prog X.w) X.A (subscriptTail e (.Slice lo hi none p2) v (.ref s3.heap.objs.size)) (EP X pins σ Q) X.xe { s3 with heap := s3.heap.push { cls := .type "slice", data := .fields #[vl, vu, .none] } }
  exact tail_any (ops := [.ref s3.heap.objs.size, v]) ht hT hg (by with_unfolding_all rfl)

/-- the items of xs[lo:hi] -/
def cutV (xs : List V) (lo hi : Option Int) : List V := (xs.drop (HT.sIx xs.length 0 lo)).take (HT.sIx xs.length xs.length hi - HT.sIx xs.length 0 lo)
theorem cutV_length (xs : List V) (lo hi : Option Int) : (cutV xs lo hi).length ≤ xs.length := by
  unfold cutV
  rw [List.length_take, List.length_drop]
  omega
/-- t[lo:hi], not the whole of it (the whole would be t itself) -/
def rSlT (K : PySem.W.Frag) : V → Option Int → Option Int → Hp → VK → Prop := fun x lo hi H Q => ∃ a xs, x = .ref a ∧ SqT K H a xs ∧
  ¬ (HT.sIx xs.length 0 lo = 0 ∧ HT.sIx xs.length xs.length hi = xs.length) ∧ ∀ p, H p = none → Q (.ref p) (upd H p (.tup (cutV xs lo hi)))
theorem sl_tup : SlR X (rSlT X.K) := by
  intro pins s σ H x v vl vu lo hi sl Q I rx hs pl pu h
  obtain ⟨a, xs, rfl, hx, hw, q⟩ := h
  cases rx
  obtain ⟨its, r, ht, hz⟩ := I.tuple hx
  have hlen : its.toArray.size = xs.length := by rw [List.size_toArray]; exact r.length.symm
  refine ⟨"tuple", _, PyProof.Rows.slot_tuple_getitem.lookup, ht.typeIs, ?_⟩
  refine HT.getItem_tuple_cut ht hs pl pu (by rw [hlen]; exact hw) ?_ (by rw [hlen]; exact hz)
  rw [hlen]
  refine ⟨.ref s.heap.objs.size, _, I.laid (t' := s.toks) (o := .tup (cutV xs lo hi)) (fun b ob q => Heap.get?_push_of_some _ q) (Nat.le_refl _) ?_, rfl, q _ (I.hok.fresh (Nat.le_refl _))⟩
  exact ⟨Nat.le_trans (cutV_length xs lo hi) hz, _, (r.drop (HT.sIx xs.length 0 lo)).take (HT.sIx xs.length xs.length hi - HT.sIx xs.length 0 lo), IsTup.new _ _⟩

/-! ### t < u, t + u -/
def rLtT (K : PySem.W.Frag) : R2 := fun x y H Q => ∃ a b ns ms, x = .ref a ∧ y = .ref b ∧ SqT K H a (ns.map V.int) ∧ SqT K H b (ms.map V.int) ∧ Q (.bl (HT.lexLt ns ms)) H
theorem op_ltT (hu : X.A.units < cLine) : OpR X (compareOp .Lt) (rLtT X.K) := by
  intro pins s σ H x y v u Q I rx ry h
  obtain ⟨a, b, ns, ms, rfl, rfl, ha, hb, q⟩ := h
  cases rx
  cases ry
  obtain ⟨its, r1, p1, _⟩ := I.tuple ha
  obtain ⟨its2, r2, p2, _⟩ := I.tuple hb
  have i1 : IntsAre its.toArray.toList ns := intsAre_of r1
  have i2 : IntsAre its2.toArray.toList ms := intsAre_of r2
  exact HT.lt_tupInts p1 p2 i1 i2 hu ⟨.bl (HT.lexLt ns ms), H, I, rfl, q⟩
/-- t + u, t not empty: u empty gives t itself -/
def rCatT (K : PySem.W.Frag) : R2 := fun x y H Q => ∃ a b xs ys, x = .ref a ∧ y = .ref b ∧ SqT K H a xs ∧ SqT K H b ys ∧ xs ≠ [] ∧ xs.length + ys.length ≤ sizeLine ∧
  (ys = [] → Q (.ref a) H) ∧ (ys ≠ [] → ∀ p, H p = none → Q (.ref p) (upd H p (.tup (xs ++ ys))))
theorem Vals.nil_iff {xs : List V} {us : List Value} (r : Vals xs us) : us = [] ↔ xs = [] := by
  cases r with
  | nil => simp
  | cons _ _ => simp
theorem op_catT : OpR X (binaryOp .Add) (rCatT X.K) := by
  intro pins s σ H x y v u Q I rx ry h
  obtain ⟨a, b, xs, ys, rfl, rfl, ha, hb, hx, hz, q1, q2⟩ := h
  cases rx
  cases ry
  obtain ⟨its, r1, p1, _⟩ := I.tuple ha
  obtain ⟨its2, r2, p2, _⟩ := I.tuple hb
  refine HT.cat_tup p1 p2 (fun z => hx (r1.nil_iff.mp z)) (fun z => ⟨.ref a, H, I, rfl, q1 (r2.nil_iff.mp z)⟩) (fun z => ?_) (by rw [← r1.length, ← r2.length]; exact hz)
  refine ⟨.ref s.heap.objs.size, _, I.laid (t' := s.toks) (o := .tup (xs ++ ys)) (fun b ob q => Heap.get?_push_of_some _ q) (Nat.le_refl _) ?_, rfl, q2 (fun w => z (r2.nil_iff.mpr w)) _ (I.hok.fresh (Nat.le_refl _))⟩
  exact ⟨by rw [List.length_append]; exact hz, _, r1.append r2, IsTup.new _ _⟩
/-- tuple(t) -/
theorem call_tupleT : CallR X (.type "tuple") (fun xs H Q => ∃ a ys, xs = [.ref a] ∧ SqT X.K H a ys ∧ Q (.ref a) H) := by
  intro pins s σ H xs us Q I r h
  obtain ⟨a, ys, rfl, ha, q⟩ := h
  obtain ⟨u, rfl, ru⟩ := vals1 r
  cases ru
  obtain ⟨its, _, p1, _⟩ := I.tuple ha
  exact call_tuple_same (items := its.toArray) p1 ⟨.ref a, H, I, rfl, q⟩
end
end L2

namespace L2
open PySem PySem.Spec PyProof.Rows

/-! ### places -/
/-- the place that an index of any sign means -/
def ixN (n : Nat) (i : Int) : Option Nat := if 0 ≤ i then (if i < n then some i.toNat else none) else if -(n : Int) ≤ i then some (i + n).toNat else none
def atI {α : Type} (xs : List α) (i : Int) : Option α := (ixN xs.length i).bind fun j => xs[j]?
theorem ixN_seq {n : Nat} {i : Int} {j : Nat} (h : ixN n i = some j) : seqIndex? i n = some j ∧ j < n ∧ -(n : Int) ≤ i ∧ i < n := by
  unfold ixN at h
  by_cases h0 : 0 ≤ i
  · rw [if_pos h0] at h
    by_cases h1 : i < n
    · rw [if_pos h1] at h
      have e : i.toNat = j := Option.some.inj h
      exact ⟨by rw [seqIndex_of h0 h1, e], by omega, by omega, h1⟩
    · rw [if_neg h1] at h; cases h
  · rw [if_neg h0] at h
    by_cases h1 : -(n : Int) ≤ i
    · rw [if_pos h1] at h
      have e : (i + n).toNat = j := Option.some.inj h
      exact ⟨by rw [seqIndex_neg (by omega) h1, e], by omega, h1, by omega⟩
    · rw [if_neg h1] at h; cases h
theorem atI_get {α : Type} {xs : List α} {i : Int} {v : α} (h : atI xs i = some v) : ∃ j, seqIndex? i xs.length = some j ∧ xs[j]? = some v ∧ j < xs.length ∧ -(xs.length : Int) ≤ i ∧ i < xs.length := by
  unfold atI at h
  cases e : ixN xs.length i with
  | none => rw [e] at h; cases h
  | some j =>
    rw [e] at h
    obtain ⟨h1, h2, h3, h4⟩ := ixN_seq e
    exact ⟨j, h1, h, h2, h3, h4⟩
theorem atI_nat {α : Type} {xs : List α} {j : Nat} {v : α} (h : xs[j]? = some v) : atI xs (j : Int) = some v := by
  have hj : j < xs.length := (List.getElem?_eq_some_iff.mp h).1
  have e : ixN xs.length (j : Int) = some j := by
    unfold ixN
    rw [if_pos (by omega), if_pos (by omega)]; simp
  unfold atI; rw [e]; exact h
theorem atI_last {α : Type} (xs : List α) (v : α) : atI (xs ++ [v]) (-1) = some v := by
  have hl : (xs ++ [v]).length = xs.length + 1 := by simp
  have e : ixN (xs ++ [v]).length (-1) = some xs.length := by
    unfold ixN
    rw [hl, if_neg (by decide), if_pos (by omega)]
    congr 1
    omega
  unfold atI
  rw [e]
  show (xs ++ [v])[xs.length]? = some v
  simp

/-! ### what may be subscripted -/
/-- what stands as an index of a plain subscript -/
def PlainIx (b : Expr) : Prop := ∀ o i, subscripted b false o i = operate [o, i] (getItem o i)
/-- a subscript by values -/
def IxR (X : Cx) (r : R2) : Prop :=
  ∀ (value slice : Expr) (pins : List (Addr × Obj)) (s : Shared) (σ : St) (H : Hp) (x y : V) (v u : Value) (Q : VK), Inv X pins σ H s → RelV x v → RelV y u → r x y H Q →
    subscripted slice false v u = operate [v, u] (getItem v u) → wpAny (model X.prog X.w) X.A (subscriptTail value slice v u) (EP X pins σ Q) X.xe s
/-- a call of a builtin's method by values: the receiver, the arguments -/
def MtR (X : Cx) (id : String) (r : V → List V → Hp → VK → Prop) : Prop :=
  ∀ (pins : List (Addr × Obj)) (s : Shared) (σ : St) (H : Hp) (x : V) (xs : List V) (v : Value) (us : List Value) (Q : VK), Inv X pins σ H s → RelV x v → Vals xs us → r x xs H Q →
    wpAny (model X.prog X.w) X.A (call (.builtin id) (v :: us)) (EP X pins σ Q) X.xe s
section
variable {X : Cx} {a b : Expr} {ta tb : TE} {pos : Pos}
theorem IxR.or {r r' : R2} (h : IxR X r) (h' : IxR X r') : IxR X (fun x y H Q => r x y H Q ∨ r' x y H Q) := by
  intro value slice pins s σ H x y v u Q I rx ry q hs
  rcases q with q | q
  · exact h value slice pins s σ H x y v u Q I rx ry q hs
  · exact h' value slice pins s σ H x y v u Q I rx ry q hs
theorem MtR.or {id : String} {r r' : V → List V → Hp → VK → Prop} (h : MtR X id r) (h' : MtR X id r') : MtR X id (fun x xs H Q => r x xs H Q ∨ r' x xs H Q) := by
  intro pins s σ H x xs v us Q I rx rs q
  rcases q with q | q
  · exact h pins s σ H x xs v us Q I rx rs q
  · exact h' pins s σ H x xs v us Q I rx rs q
/-- a[b] -/
theorem pe_ix {r : R2} (hr : IxR X r) (ha : PE X a ta) (hb : PE X b tb) (hs : PlainIx b) : PE X (.Subscript a b pos) (tOp r ta tb) := by
  intro pins s σ H Q I h
  exact Subscript_ (binT ha hb I h fun v u s2 x y H2 I2 rx ry q => hr a b pins s2 σ H2 x y v u Q I2 rx ry q (hs _ _))

def rIxL (K : PySem.W.Frag) : R2 := fun x y H Q => ∃ p xs i v, x = .ref p ∧ y = .int i ∧ SqL K H p xs ∧ atI xs i = some v ∧ Q v H
def rIxT (K : PySem.W.Frag) : R2 := fun x y H Q => ∃ p xs i v, x = .ref p ∧ y = .int i ∧ SqT K H p xs ∧ atI xs i = some v ∧ Q v H
def rIxS : R2 := fun x y H Q => ∃ z i c, x = .str z ∧ y = .int i ∧ z.length ≤ sizeLine ∧ atI z.cps.toList i = some c ∧ Q (.str ⟨#[c]⟩) H
theorem ix_list : IxR X (rIxL X.K) := by
  intro value slice pins s σ H x y v u Q I rx ry h hs
  obtain ⟨p, xs, i, z, rfl, rfl, hq, he, q⟩ := h
  cases rx
  obtain ⟨t, rfl⟩ := ry
  obtain ⟨its, r, pl, hz⟩ := I.list hq
  obtain ⟨j, h1, h2, h3, h4, h5⟩ := atI_get he
  obtain ⟨w, ew, rw'⟩ := r.get h2
  have hl := r.length
  have hn := line63
  have fin : EP X pins σ Q w s := ⟨z, H, I, rw', q⟩
  by_cases h0 : 0 ≤ i
  · have hj : i.toNat = j := by
      rw [seqIndex_of h0 h5] at h1
      exact Option.some.inj h1
    exact item_listR pl.isList h0 (by omega) (by rw [hj]; simpa using ew) fin hs
  · have hj : (i + (its.toArray.size : Int)).toNat = j := by
      rw [seqIndex_neg (by omega) h4] at h1
      rw [List.size_toArray, ← hl]
      exact Option.some.inj h1
    exact subscriptTail_builtinR (x := w) pl.isList.typeIs slot_list_getitem.lookup
      (wpAny_getItem_list_neg (Q := fun r s' => r = w ∧ EP X pins σ Q r s') pl.isList (by omega) (by rw [List.size_toArray] <;> omega) (by omega) (by rw [hj]; simpa using ew) ⟨rfl, fin⟩) hs
theorem ix_tup : IxR X (rIxT X.K) := by
  intro value slice pins s σ H x y v u Q I rx ry h hs
  obtain ⟨p, xs, i, z, rfl, rfl, hq, he, q⟩ := h
  cases rx
  obtain ⟨t, rfl⟩ := ry
  obtain ⟨its, r, pl, hz⟩ := I.tuple hq
  obtain ⟨j, h1, h2, h3, h4, h5⟩ := atI_get he
  obtain ⟨w, ew, rw'⟩ := r.get h2
  have hl := r.length
  have hn := line63
  have fin : EP X pins σ Q w s := ⟨z, H, I, rw', q⟩
  exact subscriptTail_builtinR (x := w) pl.typeIs slot_tuple_getitem.lookup
    (getItem_tuple (j := j) (Q := fun r s' => r = w ∧ EP X pins σ Q r s') pl (by omega) (by omega) (by rw [List.size_toArray, ← hl]; exact h1) (by simpa using ew) ⟨rfl, fin⟩) hs
theorem ix_str : IxR X rIxS := by
  intro value slice pins s σ H x y v u Q I rx ry h hs
  obtain ⟨z, i, c, rfl, rfl, hz, he, q⟩ := h
  obtain ⟨t, rfl⟩ := rx
  obtain ⟨t', rfl⟩ := ry
  obtain ⟨j, h1, h2, h3, h4, h5⟩ := atI_get he
  have hl : z.cps.toList.length = z.length := by simp [Str.length]
  rw [hl] at h1 h4 h5
  have hn := line63
  exact tail_any (typeIs_str s z t) slot_str_getitem.lookup (getItem_str (c := c) (by
    have e1 : decide (i < -(2 ^ 63 : Int)) = false := decide_eq_false (by omega)
    have e2 : decide (i ≥ 2 ^ 63) = false := decide_eq_false (by omega)
    rw [e1, e2, Bool.or_false]) (by rw [h1]; simpa using h2) ⟨.str ⟨#[c]⟩, H, I.tok _, ⟨_, rfl⟩, q⟩) hs
/-- list, tuple or str -/
def rIx (K : PySem.W.Frag) : R2 := fun x y H Q => rIxL K x y H Q ∨ rIxT K x y H Q ∨ rIxS x y H Q
theorem ix_seq : IxR X (rIx X.K) := ix_list.or (ix_tup.or ix_str)

/-! ### xs[i] = v, any sign -/
/-- the list's object behind a store -/
theorem mapSeq_set (its : List Value) (n j : Nat) (u : Value) : Obj.mapSeq (·.setIfInBounds j u) { cls := .type "list", data := .seq its.toArray n } = { cls := .type "list", data := .seq (its.set j u).toArray n } := by
  simp [Obj.mapSeq]
theorem Inv.lst {pins : List (Addr × Obj)} {σ : St} {H : Hp} {s : Shared} {p : Addr} {xs : List V} (I : Inv X pins σ H s) (h : H p = some (.lst xs)) :
    ∃ (its : List Value) (n : Nat), Vals xs its ∧ s.heap.get? p = some { cls := .type "list", data := .seq its.toArray n } ∧ xs.length ≤ sizeLine := by
  obtain ⟨z, its, n, r, e⟩ := I.hok p _ h
  exact ⟨its, n, r, e, z⟩
/-- the list at p is written by an update of its object -/
theorem Inv.lstUpd {pins : List (Addr × Obj)} {σ : St} {H : Hp} {s : Shared} {p : Addr} {xs ys : List V} {its its' : List Value} {n n' : Nat} {f : Obj → Obj} (I : Inv X pins σ H s) (h : H p = some (.lst xs))
    (ho : s.heap.get? p = some { cls := .type "list", data := .seq its.toArray n }) (hf : f { cls := .type "list", data := .seq its.toArray n } = { cls := .type "list", data := .seq its'.toArray n' }) (r : Vals ys its') (hz : ys.length ≤ sizeLine) (t : Nat) :
    Inv X pins σ (upd H p (.lst ys)) { s with heap := s.heap.update p f, toks := t } := by
  have e : (s.heap.update p f).get? p = some { cls := .type "list", data := .seq its'.toArray n' } := by
    rw [Heap.get?_update_self f ho (by rw [hf] <;> rfl), hf]
  refine I.write (x := p) (e := p) (by rw [h]; trivial) (.inl rfl) (fun b u hb q => (Heap.get?_update_other _ _ (Ne.symm hb)).trans q) ⟨_, e⟩ ?_
  exact ⟨hz, its', n', r, e⟩
def rSetL : V → V → V → Hp → (Hp → Prop) → Prop := fun o i v H Q => ∃ p xs k j, o = .ref p ∧ i = .int k ∧ H p = some (.lst xs) ∧ ixN xs.length k = some j ∧ Q (upd H p (.lst (xs.set j v)))
theorem set_list : PSet X rSetL := by
  intro pins s σ H o i v ov iv u Q I ro ri rv h
  obtain ⟨p, xs, k, j, rfl, rfl, hp, hj, q⟩ := h
  cases ro
  obtain ⟨t, rfl⟩ := ri
  obtain ⟨its, n, r, ho, hz⟩ := I.lst hp
  obtain ⟨h1, h2, h3, h4⟩ := ixN_seq hj
  have hl := r.length
  have hn := line63
  have I' : Inv X pins σ (upd H p (.lst (xs.set j v))) { s with heap := s.heap.update p (Obj.mapSeq (·.setIfInBounds j u)) } :=
    I.lstUpd hp ho (mapSeq_set its n j u) (r.set rv j) (by rw [List.length_set]; exact hz) s.toks
  by_cases h0 : 0 ≤ k
  · have hk : k.toNat = j := by
      rw [seqIndex_of h0 h4] at h1
      exact Option.some.inj h1
    exact PySem.W.ki_setAt ho h0 (by omega) (by rw [List.size_toArray, ← hl]; exact h4) (by rw [hk]; exact ⟨_, I', q⟩)
  · have hk : (k + (its.toArray.size : Int)).toNat = j := by
      rw [seqIndex_neg (by omega) h3] at h1
      rw [List.size_toArray, ← hl]
      exact Option.some.inj h1
    exact PySem.W.ki_setBack ho (by omega) (by rw [List.size_toArray, ← hl]; exact h3) (by omega) (by rw [hk]; exact ⟨_, I', q⟩)

/-! ### slices -/
theorem slice_bounds (lo hi : Option Int) (n : Nat) : (sliceBounds lo hi none n).1 = ((HT.sIx n 0 lo : Nat) : Int) ∧ (sliceBounds lo hi none n).2.1 = ((HT.sIx n n hi : Nat) : Int) ∧ (sliceBounds lo hi none n).2.2 = 1 := by
  refine ⟨?_, ?_, rfl⟩
  · cases lo with
    | none => simp [sliceBounds, HT.sIx]
    | some i =>
      simp only [sliceBounds, HT.sIx, Option.getD_none, show (1 : Int) > 0 by decide, if_true]
      by_cases h : i < 0
      · simp only [h, if_true] <;> omega
      · simp only [h, if_false] <;> omega
  · cases hi with
    | none => simp [sliceBounds, HT.sIx]
    | some i =>
      simp only [sliceBounds, HT.sIx, Option.getD_none, show (1 : Int) > 0 by decide, if_true]
      by_cases h : i < 0
      · simp only [h, if_true] <;> omega
      · simp only [h, if_false] <;> omega
theorem slicePick_cut (its : List Value) (lo hi : Option Int) : slicePick its.toArray lo hi none = ((its.drop (HT.sIx its.length 0 lo)).take (HT.sIx its.length its.length hi - HT.sIx its.length 0 lo)).toArray := by
  obtain ⟨h1, h2, h3⟩ := slice_bounds lo hi its.toArray.size
  unfold slicePick
  rw [h1, h2, h3]
  simp only [sliceRange_one, pick_run, List.size_toArray] <;> rfl
/-- xs[lo:hi] of a list: a new list -/
def rSlL (K : PySem.W.Frag) : V → Option Int → Option Int → Hp → VK → Prop := fun x lo hi H Q => ∃ a xs, x = .ref a ∧ SqL K H a xs ∧ ∀ p, H p = none → Q (.ref p) (upd H p (.lst (cutV xs lo hi)))
theorem sl_list : SlR X (rSlL X.K) := by
  intro pins s σ H x v vl vu lo hi sl Q I rx hs pl pu h
  obtain ⟨a, xs, rfl, hx, q⟩ := h
  cases rx
  obtain ⟨its, r, ht, hz⟩ := I.list hx
  have hlen := r.length
  refine ⟨"list", _, slot_list_getitem.lookup, ht.isList.typeIs, ?_⟩
  refine wpAny_getItem_list_slice ht.isList hs pl pu .none (by simp) ?_ (by rw [List.size_toArray] <;> omega)
  rw [slicePick_cut, ← hlen]
  refine ⟨.ref s.heap.objs.size, _, I.laid (t' := s.toks) (o := .lst (cutV xs lo hi)) (fun b ob q => Heap.get?_push_of_some _ q) (Nat.le_refl _) ?_, rfl, q _ (I.hok.fresh (Nat.le_refl _))⟩
  exact ⟨Nat.le_trans (cutV_length xs lo hi) hz, _, 0, (r.drop (HT.sIx xs.length 0 lo)).take (HT.sIx xs.length xs.length hi - HT.sIx xs.length 0 lo), Heap.get?_push_size _ rfl⟩

/-! ### in, not in: flat items -/
def flatV : V → Bool
  | .non => true
  | .bl _ => true
  | .int _ => true
  | .str _ => true
  | _ => false
/-- == of flat values -/
def eqV : V → V → Bool
  | .non, .non => true
  | .bl a, .bl b => a == b
  | .bl a, .int b => (if a then 1 else 0) == b
  | .int a, .bl b => a == (if b then 1 else 0)
  | .int a, .int b => a == b
  | .str a, .str b => a == b
  | _, _ => false
theorem eqAt_V {A : Around} {s : Shared} {y x : V} {u v : Value} (ry : RelV y u) (rx : RelV x v) (fy : flatV y = true) (fx : flatV x = true) : SeqAt.EqAt A s u v (eqV y x) := by
  cases y with
  | non =>
    cases ry
    cases x with
    | non => cases rx; exact SeqAt.EqAt.same _
    | bl b => cases rx; exact SeqAt.EqAt.none_bool b
    | int b => obtain ⟨t, rfl⟩ := rx; exact SeqAt.EqAt.none_int b t
    | str b => obtain ⟨t, rfl⟩ := rx; exact SeqAt.EqAt.none_str b t
    | _ => exact absurd (show false = true from fx) Bool.false_ne_true
  | bl a =>
    cases ry
    cases x with
    | non => cases rx; exact SeqAt.EqAt.bool_none a
    | bl b => cases rx; exact SeqAt.EqAt.bool_bool a b
    | int b => obtain ⟨t, rfl⟩ := rx; exact SeqAt.EqAt.bool_int a b t
    | str b => obtain ⟨t, rfl⟩ := rx; exact SeqAt.EqAt.bool_str a b t
    | _ => exact absurd (show false = true from fx) Bool.false_ne_true
  | int a =>
    obtain ⟨t', rfl⟩ := ry
    cases x with
    | non => cases rx; exact SeqAt.EqAt.int_none a t'
    | bl b => cases rx; exact SeqAt.EqAt.int_bool a t' b
    | int b => obtain ⟨t, rfl⟩ := rx; exact SeqAt.EqAt.int_int a t' b t
    | str b => obtain ⟨t, rfl⟩ := rx; exact SeqAt.EqAt.int_str a t' b t
    | _ => exact absurd (show false = true from fx) Bool.false_ne_true
  | str a =>
    obtain ⟨t', rfl⟩ := ry
    cases x with
    | non => cases rx; exact SeqAt.EqAt.str_none a t'
    | bl b => cases rx; exact SeqAt.EqAt.str_bool a t' b
    | int b => obtain ⟨t, rfl⟩ := rx; exact SeqAt.EqAt.str_int a t' b t
    | str b => obtain ⟨t, rfl⟩ := rx; exact SeqAt.EqAt.str_str a t' b t
    | _ => exact absurd (show false = true from fx) Bool.false_ne_true
  | _ => exact absurd (show false = true from fy) Bool.false_ne_true
/-- the items' answers, read off the values (a value's own answer does not lean on its token) -/
def eqU (x : V) (u : Value) : Bool := match u with
  | .none => eqV .non x
  | .bool b => eqV (.bl b) x
  | .int i _ => eqV (.int i) x
  | .str z _ => eqV (.str z) x
  | _ => false
theorem eqU_of {x y : V} {u : Value} (r : RelV y u) (f : flatV y = true) : eqU x u = eqV y x := by
  cases y with
  | non => cases r; rfl
  | bl b => cases r; rfl
  | int i => obtain ⟨t, rfl⟩ := r; rfl
  | str z => obtain ⟨t, rfl⟩ := r; rfl
  | _ => exact absurd (show false = true from f) Bool.false_ne_true
theorem any_eqU {x : V} : ∀ {xs : List V} {us : List Value}, Vals xs us → xs.all flatV = true → us.any (eqU x) = xs.any fun y => eqV y x
  | _, _, .nil, _ => rfl
  | y :: xs, u :: us, .cons r t, f => by
    rw [List.all_cons, Bool.and_eq_true] at f
    rw [List.any_cons, List.any_cons, eqU_of r f.1, any_eqU t f.2]
theorem mem_eqAt {A : Around} {s : Shared} {x : V} {v : Value} (rx : RelV x v) (fx : flatV x = true) : ∀ {xs : List V} {us : List Value}, Vals xs us → xs.all flatV = true → ∀ u ∈ us, SeqAt.EqAt A s u v (eqU x u)
  | _, _, .nil, _ => fun u hu => by cases hu
  | y :: xs, u :: us, .cons r t, f => fun u' hu => by
    rw [List.all_cons, Bool.and_eq_true] at f
    rcases List.mem_cons.mp hu with rfl | hu
    · rw [eqU_of r f.1]; exact eqAt_V r rx f.1 fx
    · exact mem_eqAt rx fx t f.2 u' hu
def inV (x : V) (xs : List V) : Bool := xs.any fun y => eqV y x
/-- x in a list or tuple of flat items -/
def rIn (K : PySem.W.Frag) (neg : Bool) : R2 := fun x y H Q => ∃ p xs, y = .ref p ∧ (SqL K H p xs ∨ SqT K H p xs) ∧ flatV x = true ∧ xs.all flatV = true ∧ Q (.bl (if neg then !inV x xs else inV x xs)) H
theorem op_in_seq : OpR X (compareOp .In) (rIn X.K false) := by
  intro pins s σ H x y v u Q I rx ry h
  obtain ⟨p, xs, rfl, hq, fx, fs, q⟩ := h
  cases ry
  rcases hq with hq | hq
  · obtain ⟨its, r, pl, hz⟩ := I.list hq
    refine SeqAt.in_listAt (eqU x) pl.isList (fun w hw => mem_eqAt rx fx r fs w (by simpa using hw)) ⟨.bl _, H, I, rfl, ?_⟩
    rw [show its.toArray.any (eqU x) = its.any (eqU x) by simp, any_eqU r fs]
    exact q
  · obtain ⟨its, r, pl, hz⟩ := I.tuple hq
    refine SeqAt.in_tupleAt (eqU x) pl (fun w hw => mem_eqAt rx fx r fs w (by simpa using hw)) ⟨.bl _, H, I, rfl, ?_⟩
    rw [show its.toArray.any (eqU x) = its.any (eqU x) by simp, any_eqU r fs]
    exact q
theorem op_notIn_seq : OpR X (compareOp .NotIn) (rIn X.K true) := by
  intro pins s σ H x y v u Q I rx ry h
  obtain ⟨p, xs, rfl, hq, fx, fs, q⟩ := h
  cases ry
  rcases hq with hq | hq
  · obtain ⟨its, r, pl, hz⟩ := I.list hq
    refine SeqAt.notIn_listAt (eqU x) pl.isList (fun w hw => mem_eqAt rx fx r fs w (by simpa using hw)) ⟨.bl _, H, I, rfl, ?_⟩
    rw [show its.toArray.any (eqU x) = its.any (eqU x) by simp, any_eqU r fs]
    exact q
  · obtain ⟨its, r, pl, hz⟩ := I.tuple hq
    refine SeqAt.notIn_tupleAt (eqU x) pl (fun w hw => mem_eqAt rx fx r fs w (by simpa using hw)) ⟨.bl _, H, I, rfl, ?_⟩
    rw [show its.toArray.any (eqU x) = its.any (eqU x) by simp, any_eqU r fs]
    exact q
theorem op_notIn_str : OpR X (compareOp .NotIn) (fun x y H Q => ∃ i j, x = .str i ∧ y = .str j ∧ Q (.bl (!(!(Builtin.Str.occurrences j i 0 j.length 1).isEmpty))) H) := by
  intro pins s σ H x y v u Q I rx ry h
  obtain ⟨i, j, rfl, rfl, q⟩ := h
  obtain ⟨t, rfl⟩ := rx
  obtain ⟨t', rfl⟩ := ry
  exact notIn_str ⟨.bl _, H, I, rfl, q⟩

/-! ### len, list(x), tuple(x) of any list or tuple that is read -/
theorem call_len_seq : CallR X (.builtin "len") (fun xs H Q => ∃ p ys, xs = [.ref p] ∧ (SqL X.K H p ys ∨ SqT X.K H p ys) ∧ Q (.int ys.length) H) := by
  intro pins s σ H xs us Q I r h
  obtain ⟨p, ys, rfl, hq, q⟩ := h
  obtain ⟨u, rfl, rx⟩ := vals1 r
  cases rx
  have hn := line63
  rcases hq with hq | hq
  · obtain ⟨its, r', pl, hz⟩ := I.list hq
    have hlen := r'.length
    exact Calls.call_len_list pl.isList (by simp only [List.size_toArray] <;> omega) ⟨.int ys.length, H, I.tok _, ⟨s.toks + 1, by rw [List.size_toArray, hlen]⟩, q⟩
  · obtain ⟨its, r', pl, hz⟩ := I.tuple hq
    have hlen := r'.length
    exact len_tuple pl (by simp only [List.size_toArray] <;> omega) ⟨.int ys.length, H, I.tok _, ⟨s.toks + 1, by rw [List.size_toArray, hlen]⟩, q⟩
theorem call_len_str : CallR X (.builtin "len") (fun xs H Q => ∃ z, xs = [.str z] ∧ z.length ≤ sizeLine ∧ Q (.int z.length) H) := by
  intro pins s σ H xs us Q I r h
  obtain ⟨z, rfl, hz, q⟩ := h
  obtain ⟨u, rfl, t, rfl⟩ := vals1 r
  have hn := line63
  exact len_str (by omega) ⟨.int z.length, H, I.tok _, ⟨_, rfl⟩, q⟩
theorem CallR.or {f : Value} {r r' : List V → Hp → VK → Prop} (h : CallR X f r) (h' : CallR X f r') : CallR X f (fun xs H Q => r xs H Q ∨ r' xs H Q) := by
  intro pins s σ H xs us Q I rs q
  rcases q with q | q
  · exact h pins s σ H xs us Q I rs q
  · exact h' pins s σ H xs us Q I rs q
theorem call_list_of : CallR X (.type "list") (fun xs H Q => ∃ p ys, xs = [.ref p] ∧ (SqL X.K H p ys ∨ SqT X.K H p ys) ∧ ∀ l, H l = none → Q (.ref l) (upd H l (.lst ys))) := by
  intro pins s σ H xs us Q I r h
  obtain ⟨p, ys, rfl, hq, q⟩ := h
  obtain ⟨u, rfl, rx⟩ := vals1 r
  cases rx
  have fin : ∀ (its : List Value), Vals ys its → ys.length ≤ sizeLine → ∀ (h' : Heap) (c' : Nat), (∀ b o', s.heap.get? b = some o' → h'.get? b = some o') →
      h'.get? s.heap.objs.size = some { cls := .type "list", dict := none, data := .seq its.toArray c', slots := #[] } → EP X pins σ Q (.ref s.heap.objs.size) { s with heap := h' } := fun its r' hz h' c' kp e =>
    ⟨.ref s.heap.objs.size, _, I.laid (t' := s.toks) kp (Nat.le_refl _) (show ObjOk X.prog X.w _ h' _ (.lst ys) from ⟨hz, its, c', r', e⟩), rfl, q _ (I.hok.fresh (Nat.le_refl _))⟩
  rcases hq with hq | hq
  · obtain ⟨its, r', pl, hz⟩ := I.list hq
    have hlen := r'.length
    obtain ⟨o, ho, hc, n, hd⟩ := pl.isList
    exact call_list_seq p (.inl rfl) ho hc hd (fun h' c' kp e => fin its r' hz h' c' kp e) (by simp only [List.size_toArray] <;> omega)
  · obtain ⟨its, r', pl, hz⟩ := I.tuple hq
    have hlen := r'.length
    obtain ⟨o, ho, hc, n, hd⟩ := pl
    exact call_list_seq p (.inr rfl) ho hc hd (fun h' c' kp e => fin its r' hz h' c' kp e) (by simp only [List.size_toArray] <;> omega)
theorem call_tuple_of : CallR X (.type "tuple") (fun xs H Q => ∃ p ys, xs = [.ref p] ∧ ((SqL X.K H p ys ∧ ∀ l, H l = none → Q (.ref l) (upd H l (.tup ys))) ∨ (SqT X.K H p ys ∧ Q (.ref p) H))) := by
  intro pins s σ H xs us Q I r h
  obtain ⟨p, ys, rfl, h⟩ := h
  obtain ⟨u, rfl, rx⟩ := vals1 r
  cases rx
  rcases h with ⟨hq, q⟩ | ⟨hq, q⟩
  · obtain ⟨its, r', pl, hz⟩ := I.list hq
    have hlen := r'.length
    refine call_tuple_list pl.isList (fun h' kp => ?_) (by simp only [List.size_toArray] <;> omega)
    have I1 : Inv X pins σ H { s with heap := h' } := I.kept (t' := s.toks) kp
    have I2 : Inv X pins σ (upd H h'.objs.size (.tup ys)) { s with heap := h'.push { cls := .type "tuple", data := .seq its.toArray } } :=
      I1.laid (t' := s.toks) (fun b o e => Heap.get?_push_of_some _ e) (Nat.le_refl _) (show ObjOk X.prog X.w _ _ _ (.tup ys) from ⟨hz, its, r', IsTup.new _ _⟩)
    exact ⟨.ref h'.objs.size, _, I2, rfl, q _ (I1.hok.fresh (Nat.le_refl _))⟩
  · obtain ⟨its, r', pl, hz⟩ := I.tuple hq
    exact call_tuple_same pl ⟨.ref p, H, I, rfl, q⟩

/-! ### the call of a builtin's method: o.m(..) -/
/-- the value is of that builtin type -/
def tyV (K : PySem.W.Frag) (T : String) (x : V) (H : Hp) : Prop := match x with
  | .str _ => T = "str"
  | .int _ => T = "int"
  | .ref p => (T = "list" ∧ ∃ xs, SqL K H p xs) ∨ (T = "tuple" ∧ ∃ o, K.lookup p = some o ∧ o.cls = .type "tuple" ∧ o.dict = none) ∨
      (T = "dict" ∧ ((∃ kvs, H p = some (.dK kvs)) ∨ ∃ kvs, H p = some (.dT kvs))) ∨ (T = "set" ∧ ∃ S n, H p = some (.set S n))
  | _ => False
theorem tyV_is {pins : List (Addr × Obj)} {σ : St} {H : Hp} {s : Shared} {T : String} {x : V} {v : Value} (I : Inv X pins σ H s) (r : RelV x v) (ty : tyV X.K T x H) :
    s.TypeIs v T ∧ ∀ a, v = .ref a → ∃ ob, s.heap.get? a = some ob ∧ ob.dict = none := by
  cases x with
  | str z =>
    obtain ⟨t, rfl⟩ := r
    cases (show T = "str" from ty)
    exact ⟨typeIs_str s z t, fun _ e => nomatch e⟩
  | int i =>
    obtain ⟨t, rfl⟩ := r
    cases (show T = "int" from ty)
    exact ⟨typeIs_int s i t, fun _ e => nomatch e⟩
  | ref p =>
    cases r
    rcases ty with ⟨rfl, xs, hq⟩ | ⟨rfl, o, hk, hc, hd⟩ | ⟨rfl, hk⟩ | ⟨rfl, S, n, hk⟩
    · obtain ⟨its, _, pl, _⟩ := I.list hq
      refine ⟨pl.isList.typeIs, fun a e => ?_⟩
      cases e
      obtain ⟨o, n, e, c, hd, _⟩ := pl
      exact ⟨o, e, hd⟩
    · refine ⟨⟨o, I.kIn p o hk, hc⟩, fun a e => ?_⟩
      cases e
      exact ⟨o, I.kIn _ o hk, hd⟩
    · have z : ∃ o, s.heap.get? p = some o ∧ o.ExactDict := by
        rcases hk with ⟨kvs, hk⟩ | ⟨kvs, hk⟩
        · obtain ⟨_, _, _, _, o, _, _, e, ex, _⟩ := I.hok p _ hk
          exact ⟨o, e, ex⟩
        · obtain ⟨_, _, _, _, o, _, _, e, ex, _⟩ := I.hok p _ hk
          exact ⟨o, e, ex⟩
      obtain ⟨o, e, ex⟩ := z
      refine ⟨⟨o, e, ex.1⟩, fun a e2 => ?_⟩
      cases e2
      exact ⟨o, e, ex.2.1⟩
    · obtain ⟨o, _, _, _, e, ex, _⟩ := I.hok p _ hk
      refine ⟨⟨o, e, ex.1⟩, fun a e2 => ?_⟩
      cases e2
      exact ⟨o, e, ex.2.1⟩
  | _ => exact False.elim ty
def tBM0 (K : PySem.W.Frag) (T : String) (r : V → List V → Hp → VK → Prop) (to : TE) : TE := fun σ H Q => to σ H fun x H1 => tyV K T x H1 ∧ r x [] H1 Q
def tBM (K : PySem.W.Frag) (T : String) (r : V → List V → Hp → VK → Prop) (to : TE) (t : TA) : TE := fun σ H Q => to σ H fun x H1 => tyV K T x H1 ∧ t σ H1 fun xs H2 => r x xs H2 Q
variable {o e : Expr} {es : List Expr} {to : TE} {t : TA} {name : Str} {apos cpos : Pos} {T id : String} {r : V → List V → Hp → VK → Prop}
theorem pe_bm0 (pa : PlainAttrs T) (slot : Slot T name id) (hty : typeOf (.builtin id) = pure (.type "method_descriptor")) (hm : MtR X id r) (ho : PE X o to)
    (hbase : attributeBase o name X.env (eval o X.env) = eval o X.env := by rfl) (hline : (apos.endLine == cpos.line) = true := by rfl) : PE X (.Call (.Attribute o name apos) [] [] cpos) (tBM0 X.K T r to) := by
  intro pins s σ H Q I h
  refine wpAny_Call_method0_late hbase hline (thn (ho pins s σ H _ I h) fun v s1 ⟨x, H1, I1, r1, ty, q1⟩ => ?_)
  obtain ⟨h1, h2⟩ := tyV_is I1 r1 ty
  exact ⟨T, id, pa, slot, hty, h1, h2, Calls.callWith_builtin rfl (PySem.evalArgs_none (hm pins s1 σ H1 x [] v [] Q I1 r1 .nil q1))⟩
theorem pe_bm (pa : PlainAttrs T) (slot : Slot T name id) (hty : typeOf (.builtin id) = pure (.type "method_descriptor")) (hm : MtR X id r) (ho : PE X o to) (ha : PA X (e :: es) t)
    (hbase : attributeBase o name X.env (eval o X.env) = eval o X.env := by rfl)
    (hfew : ((backTo cpos (starEach (e :: es) X.env)).all (fun x => !x.1) && (backToKw cpos (keywordEach [] X.env)).all (fun x => x.1.isSome)
      && decide ((e :: es).length + ([] : List Keyword).length + (if ([] : List Keyword).isEmpty then 0 else 1) < 30)) = true := by rfl)
    (hline : (apos.endLine == cpos.line) = true := by rfl) (hs : starEach (e :: es) X.env = (false, eval e X.env) :: starEach es X.env := by rfl) (hplain : (backTo cpos (starEach es X.env)).any (·.1) = false := by rfl) :
    PE X (.Call (.Attribute o name apos) (e :: es) [] cpos) (tBM X.K T r to t) := by
  intro pins s σ H Q I h
  refine wpAny_Call_method_late hbase hfew hline rfl (thn (ho pins s σ H _ I h) fun v s1 ⟨x, H1, I1, r1, ty, q1⟩ => ?_)
  obtain ⟨h1, h2⟩ := tyV_is I1 r1 ty
  refine ⟨T, id, pa, slot, hty, h1, h2, ?_⟩
  have hA := ha cpos pins s1 σ H1 _ I1 q1
  rw [hs] at hA ⊢
  refine Calls.callWith_builtin (by show (false || (backTo cpos (starEach es X.env)).any (·.1)) = false; rw [hplain] <;> rfl) (Calls.evalArgs_plain ?_)
  exact thn hA fun us s2 ⟨vs, H2, I2, r2, q2⟩ => hm pins s2 σ H2 x vs v us Q I2 r1 r2 q2
/- xs.append(e), list.index on a module's tuple .. are MtR facts of 06m -/
end
end L2

namespace L2
open PySem PySem.Spec PyProof.Rows

def MtM (X : Cx) (id : String) (r : V → List V → Hp → VK → Prop) : Prop :=
  ∀ (pins : List (Addr × Obj)) (s : Shared) (σ : St) (H : Hp) (x : V) (xs : List V) (v : Value) (us : List Value) (Q : VK), Inv X pins σ H s → RelV x v → Vals xs us → r x xs H Q →
    wpAny (model X.prog X.w) X.A (call (.builtin id) (v :: us)) (EP X pins σ Q) X.xe s

/-! ### lists of values -/
theorem Vals.one : ∀ {x : V} {us : List Value}, Vals [x] us → ∃ u, us = [u] ∧ RelV x u
  | _, _, .cons r .nil => ⟨_, rfl, r⟩
theorem Vals.two : ∀ {x y : V} {us : List Value}, Vals [x, y] us → ∃ u v, us = [u, v] ∧ RelV x u ∧ RelV y v
  | _, _, _, .cons r (.cons q .nil) => ⟨_, _, rfl, r, q⟩
theorem Vals.zero : ∀ {us : List Value}, Vals [] us → us = []
  | _, .nil => rfl
theorem Vals.dropLast {xs : List V} {us : List Value} (h : Vals xs us) : Vals xs.dropLast us.dropLast := by
  induction h with
  | nil => exact .nil
  | cons r t ih =>
    cases t with
    | nil => exact .nil
    | cons q t' => exact .cons r ih
theorem Vals.eraseIdx : ∀ {xs : List V} {us : List Value} (i : Nat), Vals xs us → Vals (xs.eraseIdx i) (us.eraseIdx i)
  | _, _, _, .nil => .nil
  | _, _, 0, .cons _ t => t
  | _, _, i + 1, .cons r t => .cons r (Vals.eraseIdx i t)
theorem Vals.reverse {xs : List V} {us : List Value} (h : Vals xs us) : Vals xs.reverse us.reverse := by
  induction h with
  | nil => exact .nil
  | cons r t ih => rw [List.reverse_cons, List.reverse_cons]; exact Vals.append ih (.cons r .nil)
theorem Vals.rep {xs : List V} {us : List Value} (h : Vals xs us) : ∀ k : Nat, Vals (List.replicate k xs).flatten (List.replicate k us).flatten
  | 0 => .nil
  | k + 1 => by
    rw [List.replicate_succ, List.replicate_succ, List.flatten_cons, List.flatten_cons]
    exact Vals.append h (Vals.rep h k)
theorem erase_last {α : Type} (l : List α) : l.eraseIdx (l.length - 1) = l.dropLast := by
  induction l with
  | nil => rfl
  | cons a r ih =>
    cases r with
    | nil => rfl
    | cons b r =>
      have e : (a :: b :: r).length - 1 = ((b :: r).length - 1) + 1 := by
        have h1 : (a :: b :: r).length = r.length + 2 := rfl
        have h2 : (b :: r).length = r.length + 1 := rfl
        omega
      rw [e, List.eraseIdx_cons_succ, ih]
      all_goals rfl
theorem len_erase {α : Type} : ∀ (l : List α) (i : Nat), (l.eraseIdx i).length ≤ l.length
  | [], _ => Nat.le_refl _
  | _ :: _, 0 => Nat.le_succ _
  | _ :: r, i + 1 => Nat.succ_le_succ (len_erase r i)
theorem foldl_rep (its : List Value) : ∀ (k : Nat) (acc : List Value),
    List.foldl (fun x1 x2 => x1 ++ x2) acc.toArray (List.replicate k its.toArray) = (acc ++ (List.replicate k its).flatten).toArray
  | 0, acc => by simp
  | k + 1, acc => by
    have e : acc.toArray ++ its.toArray = (acc ++ its).toArray := by simp
    have e2 : (acc ++ its) ++ (List.replicate k its).flatten = acc ++ (List.replicate (k + 1) its).flatten := by
      rw [List.replicate_succ, List.flatten_cons, List.append_assoc]
    rw [← e2, ← foldl_rep its k (acc ++ its), ← e, List.replicate_succ, List.foldl_cons]

section
variable {X : Cx} {pins : List (Addr × Obj)} {σ : St} {H : Hp} {s : Shared} {l b : Addr} {xs ys zs : List V}

/-! ### the two steps: a tracked list is rewritten, a new list is laid -/
theorem Inv.lset {its its' : List Value} {n : Nat} {f : Array Value → Array Value} {t' : Nat} (I : Inv X pins σ H s) (hH : H l = some (.lst xs))
    (e : s.heap.get? l = some { cls := .type "list", data := .seq its.toArray n }) (hf : f its.toArray = its'.toArray) (hv : Vals ys its') (hz : ys.length ≤ sizeLine) :
    Inv X pins σ (upd H l (.lst ys)) { s with heap := s.heap.update l (Obj.mapSeq f), toks := t' } := by
  have q := PySem.IsL.update e f
  rw [hf] at q
  refine I.write (x := l) (e := l) (by rw [hH]; exact trivial) (.inl rfl) (fun b' u hb hu => (Heap.get?_update_other s.heap (Obj.mapSeq f) (Ne.symm hb)).trans hu) ⟨_, q⟩ ?_
  exact ⟨hz, its', _, hv, q⟩
theorem Inv.lnew {its : List Value} {t' : Nat} (I : Inv X pins σ H s) (hv : Vals ys its) (hz : ys.length ≤ sizeLine) :
    Inv X pins σ (upd H s.heap.objs.size (.lst ys)) { s with heap := s.heap.push { cls := .type "list", data := .seq its.toArray }, toks := t' } :=
  I.laid (fun _ _ q => Heap.get?_push_of_some _ q) (Nat.le_refl _) ⟨hz, its, 0, hv, Heap.get?_push_size _ rfl⟩
theorem Inv.fresh (I : Inv X pins σ H s) : H s.heap.objs.size = none := I.hok.fresh (Nat.le_refl _)
theorem Inv.lstM (I : Inv X pins σ H s) (hH : H l = some (.lst xs)) : xs.length ≤ sizeLine ∧ ∃ (its : List Value) (n : Nat), Vals xs its ∧ xs.length = its.length ∧ s.heap.get? l = some { cls := .type "list", data := .seq its.toArray n } := by
  obtain ⟨z, its, n, r, e⟩ := I.hok l _ hH
  exact ⟨z, its, n, r, r.length, e⟩

theorem notLongL {n : Nat} (h : n ≤ sizeLine) : Builtin.List.listTooLong n = false := by
  unfold Builtin.List.listTooLong
  exact decide_eq_false (by omega)
end

section
variable {X : Cx}

/-! ### methods -/
def rAppend : V → List V → Hp → VK → Prop := fun x vs H Q => ∃ l xs y, x = .ref l ∧ vs = [y] ∧ H l = some (.lst xs) ∧ xs.length < sizeLine ∧ Q .non (upd H l (.lst (xs ++ [y])))
theorem mt_append : MtM X "list.append" rAppend := by
  intro pins s σ H x vs v us Q I rx rv h
  obtain ⟨l, xs, y, rfl, rfl, hH, hz, q⟩ := h
  cases rx
  obtain ⟨u, rfl, ru⟩ := rv.one
  obtain ⟨z, its, n, r, hl, e⟩ := I.lstM hH
  refine call_meets F.slot_list_append ⟨_, e, rfl⟩ F.entry_list_append (F.args_list_append_2 _ _) (PySem.list_append l its.toArray n u (by rw [List.size_toArray]; omega)) ⟨e, ?_⟩
  refine ⟨.non, _, I.lset (its' := its ++ [u]) hH e (by simp) (r.append (.cons ru .nil)) ?_, rfl, q⟩
  rw [List.length_append, List.length_singleton]
  omega

def rExtend : V → List V → Hp → VK → Prop := fun x vs H Q => ∃ l b xs zs, x = .ref l ∧ vs = [.ref b] ∧ H l = some (.lst xs) ∧ H b = some (.lst zs) ∧ xs.length + zs.length ≤ sizeLine ∧ Q .non (upd H l (.lst (xs ++ zs)))
theorem mt_extend : MtM X "list.extend" rExtend := by
  intro pins s σ H x vs v us Q I rx rv h
  obtain ⟨l, b, xs, zs, rfl, rfl, hH, hB, hz, q⟩ := h
  cases rx
  obtain ⟨u, rfl, ru⟩ := rv.one
  cases ru
  obtain ⟨z, its, n, r, hl, e⟩ := I.lstM hH
  obtain ⟨z2, its2, n2, r2, hl2, e2⟩ := I.lstM hB
  have hsz : its.toArray.size + its2.toArray.size ≤ sizeLine := by rw [List.size_toArray, List.size_toArray]; omega
  have hlong : ¬ (!its.toArray.isEmpty && Builtin.List.listTooLong (its.toArray.size + its2.toArray.size)) = true := by
    rw [notLongL hsz, Bool.and_false]
    exact Bool.false_ne_true
  refine call_meets F.slot_list_extend ⟨_, e, rfl⟩ F.entry_list_extend (F.args_list_extend_2 _ _)
    (AutoSeq1.list_extend_list_list_0 l its.toArray n b its2.toArray n2 hlong (by rw [List.size_toArray]; omega) (by omega)) ⟨e, e2, ?_⟩
  refine ⟨.non, _, I.lset (its' := its ++ its2) hH e (by simp) (r.append r2) ?_, rfl, q⟩
  rw [List.length_append]
  omega

def rPop : V → List V → Hp → VK → Prop := fun x vs H Q => ∃ l xs y, x = .ref l ∧ vs = [] ∧ H l = some (.lst xs) ∧ xs[xs.length - 1]? = some y ∧ Q y (upd H l (.lst xs.dropLast))
theorem mt_pop : MtM X "list.pop" rPop := by
  intro pins s σ H x vs v us Q I rx rv h
  obtain ⟨l, xs, y, rfl, rfl, hH, hy, q⟩ := h
  cases rx
  have hus := rv.zero
  subst hus
  obtain ⟨z, its, n, r, hl, e⟩ := I.lstM hH
  obtain ⟨u, hu, ru⟩ := r.get hy
  have hy' : its.toArray[its.toArray.size - 1]? = some u := by
    show its.toArray[its.length - 1]? = some u
    rw [← Array.getElem?_toList, ← hl]
    exact hu
  refine call_meets F.slot_list_pop ⟨_, e, rfl⟩ F.entry_list_pop (F.args_list_pop_1 _) (MeetsSeq.list_pop_last l its.toArray n u hy' (by rw [List.size_toArray]; omega)) ⟨e, ?_⟩
  refine ⟨y, _, I.lset (its' := its.dropLast) hH e ?_ r.dropLast ?_, ru, q⟩
  · show its.toArray.eraseIdxIfInBounds (its.toArray.size - 1) = its.dropLast.toArray
    rw [List.size_toArray, List.eraseIdxIfInBounds_toArray, erase_last]
  · rw [List.length_dropLast]
    omega

def rPopAt : V → List V → Hp → VK → Prop := fun x vs H Q => ∃ l xs i k y, x = .ref l ∧ vs = [.int i] ∧ H l = some (.lst xs) ∧ -(2 ^ 63) ≤ i ∧ i < 2 ^ 63 ∧ seqIndex? i xs.length = some k ∧ xs[k]? = some y ∧ Q y (upd H l (.lst (xs.eraseIdx k)))
theorem mt_popAt : MtM X "list.pop" rPopAt := by
  intro pins s σ H x vs v us Q I rx rv h
  obtain ⟨l, xs, i, k, y, rfl, rfl, hH, h1, h2, hk, hy, q⟩ := h
  cases rx
  obtain ⟨u, rfl, ru⟩ := rv.one
  obtain ⟨t, rfl⟩ := ru
  obtain ⟨z, its, n, r, hl, e⟩ := I.lstM hH
  obtain ⟨w, hw, rw'⟩ := r.get hy
  refine call_meets F.slot_list_pop ⟨_, e, rfl⟩ F.entry_list_pop (F.args_list_pop_2 _ _)
    (MeetsSeq.list_pop_at l its.toArray n i t k w (fitsIndex_both h1 h2) (by rw [List.size_toArray, ← hl]; exact hk) (by rw [← Array.getElem?_toList]; exact hw) (by rw [List.size_toArray]; omega)) ⟨e, ?_⟩
  refine ⟨y, _, I.lset (its' := its.eraseIdx k) hH e ?_ (r.eraseIdx k) ?_, rw', q⟩
  · show its.toArray.eraseIdxIfInBounds k = (its.eraseIdx k).toArray
    rw [List.eraseIdxIfInBounds_toArray]
  · have := len_erase xs k
    omega

def rReverse : V → List V → Hp → VK → Prop := fun x vs H Q => ∃ l xs, x = .ref l ∧ vs = [] ∧ H l = some (.lst xs) ∧ Q .non (upd H l (.lst xs.reverse))
theorem mt_reverse : MtM X "list.reverse" rReverse := by
  intro pins s σ H x vs v us Q I rx rv h
  obtain ⟨l, xs, rfl, rfl, hH, q⟩ := h
  cases rx
  have hus := rv.zero
  subst hus
  obtain ⟨z, its, n, r, hl, e⟩ := I.lstM hH
  refine call_meets F.slot_list_reverse ⟨_, e, rfl⟩ F.entry_list_reverse (F.args_list_reverse_1 _) (AutoSeq1.list_reverse_list_0 l its.toArray n (by rw [List.size_toArray]; omega)) ⟨e, ?_⟩
  refine ⟨.non, _, I.lset (its' := its.reverse) hH e (by simp) r.reverse ?_, rfl, q⟩
  rw [List.length_reverse]
  omega

def rClear : V → List V → Hp → VK → Prop := fun x vs H Q => ∃ l xs, x = .ref l ∧ vs = [] ∧ H l = some (.lst xs) ∧ Q .non (upd H l (.lst []))
theorem mt_clear : MtM X "list.clear" rClear := by
  intro pins s σ H x vs v us Q I rx rv h
  obtain ⟨l, xs, rfl, rfl, hH, q⟩ := h
  cases rx
  have hus := rv.zero
  subst hus
  obtain ⟨z, its, n, r, hl, e⟩ := I.lstM hH
  refine call_meets F.slot_list_clear ⟨_, e, rfl⟩ F.entry_list_clear (F.args_list_clear_1 _) (AutoSeq1.list_clear_list_0 l its.toArray n (by rw [List.size_toArray]; omega)) ⟨e, ?_⟩
  exact ⟨.non, _, I.lset (its' := []) (ys := []) hH e rfl .nil (Nat.zero_le _), rfl, q⟩

/-! ### list + list, list += list, list * int -/
def rCat : R2 := fun x y H Q => ∃ l b xs zs, x = .ref l ∧ y = .ref b ∧ H l = some (.lst xs) ∧ H b = some (.lst zs) ∧ xs.length + zs.length ≤ sizeLine ∧ ∀ p, H p = none → Q (.ref p) (upd H p (.lst (xs ++ zs)))
theorem op_cat : OpR X (binaryOp .Add) rCat := by
  intro pins s σ H x y v u Q I rx ry h
  obtain ⟨l, b, xs, zs, rfl, rfl, hH, hB, hz, q⟩ := h
  cases rx
  cases ry
  obtain ⟨z, its, n, r, hl, e⟩ := I.lstM hH
  obtain ⟨z2, its2, n2, r2, hl2, e2⟩ := I.lstM hB
  refine PySem.P.add_list e e2 ?_ (by rw [List.size_toArray, List.size_toArray]; omega)
  have ea : its.toArray ++ its2.toArray = (its ++ its2).toArray := by simp
  rw [ea]
  exact ⟨.ref _, _, I.lnew (t' := s.toks) (r.append r2) (by rw [List.length_append]; omega), rfl, q _ I.fresh⟩
/-- a list times an int (a negative one is nothing) -/
def rRep : R2 := fun x y H Q => ∃ l k xs, x = .ref l ∧ y = .int k ∧ H l = some (.lst xs) ∧ -(2 ^ 63) ≤ k ∧ k < 2 ^ 63 ∧ xs.length * k.toNat ≤ sizeLine ∧
  ∀ p, H p = none → Q (.ref p) (upd H p (.lst (List.replicate k.toNat xs).flatten))
theorem len_rep {α : Type} (xs : List α) (k : Nat) : (List.replicate k xs).flatten.length = k * xs.length := by
  induction k with
  | zero => simp
  | succ k ih => rw [List.replicate_succ, List.flatten_cons, List.length_append, ih, Nat.succ_mul, Nat.add_comm]
theorem op_rep : OpR X (binaryOp .Mult) rRep := by
  intro pins s σ H x y v u Q I rx ry h
  obtain ⟨l, k, xs, rfl, rfl, hH, h1, h2, hz, q⟩ := h
  cases rx
  obtain ⟨t, rfl⟩ := ry
  obtain ⟨z, its, n, r, hl, e⟩ := I.lstM hH
  have hlen : its.toArray.size * k.toNat ≤ sizeLine := by rw [List.size_toArray, ← hl]; exact hz
  have hcap : ¬ its.toArray.size * k.toNat > (2 ^ 63 - 1) / 8 := by
    have : (sizeLine : Nat) ≤ (2 ^ 63 - 1) / 8 := by decide
    omega
  have hfit : ¬ (!Builtin.List.listFitsIndex k) = true := by
    rw [fitsIndex_both h1 h2]
    exact Bool.false_ne_true
  have hlong : ¬ Builtin.List.listTooLong (its.toArray.size * k.toNat) = true := by
    rw [notLongL hlen]
    exact Bool.false_ne_true
  have hnew : List.foldl (fun x1 x2 => x1 ++ x2) #[] (List.replicate (if its.toArray.isEmpty = true then 0 else k.toNat) its.toArray) = (List.replicate k.toNat its).flatten.toArray := by
    have f0 : ∀ m : Nat, List.foldl (fun x1 x2 => x1 ++ x2) #[] (List.replicate m its.toArray) = (List.replicate m its).flatten.toArray := fun m => by
      have := foldl_rep its m []
      rw [List.nil_append] at this
      exact this
    rw [f0]
    cases its with
    | nil => simp
    | cons a r' => rw [if_neg (by simp)]
  refine wpAny_binaryOp_repeat_ref (T := "list") (U := "int") (by decide) ⟨_, e, rfl⟩ (fun s' => typeIs_int s' k t) noFill_list_mul F.fills_int_mul F.slot_int_rmul repeat_list F.slot_int_index.lookup
    (call_meets F.slot_int_rmul (typeIs_int s k t) F.entry_int_rmul (F.args_int_rmul_2 _ _) (int___rmul___int_list k t l its.toArray n)
      ⟨e, rfl, ⟨_, e, rfl⟩, call_meets F.slot_list_mul ⟨_, e, rfl⟩ F.entry_list_mul (F.args_list_mul_2 _ _) (AutoListH.list___mul___list_int_3 l its.toArray n k t hfit hcap hlong) ⟨e, ?_⟩⟩)
  rw [hnew]
  exact ⟨.ref _, _, I.lnew (t' := s.toks) (r.rep k.toNat) (by rw [len_rep, Nat.mul_comm]; exact hz), rfl, q _ I.fresh⟩

/-! ### del xs[i] -/
theorem del_list {pins : List (Addr × Obj)} {s : Shared} {σ : St} {H : Hp} {l : Addr} {xs : List V} {i : Int} {t : Tok} {k : Nat} {Q : Unit → Shared → Prop} (I : Inv X pins σ H s) (hH : H l = some (.lst xs))
    (h1 : -(2 ^ 63) ≤ i) (h2 : i < 2 ^ 63) (hk : seqIndex? i xs.length = some k) (h : ∀ s', Inv X pins σ (upd H l (.lst (xs.eraseIdx k))) s' → Q () s') :
    wpAny (model X.prog X.w) X.A (delItem (.ref l) (.int i t)) Q X.xe s := by
  obtain ⟨z, its, n, r, hl, e⟩ := I.lstM hH
  refine PySem.P.delItem_list (k := k) e (fitsIndex_both h1 h2) (by rw [List.size_toArray, ← hl]; exact hk) (h _ ?_) (by rw [List.size_toArray]; omega)
  refine I.lset (its' := its.eraseIdx k) (t' := s.toks) hH e ?_ (r.eraseIdx k) ?_
  · show its.toArray.eraseIdxIfInBounds k = (its.eraseIdx k).toArray
    rw [List.eraseIdxIfInBounds_toArray]
  · have := len_erase xs k
    omega
end

/-! ### xs[a:b] = ys -/
section
variable {prog : Program} {w : World} {A : Around} {E : Value → Shared → Prop} {s : Shared}
theorem splice_eq (its its2 : List Value) (a c : Nat) : its.toArray.extract 0 a ++ its2.toArray ++ its.toArray.extract c its.toArray.size = (its.take a ++ its2 ++ its.drop c).toArray := by
  apply Array.toList_inj.mp
  first
    | (simp
       exact List.take_of_length_le (by simp))
    | simp [List.take_of_length_le]
    | simp
theorem bounds_run {a c n : Nat} (hac : a ≤ c) (hc : c ≤ n) : sliceBounds (some (a : Int)) (some (c : Int)) none n = ((a : Int), (c : Int), 1) := by
  simp only [sliceBounds, Option.getD_none]
  have h1 : ¬ ((a : Int) < 0) := by omega
  have h2 : ¬ ((c : Int) < 0) := by omega
  simp only [h1, h2, if_false, show (1 : Int) > 0 by decide, if_true]
  congr 1
  · omega
  · congr 1; omega
set_option maxRecDepth 100000 in
/-- list.__setitem__ with a slice of step one and another list -/
theorem setItem_slice {l b sl : Addr} {items new : Array Value} {n n2 : Nat} {vl vu : Value} {a c : Nat} {Q : Unit → Shared → Prop}
    (e : s.heap.get? l = some { cls := .type "list", data := .seq items n }) (e2 : s.heap.get? b = some { cls := .type "list", data := .seq new n2 }) (hne : l ≠ b)
    (hs : s.heap.IsSliceOf sl vl vu .none) (pl : IsPart vl (some (a : Int))) (pu : IsPart vu (some (c : Int))) (hac : a ≤ c) (hc : c ≤ items.size)
    (hsz : items.size + new.size ≤ sizeLine) (h : Q () { s with heap := s.heap.update l (Obj.mapSeq fun xs => xs.extract 0 a ++ new ++ xs.extract c xs.size) }) :
    wpAny (model prog w) A (setItem (.ref l) (.ref sl) (.ref b)) Q E s := by
  have hl : s.heap.IsList l items := PySem.IsL.isList e
  have hb : s.heap.IsList b new := PySem.IsL.isList e2
  obtain ⟨os, hos, hcs, hds⟩ := id hs
  have hTs : s.TypeIs (.ref sl) "slice" := ⟨os, hos, hcs⟩
  have hstep : ¬ ((rawPart none == rawInt 0) = true) := Bool.false_ne_true
  have hsame : Builtin.List.listSameRef (.ref l) (.ref b) = false := by
    unfold Builtin.List.listSameRef
    exact beq_eq_false_iff_ne.mpr hne
  have hmax : (max (a : Int) (c : Int)).toNat = c := by omega
  have hz' : ((fun xs : Array Value => xs.extract 0 a ++ new ++ xs.extract c xs.size) items).size ≤ sizeLine + 1 := by
    simp only [Array.size_append, Array.size_extract]
    omega
  unfold setItem
  try with_reducible refine wpAny_holding ?_
  first | refine wpAny_bind (wpAny_pure ?_) | skip
  refine wpAny_bind (wpAny_sequenceKey hl.typeIs (by decide) ?_)
  refine wpAny_bind (wpAny_callSpecial?_slot (name := Str.ofString "__setitem__") hl.typeIs slot_list_setitem
    (wpAny_call_entry slot_list_setitem hl.typeIs entry_list_setitem ?_ (args_list_setitem _ _ _)))
  show wpAny _ _ (Builtin.List.listSubscript? (.ref sl) >>= _) _ _ s
  refine wpAny_bind ?_
  unfold Builtin.List.listSubscript?
  refine wpAny_bind (wpAny_specialOf hTs slice_no_index ?_)
  simp only [Option.isNone_none, if_true]
  refine wpAny_pure ?_
  show wpAny _ _ (typeOf (.ref sl) >>= _) _ _ s
  refine wpAny_bind (wpAny_typeOf hTs ?_)
  first
    | rw [if_neg (by decide)]
    | refine PySem.W.KFB.if_not (by decide) ?_
  rw [listSliceParts_eq]
  refine wpAny_bind (wpAny_bind (wpAny_field hos hds (x := .none) rfl (wpAny_bind (wpAny_listPart .none ?_))))
  rw [if_neg hstep]
  refine wpAny_bind (wpAny_field hos hds (x := vl) rfl (wpAny_bind (wpAny_listPart pl ?_)))
  refine wpAny_bind (wpAny_field hos hds (x := vu) rfl (wpAny_bind (wpAny_listPart pu (wpAny_pure ?_))))
  first
    | simp only [hsame, Bool.false_eq_true, if_false]
    | refine PySem.W.KFB.if_not hsame ?_
    | (dsimp only
       rw [if_neg (by rw [hsame]; exact Bool.false_ne_true)])
  refine wpAny_bind (m := Builtin.List.listAllItems (.ref b) "must assign iterable to extended slice") ?_
  unfold Builtin.List.listAllItems
  refine wpAny_bind (wpAny_typeOf hb.typeIs ?_)
  first
    | refine PySem.W.KFB.if_so (by decide) ?_
    | rw [if_pos (by decide)]
    | simp only [beq_self_eq_true, Bool.true_or, if_true]
  unfold Builtin.List.listItems
  refine wpAny_bind (wpAny_seqItems e2 rfl (wpAny_pure ?_))
  refine wpAny_bind (wpAny_bind (wpAny_seqItems e rfl (wpAny_pure ?_)))
  refine wpAny_bind (wpAny_of_eq ((sliceIndices_raw (some (a : Int)) (some (c : Int)) none items.size (by simp)).trans (congrArg (pure : Int × Int × Int → Sem (Int × Int × Int)) (bounds_run hac hc))) ?_)
  show wpAny _ _ (if ((1 : Int) == 1) = true then _ else _) _ _ s
  rw [if_pos (by decide)]
  refine wpAny_bind (wpAny_rule ?_)
  first
    | simp only [notLongL hsz, Bool.false_eq_true, if_false]
    | refine PySem.W.KFB.if_not (notLongL hsz) ?_
  first | refine wpAny_bind (wpAny_pure ?_) | skip
  show wpAny _ _ (updateSeq l (fun xs => xs.extract 0 ((a : Int)).toNat ++ new ++ xs.extract (max (a : Int) (c : Int)).toNat xs.size) >>= _) _ _ s
  rw [hmax, Int.toNat_natCast]
  refine wpAny_bind (wpAny_updateSeq (hz := Nat.le_trans (Nat.le_add_right _ _) hsz) (_hz' := hz') e rfl ?_)
  refine wpAny_bind (wpAny_letGo ?_)
  first
    | exact wpAny_bind (wpAny_pure (wpAny_pure ⟨.none, rfl, wpAny_pure h⟩))
    | exact wpAny_pure ⟨.none, rfl, wpAny_pure h⟩
end

section
variable {X : Cx}
/-- xs[a:c] = ys of another list, at the value level: sl is the slice object that was just made -/
theorem set_slice {pins : List (Addr × Obj)} {s : Shared} {σ : St} {H : Hp} {l b sl : Addr} {xs ys : List V} {a c : Int} {vl vu : Value} {Q : Unit → Shared → Prop} (I : Inv X pins σ H s)
    (hH : H l = some (.lst xs)) (hB : H b = some (.lst ys)) (hne : l ≠ b) (hs : s.heap.IsSliceOf sl vl vu .none) (ra : RelV (.int a) vl) (rc : RelV (.int c) vu) (h0 : 0 ≤ a) (hac : a ≤ c) (hc : c ≤ xs.length)
    (hz : xs.length + ys.length ≤ sizeLine) (h : ∀ s', Inv X pins σ (upd H l (.lst (xs.take a.toNat ++ ys ++ xs.drop c.toNat))) s' → Q () s') :
    wpAny (model X.prog X.w) X.A (setItem (.ref l) (.ref sl) (.ref b)) Q X.xe s := by
  obtain ⟨ta, rfl⟩ := ra
  obtain ⟨tc, rfl⟩ := rc
  obtain ⟨z, its, n, r, hl, e⟩ := I.lstM hH
  obtain ⟨z2, its2, n2, r2, hl2, e2⟩ := I.lstM hB
  obtain ⟨a', rfl⟩ := Int.eq_ofNat_of_zero_le h0
  obtain ⟨c', rfl⟩ := Int.eq_ofNat_of_zero_le (Int.le_trans h0 hac)
  simp only [Int.toNat_natCast] at h
  refine setItem_slice (a := a') (c := c') e e2 hne hs (.int _ _) (.int _ _) (by omega) (by rw [List.size_toArray]; omega) (by rw [List.size_toArray, List.size_toArray]; omega) (h _ ?_)
  refine I.lset (its' := its.take a' ++ its2 ++ its.drop c') (t' := s.toks) hH e ?_ (Vals.append (Vals.append (r.take _) r2) (r.drop _)) ?_
  · exact splice_eq its its2 a' c'
  · rw [List.length_append, List.length_append, List.length_take, List.length_drop]
    omega
end
end L2

namespace Att
open PySem PySem.W PySem.Calls PyProof.Rows

/-! ### the script -/
theorem ints_of_wellAll {P : Params} {h : Heap} : ∀ (ns : List Int) (vs : List Value), WellAll P h vs (ns.map WData.int) → IntsAre vs ns := by
  intro ns
  induction ns with
  | nil =>
    intro vs w
    rw [List.map_nil] at w
    cases w
    exact .nil
  | cons n ns ih =>
    intro vs w
    rw [List.map_cons] at w
    cases w with
    | cons a b =>
      cases a
      exact .cons _ _ (ih _ b)

theorem script_of {l : OpenLaw} {n : Nat} (hn : l.most = some n) {P : Params} {h : Heap} {args : List WData} {vals : List Value}
    (hpre : l.row.toRowW.claim.pre args = true) (hwl : WellAll P h vals args) :
    ∃ a vs ns, vals = [Value.ref a] ∧ args = [WData.list (ns.map WData.int)] ∧ h.get? a = some { cls := .type "list", data := .seq vs.toArray } ∧ IntsAre vs ns ∧ ns.length ≤ n := by
  have hsh : WShape.hasAll [] args [.list .int] = true := (pre_splitW hpre).1
  have hc : l.pre.holds [] { args := args } = true := (pre_splitW hpre).2
  obtain ⟨d, r, rfl, h1, h2⟩ := hasAllW_cons hsh
  obtain rfl := hasAllW_nil h2
  obtain ⟨xs, rfl, h3⟩ := hasW_list h1
  obtain ⟨ns, rfl⟩ := items_int h3
  have hlen : ns.length ≤ n := by
    unfold OpenLaw.pre at hc
    have h4 : (WTm.not (.lt (.lit (.int (n : Int))) (.len (.arg 0)))).holds [] { args := [.list (ns.map .int)] } = true := by
      have h4 := (holds_andW hc).1
      rw [hn] at h4
      exact h4
    have h5 := condW_of h4 (w_not (w_lt w_lit (w_len_list (w_arg rfl))))
    rw [List.length_map] at h5
    refine Nat.le_of_not_lt fun q => ?_
    have q' : (n : Int) < ((ns.length : Nat) : Int) := by omega
    first
      | (rw [decide_eq_true q'] at h5; exact absurd h5 (by decide))
      | (simp at h5; omega)
  cases hwl with
  | cons w1 w2 =>
    cases w2
    cases w1 with
    | list ho hall => exact ⟨_, _, ns, rfl, rfl, ho, ints_of_wellAll ns _ hall, hlen⟩

theorem post_true (l : OpenLaw) (args : List WData) : l.row.toRowW.claim.post args (.bool true) args = true :=
  postW_of (r := l.row.toRowW) (X := (true == true))
    (show WShape.has [] (.bool true) .bool = true by first | rfl | decide | simp [WShape.has, WShape.arms, WShape.armsAll])
    (show (WTm.eq .res (.lit (.bool true))).value [] { args := args, res := some (.bool true), after := args } = some (.bool (true == true)) from w_eq_bool (w_res rfl) w_lit) rfl

/-! ### the attachment: holds_open's last premise (the goal 'hc' behind k_head) from a wpAny of the law's body -/
theorem attach {l : OpenLaw} {n : Nat} {q : Program} {loose : List Str} {XP : (Str → Option Value) → Heap → Prop} {YP : World → Heap → Prop} {d : DefRec} {x : Str}
    (hn : l.most = some n) (hdf : d.params.defaults = [])
    (hbind : ∀ pm cd doc v : Value, bindArgs (docDef d.name d.params d.body d.scope pm cd doc) ⟨[v], []⟩ = pure [(x, v)])
    (hx : d.scope.names.lookup x = some .local ∨ d.scope.names.lookup x = some .cell)
    (hk : d.scope.kind = .function) (hco : d.scope.isCoroutine = false) (hgen : d.scope.isGenerator = false)
    (body : ∀ (w : World) (s₀ s₁ s : Shared) (mg mb : Str → Option Value) (fa : Addr) (o : Obj) (pm cd doc : Value) (a : Addr) (vs : List Value) (ns : List Int),
      Ground q loose [] XP w s₀ mg mb s₁.heap → YP w s₁.heap →
      s₁.heap.get? fa = some o → o.data = .func (docDef d.name d.params d.body d.scope pm cd doc) → s₁.heap.CodeRec cd d.name → mg d.name = some (.ref fa) →
      s₁.heap.get? a = some { cls := .type "list", data := .seq vs.toArray } → IntsAre vs ns → ns.length ≤ n →
      s.gens = #[] → s.os = s₁.os →
      Fr s₁.heap s₁.heap.objs.size s.heap (bindL (envOfC d.name d.scope s₁.heap.objs.size fa cd).kindOf [(x, .ref a)] fun _ => none) →
      Cl s₁.heap.objs.size (cellsFrom (s₁.heap.objs.size + 1) d.scope.names []) s.heap (bindC (envOfC d.name d.scope s₁.heap.objs.size fa cd).kindOf [(x, .ref a)] fun _ => none) →
      wpAny (model l.prog w) (callerA.deeper (envOfC d.name d.scope s₁.heap.objs.size fa cd)) (execs d.body (envOfC d.name d.scope s₁.heap.objs.size fa cd))
        (fun f s' => f = .ret (.bool true) ∧ OldK s₁.heap s'.heap ∧ s'.os = s₁.os ∧ AllBare s'.gens) (fun _ _ => False) s) :
    WalkO q loose XP YP l.row.toRowW d [] (fun f vs => PySem.call f vs) := by
  intro w s₀ s₁ mg mb G Y fa o pm cd doc dV kV ho hd hcd hD hmg hg args vals as hpre hlay hrd hwl hlo
  obtain rfl : dV = .none := Dflts.none hD hdf
  obtain rfl : kV = .none := Dflts.noKw hD
  obtain ⟨a, vs, ns, rfl, rfl, hobj, hints, hlen⟩ := script_of hn hpre hwl
  refine enter_call ?_
  refine call_cells_ret (o := o) (by rw [depth_caller]; decide) ho (fd_plain hd) G.T.nolimit hcd (hbind pm cd doc (.ref a)) (fun y hy => ?_) (fun h₁ tk F X => ?_) hco hgen hk
  · obtain rfl : y = (x, Value.ref a) := List.mem_singleton.mp hy
    rcases hx with e | e
    · exact .inl e
    · exact .inr ⟨e, cellsFrom_some _ _ _ (.inl e)⟩
  · refine wpAny_mono (body w s₀ s₁ { s₁ with heap := h₁, toks := tk } mg mb fa o pm cd doc a vs ns G Y ho (fd_plain hd) hcd hmg hobj hints hlen hg rfl F X) (fun f s' hq => ?_) (fun _ _ hq => hq)
    obtain ⟨rfl, h2, h3, h4⟩ := hq
    exact ⟨.inl ⟨.bool true, .bool true, [], rfl, fun _ => rfl, .bool true, post_true l _, fun _ => ⟨List.Pairwise.nil, fun _ hm => (nomatch hm)⟩⟩, h2, h3, h4⟩

/-- the same from a codeAny of the CALL (for a layer whose function contracts speak of calls) -/
theorem attach_call {l : OpenLaw} {n : Nat} {q : Program} {loose : List Str} {XP : (Str → Option Value) → Heap → Prop} {YP : World → Heap → Prop} {d : DefRec}
    (hn : l.most = some n) (hdf : d.params.defaults = [])
    (call : ∀ (w : World) (s₀ s₁ : Shared) (mg mb : Str → Option Value) (fa : Addr) (o : Obj) (pm cd doc : Value) (a : Addr) (vs : List Value) (ns : List Int),
      Ground q loose [] XP w s₀ mg mb s₁.heap → YP w s₁.heap →
      s₁.heap.get? fa = some o → o.data = .func (docDef d.name d.params d.body d.scope pm cd doc) → s₁.heap.CodeRec cd d.name → mg d.name = some (.ref fa) →
      s₁.heap.get? a = some { cls := .type "list", data := .seq vs.toArray } → IntsAre vs ns → ns.length ≤ n → s₁.gens = #[] →
      codeAny (model l.prog w) callerA (.call (.ref fa) ⟨[.ref a], []⟩) (fun r s' => r = .ok (.ret (.bool true)) ∧ OldK s₁.heap s'.heap ∧ s'.os = s₁.os ∧ AllBare s'.gens) s₁) :
    WalkO q loose XP YP l.row.toRowW d [] (fun f vs => PySem.call f vs) := by
  intro w s₀ s₁ mg mb G Y fa o pm cd doc dV kV ho hd hcd hD hmg hg args vals as hpre hlay hrd hwl hlo
  obtain rfl : dV = .none := Dflts.none hD hdf
  obtain rfl : kV = .none := Dflts.noKw hD
  obtain ⟨a, vs, ns, rfl, rfl, hobj, hints, hlen⟩ := script_of hn hpre hwl
  refine enter_call (codeAny_mono (call w s₀ s₁ mg mb fa o pm cd doc a vs ns G Y ho (fd_plain hd) hcd hmg hobj hints hlen hg) fun r s' hq => ?_)
  obtain ⟨rfl, h2, h3, h4⟩ := hq
  exact ⟨.inl ⟨.bool true, .bool true, [], rfl, fun _ => rfl, .bool true, post_true l _, fun _ => ⟨List.Pairwise.nil, fun _ hm => (nomatch hm)⟩⟩, h2, h3, h4⟩

/-- the same where the top left finished generators (o_head chose holds_openN): nothing may have changed at all and no generator may be left -/
theorem attachN {l : OpenLaw} {n : Nat} {q : Program} {loose : List Str} {XP : (Str → Option Value) → Heap → Prop} {YP : World → Heap → Prop} {d : DefRec} {x : Str}
    (hn : l.most = some n) (hdf : d.params.defaults = [])
    (hbind : ∀ pm cd doc v : Value, bindArgs (docDef d.name d.params d.body d.scope pm cd doc) ⟨[v], []⟩ = pure [(x, v)])
    (hx : d.scope.names.lookup x = some .local ∨ d.scope.names.lookup x = some .cell)
    (hk : d.scope.kind = .function) (hco : d.scope.isCoroutine = false) (hgen : d.scope.isGenerator = false)
    (body : ∀ (w : World) (s₀ s₁ s : Shared) (mg mb : Str → Option Value) (fa : Addr) (o : Obj) (pm cd doc : Value) (a : Addr) (vs : List Value) (ns : List Int),
      Ground q loose [] XP w s₀ mg mb s₁.heap → YP w s₁.heap →
      s₁.heap.get? fa = some o → o.data = .func (docDef d.name d.params d.body d.scope pm cd doc) → s₁.heap.CodeRec cd d.name → mg d.name = some (.ref fa) →
      s₁.heap.get? a = some { cls := .type "list", data := .seq vs.toArray } → IntsAre vs ns → ns.length ≤ n →
      s.gens = #[] → s.os = s₁.os →
      Fr s₁.heap s₁.heap.objs.size s.heap (bindL (envOfC d.name d.scope s₁.heap.objs.size fa cd).kindOf [(x, .ref a)] fun _ => none) →
      Cl s₁.heap.objs.size (cellsFrom (s₁.heap.objs.size + 1) d.scope.names []) s.heap (bindC (envOfC d.name d.scope s₁.heap.objs.size fa cd).kindOf [(x, .ref a)] fun _ => none) →
      wpAny (model l.prog w) (callerA.deeper (envOfC d.name d.scope s₁.heap.objs.size fa cd)) (execs d.body (envOfC d.name d.scope s₁.heap.objs.size fa cd))
        (fun f s' => f = .ret (.bool true) ∧ (∀ b o, s₁.heap.get? b = some o → s'.heap.get? b = some o) ∧ s'.os = s₁.os ∧ s'.gens = #[]) (fun _ _ => False) s) :
    WalkN q loose XP YP l.row.toRowW d [] (fun f vs => PySem.call f vs) := by
  intro w s₀ s₁ mg mb G Y fa o pm cd doc dV kV ho hd hcd hD hmg hg args vals as hpre hlay hrd hwl hlo
  obtain rfl : dV = .none := Dflts.none hD hdf
  obtain rfl : kV = .none := Dflts.noKw hD
  obtain ⟨a, vs, ns, rfl, rfl, hobj, hints, hlen⟩ := script_of hn hpre hwl
  refine enter_callW ?_
  refine call_cells_ret (o := o) (by rw [depth_caller]; decide) ho (fd_plain hd) G.T.nolimit hcd (hbind pm cd doc (.ref a)) (fun y hy => ?_) (fun h₁ tk F X => ?_) hco hgen hk
  · obtain rfl : y = (x, Value.ref a) := List.mem_singleton.mp hy
    rcases hx with e | e
    · exact .inl e
    · exact .inr ⟨e, cellsFrom_some _ _ _ (.inl e)⟩
  · refine wpAny_mono (body w s₀ s₁ { s₁ with heap := h₁, toks := tk } mg mb fa o pm cd doc a vs ns G Y ho (fd_plain hd) hcd hmg hobj hints hlen hg rfl F X) (fun f s' hq => ?_) (fun _ _ hq => hq)
    obtain ⟨rfl, h2, h3, h4⟩ := hq
    exact ⟨.inl ⟨.bool true, .bool true, [], rfl, fun _ => rfl, .bool true, post_true l _, fun _ => ⟨List.Pairwise.nil, fun _ hm => (nomatch hm)⟩⟩, h2, h3, h4⟩

/-! ### rules over ANY heap (no ledger) from facts about the written part K: the library's own take a ledger (News) for what they write -/
section
variable {prog : Program} {w : World} {A : Around} {E : Value → Shared → Prop} {s : Shared} {K : Frag}

/-- a def of the module, or a method (qual 'C.m'), entered: the frame is the next address; cells behind it -/
theorem call_fn {R : Result → Shared → Prop} {name qual : Str} {params : Arguments} {body : List Stmt} {scope : Scope} {dV kV doc pm cdv ct oc : Value} {an od : Option Addr} {osl : Array (Option Value)} {f : Addr} {args : Args} {binds : List (Str × Value)}
    (X : K.In s.heap) (hlim : s.heap.NoLimit) (ho : K.lookup f = some ⟨oc, od, .func (fnOf name qual params body scope dV kV doc pm an cdv ct), osl⟩) (hcd : codeIn K cdv qual = true) (hroom : A.depth < recursionLimit)
    (hbind : BindsTo s (fnOf name qual params body scope dV kV doc pm an cdv ct) args binds)
    (hkind : (binds.all fun y => scope.names.lookup y.1 == some .local || scope.names.lookup y.1 == some .cell) = true)
    (h : ∀ s₁, InCallC s s.heap.objs.size (bindL (envOfC qual scope s.heap.objs.size f cdv).kindOf binds fun _ => none) (cellsFrom (s.heap.objs.size + 1) scope.names [])
        (bindC (envOfC qual scope s.heap.objs.size f cdv).kindOf binds fun _ => none) s₁ →
      wpAny (model prog w) (A.deeper (envOfC qual scope s.heap.objs.size f cdv)) (execs body (envOfC qual scope s.heap.objs.size f cdv))
        (fun fl s' => R (.ok (.ret (match fl with | .ret v => v | _ => .none))) s')
        (fun e s' => wpAny (model prog w) (A.deeper (envOfC qual scope s.heap.objs.size f cdv)) (leaving (envOfC qual scope s.heap.objs.size f cdv) e) (fun _ s'' => R (.error e) s'') (fun e' s'' => R (.error e') s'') s') s₁)
    (hco : scope.isCoroutine = false) (hgen : scope.isGenerator = false) (hk : scope.kind = .function) : codeAny (model prog w) A (.call (.ref f) args) R s := by
  refine codeAny_call_function hroom (X _ _ ho) rfl hco hgen rfl (codeRec_of X hcd) (hbind _ _ _ _ ?_)
  refine wpAny_newFunctionEnv_cells hk (kindsX hkind _) fun env he s₁ x => ?_
  subst he
  exact ⟨hlim.keeps x.toInCall.keep, codeAny_func (h s₁ x)⟩

/-- C(..): dict at size, instance at size + 1, then __init__ -/
theorem make_obj {R : Result → Shared → Prop} {C fI : Addr} {rest : List Value} {kw : List (Str × Value)}
    (X : K.In s.heap) (hm : makesIn K C = true) (hi : findIn K (.ref C) "__init__" = some (some (.ref fI))) (hf : isFn K (.ref fI) = true)
    (h : codeAny (model prog w) (A.under (.builtin "type.__call__" ⟨.ref C :: rest, kw⟩)) (.call (.ref fI) ⟨.ref (s.heap.objs.size + 1) :: rest, kw⟩) (InitBack (s.heap.objs.size + 1) R)
      { s with heap := (s.heap.push emptyDict).push (instObj C s.heap.objs.size) }) : codeAny (model prog w) A (.call (.ref C) ⟨rest, kw⟩) R s := by
  obtain ⟨hh, g, d, t, os⟩ := s
  exact make_core (makes_of X hm) (looks_findIn X hi) (fun self => bind_fn X self (beq_iff_eq.mp hf)) (.inl rfl) h

/-- x.name where the instance's dict holds the name and the class does not -/
theorem get_field {x C : Addr} {ox : Obj} {es : List DictEntry} {n : Nat} {name : Str} {expr : Bool} {v : Value} {Q : Value → Shared → Prop}
    (X : K.In s.heap) (I : PySem.W.InstAt s.heap x ox C (some (dictOf es n))) (hg : plainGet K C name = true) (hh : hasDictIn K C = true) (ha : findIn K (.ref C) name = some none)
    (hl : getL name es = some (some v)) (hv : handedIn v = true) (h : Q v { s with toks := s.toks + 1 }) : wpAny (model prog w) A (getAttr (.ref x) name expr) Q E s :=
  get_value X I (plainGet_of hg).1 (findObj_own hh ha rfl hl) hv h

/-- x.m(..): the method found in the class -/
theorem get_method {x C f : Addr} {ox : Obj} {es : List DictEntry} {n : Nat} {name : Str} {pl : Sem Bool} {Q : Value × List Value → Shared → Prop}
    (X : K.In s.heap) (I : PySem.W.InstAt s.heap x ox C (some (dictOf es n))) (hg : plainGet K C name = true) (hf : findIn K (.ref C) name = some (some (.ref f))) (ht : isFn K (.ref f) = true)
    (hl : getL name es = some none) (h : Q (.ref f, [.ref x]) s) : wpAny (model prog w) A (getMethod (.ref x) name pl) Q E s :=
  method_fn X I (plainGet_of hg).1 (plainGet_of hg).2 hf (beq_iff_eq.mp ht) (by show (lookIn name (dictOf es n)).map _ = _; rw [lookIn_dict, hl]; rfl) h

/-! the whole heap as the ledger: makes every rule that writes through a ledger a rule over any heap -/
def noObjs (h : Heap) : Heap := { h with objs := #[] }
theorem noObjs_get (h : Heap) (b : Addr) : (noObjs h).get? b = none := by
  cases e : (noObjs h).get? b with
  | none => rfl
  | some o => exact absurd (Heap.lt_size e) (Nat.not_lt_zero _)
def ledger (h : Heap) (L d : Addr) : List (Addr × Obj) := (List.range h.objs.size).filterMap fun a => if a = L ∨ a = d then none else (h.get? a).map fun o => (a, o)
theorem mem_ledger {h : Heap} {L d a : Addr} {o : Obj} : (a, o) ∈ ledger h L d ↔ a ≠ L ∧ a ≠ d ∧ h.get? a = some o := by
  unfold ledger
  rw [List.mem_filterMap]
  constructor
  · rintro ⟨b, _, e⟩
    split at e
    · cases e
    · rename_i hb
      obtain ⟨o', ho, e'⟩ := Option.map_eq_some_iff.mp e
      cases e'
      exact ⟨fun q => hb (.inl q), fun q => hb (.inr q), ho⟩
  · rintro ⟨n1, n2, ho⟩
    refine ⟨a, List.mem_range.mpr (Heap.lt_size ho), ?_⟩
    rw [if_neg (show ¬ (a = L ∨ a = d) from fun q => q.elim n1 n2), ho] <;> rfl
theorem news_ledger {h : Heap} {L d : Addr} {od : Obj} (hne : d ≠ L) (ho : h.get? d = some od) : News (noObjs h) L h ([] ++ (d, od) :: ledger h L d) := by
  rintro ⟨a, o⟩ hp
  rcases List.mem_cons.mp hp with e | hp
  · cases e
    exact ⟨ho, hne, noObjs_get _ _⟩
  · obtain ⟨n1, n2, e⟩ := mem_ledger.mp hp
    exact ⟨e, n1, noObjs_get _ _⟩
theorem fr_all {h : Heap} {L : Addr} {m : Str → Option Value} (n : h.Ns L m) : Fr (noObjs h) L h m :=
  ⟨n, fun b o e => (by rw [noObjs_get] at e; cases e), Nat.zero_le _⟩
/-- Upd of the head entry (for append_K, setItem_K ..) -/
theorem upd_ledger {h : Heap} {L d : Addr} {o o' : Obj} : Upd d o o' ((d, o) :: ledger h L d) ((d, o') :: ledger h L d) :=
  .head fun ⟨_, _⟩ hp => (mem_ledger.mp hp).2.1

/-- x.name = v over any heap: L is any namespace of the heap (the frame's, say): its map stays, its object is not told; all else but the dict stays -/
theorem set_field {x C dx L : Addr} {ox : Obj} {m : Str → Option Value} {es es' : List DictEntry} {n n' : Nat} {name : Str} {v : Value} {Q : Unit → Shared → Prop}
    (X : K.In s.heap) (I : PySem.W.InstAt s.heap x ox C (some (dictOf es n))) (hd : ox.dict = some dx) (hL : s.heap.Ns L m) (hne : dx ≠ L)
    (hs : findIn K (.ref C) "__setattr__" = some (some (.builtin "object.__setattr__"))) (hp : plainOver K C = true) (ht : takerIn K C name = some none) (hh : hasDictIn K C = true) (hl : (getL name es).isSome = true)
    (e : (putL name (PyData.keyHash w.params name) (.str name (s.toks + 1)) v es, putN name es n) = (es', n')) (hz : es'.length ≤ 1000)
    (h : ∀ h' : Heap, h'.Ns L m → h'.get? dx = some (dictOf es' n') → (∀ b o, b ≠ dx → b ≠ L → s.heap.get? b = some o → h'.get? b = some o) → Q () { s with heap := h', toks := s.toks + 2 }) :
    wpAny (model prog w) A (setAttr (.ref x) name v) Q E s := by
  obtain ⟨e1, e2⟩ := Prod.mk.inj e
  have hdx : s.heap.get? dx = some (dictOf es n) := by
    have := I.dict
    rw [hd] at this
    exact this
  refine set_plain X I hs (osa_dict (s := { s with toks := s.toks + 1 }) (h₀ := noObjs s.heap) (L := L) (m := m) (od := dictOf es n) (od' := dictOf es' n') (es := es') (n := n') (pre := []) (post := ledger s.heap L dx)
    (fr_all hL) (news_ledger hne hdx) X I hd hp ht hh hl (fun _ q => nomatch q) (fun ⟨_, _⟩ q => (mem_ledger.mp q).2.1) (by rw [putName_dict, e1, e2]) rfl hz fun h' F' N' => ?_)
  exact h h' F'.ns (N'.get (List.Mem.head _)) fun b o n1 n2 ho => N'.get (List.Mem.tail _ (mem_ledger.mpr ⟨n2, n1, ho⟩))
end
end Att

namespace L2
open PySem PySem.Spec PyProof.Rows

theorem vals_ints : ∀ {vs : List Value} {ns : List Int}, IntsAre vs ns → Vals (ns.map V.int) vs
  | _, _, .nil => .nil
  | _, _, .cons n t h => .cons ⟨t, rfl⟩ (vals_ints h)

/-- nothing is tracked but the script, known to the object (or it is an object of the module) -/
def Only (H : Hp) : Prop := ∀ b, H b = none ∨ ∃ o xs, H b = some (.frz o (.lst xs))

/-- THE HEAD: the law's promise, at the heap behind the top. F, the promise of the law's def, may use that base is part of the heap (so K.In base, base.Ns mainGlobals mg stand in Mod) -/
theorem law_call {P : Program} {w : World} {K : PySem.W.Frag} {mg mb : Str → Option Value} {CX : CXT} {k : Nat} {fa a : Addr} {fd : FuncData} {x : Str} {sp : Sp} {s₁ : Shared} {vs : List Value} {ns : List Int}
    (KX : K.In s₁.heap) (hns : s₁.heap.Ns mainGlobals mg) (hb : s₁.heap.Ns builtinsNs mb) (hbb : ∀ x : Str, x ≠ "__name__" → mb x = bootBuiltins x) (hlim : s₁.heap.NoLimit) (hg : s₁.gens = #[])
    (ha : s₁.heap.get? a = some { cls := .type "list", data := .seq vs.toArray }) (hi : IntsAre vs ns) (hl : ns.length ≤ sizeLine) (hr : Room k callerA)
    (F : ∀ base : Heap, K.In base → base.Ns mainGlobals mg → FnOk P w K mg base CX k fa fd [x] sp) (hbind : ∀ (s : Shared) (u : Value), BindsTo s fd ⟨[u], []⟩ [(x, u)])
    (hsp : ∀ H : Hp, Only H → SqL K H a (ns.map V.int) → sp [.ref a] H (fun v _ => v = .bl true) fun _ _ _ => False)
    (hCX : ∀ H e s', CX [] H s₁ (fun _ _ _ => False) e s' → False) :
    codeAny (model P w) callerA (.call (.ref fa) ⟨[.ref a], []⟩) (fun r s' => r = .ok (.ret (.bool true)) ∧ OldK s₁.heap s'.heap ∧ s'.os = s₁.os ∧ AllBare s'.gens) s₁ := by
  have rv := vals_ints hi
  have lenV := hi.length
  -- from an abstract heap in which nothing but the script may be tracked
  have core : ∀ H : Hp, Only H → SqL K H a (ns.map V.int) → HOk P w H s₁.heap → (∀ b, H b ≠ none → b = a) → (H a ≠ none → K.lookup a = none) →
      codeAny (model P w) callerA (.call (.ref fa) ⟨[.ref a], []⟩) (fun r s' => r = .ok (.ret (.bool true)) ∧ OldK s₁.heap s'.heap ∧ s'.os = s₁.os ∧ AllBare s'.gens) s₁ := by
    intro H hO hS hok hA hK
    have base_of : ∀ {b : Addr} {o : Obj}, s₁.heap.get? b = some o → H b = none → (hidT s₁.heap H).get? b = some o := fun e n => hidT_get e n
    have noA : ∀ {b : Addr} {o : Obj} {es : Array DictEntry} {ep : Nat}, s₁.heap.get? b = some o → o.data = .dict es ep → H b = none := fun {b o es ep} e d => by
      cases q : H b with
      | none => rfl
      | some u =>
        have e' : b = a := hA b (by rw [q]; simp)
        subst e'
        rw [ha] at e; cases e
        have d' : Data.seq vs.toArray _ = Data.dict es ep := d
        cases d'
    have nsK : ∀ {b : Addr} {m : Str → Option Value}, s₁.heap.Ns b m → (hidT s₁.heap H).Ns b m := fun {b m} ⟨o, es, ep, e, d, r⟩ => ⟨o, es, ep, base_of e (noA e d), d, r⟩
    have hKb : K.In (hidT s₁.heap H) := fun b o e => base_of (KX b o e) (by
      cases q : H b with
      | none => rfl
      | some u =>
        have e' : b = a := hA b (by rw [q]; simp)
        subst e'
        rw [hK (by rw [q]; simp)] at e; cases e)
    have hM : Mod K mg (hidT s₁.heap H) := ⟨hKb, nsK hns, ⟨mb, nsK hb, hbb⟩, let ⟨mc, h1, h2⟩ := hlim; ⟨mc, nsK h1, h2⟩⟩
    have e0 : Env0 P w K mg (hidT s₁.heap H) callerA [] s₁ H := ⟨rfl, hM, fun b o e => of_hidT e, Nat.le_of_eq (hidT_size _ _), trivial, fun b hb => absurd (show b ∈ ([] : List Addr) from hb) (by simp), hok, .of_eq hg⟩
    refine codeAny_mono ((F _ hKb (nsK hns)).run callerA [] s₁ H ⟨[.ref a], []⟩ [.ref a] [.ref a] _ _ hr e0 (hbind s₁ (.ref a)) (.cons rfl .nil) (hsp H hO hS)) fun r s' h => ?_
    cases r with
    | error e => exact (hCX H e s' h).elim
    | ok fl =>
      cases fl with
      | next => exact False.elim h
      | brk => exact False.elim h
      | cont => exact False.elim h
      | ret u =>
        obtain ⟨v, H', os, bare, un, hok', r', q⟩ := h
        have q' : v = .bl true := q
        subst q'
        obtain rfl : u = Value.bool true := r'
        refine ⟨rfl, OldK.of_keep fun b o e => ?_, os, bare⟩
        cases q : H b with
        | none => exact un.keep b o e q (by intro z; exact absurd (show b ∈ ([] : List Addr) from z) (by simp)) (by simp)
        | some u =>
          rcases hO b with z | ⟨ob, xs, z⟩
          · rw [q] at z; cases z
          · have z2 := un.frzs b ob _ z
            obtain ⟨e1, _⟩ := hok b _ z
            obtain ⟨e2, _⟩ := hok' b _ z2
            rw [e] at e1; cases e1
            exact e2
  cases hk : K.lookup a with
  | some o =>
    -- the script is one of the module's own objects
    have e := KX a o hk
    rw [ha] at e
    cases e
    refine core (fun _ => none) (fun _ => .inl rfl) (.inr ⟨_, vs.toArray, _, hk, rfl, rfl, rfl, by rw [List.size_toArray, lenV]; exact hl, by simpa using rv⟩) (fun b u z => by have z' : (none : Option HO) = some u := z; cases z') (fun b z => absurd rfl z) fun z => absurd rfl z
  | none =>
    refine core (fun b => if b = a then some (.frz { cls := .type "list", data := .seq vs.toArray } (.lst (ns.map V.int))) else none) (fun b => ?_) (.inl (.inr ⟨{ cls := .type "list", data := .seq vs.toArray }, if_pos rfl⟩)) (fun b u z => ?_) (fun b z => ?_) fun _ => hk
    · by_cases hb : b = a
      · exact .inr ⟨_, _, if_pos hb⟩
      · exact .inl (if_neg hb)
    · by_cases hb : b = a
      · have z' := (if_pos hb).symm.trans z
        cases z'
        subst hb
        exact ⟨ha, by rw [List.length_map]; exact hl, vs, _, rv, ha⟩
      · have z' := (if_neg hb).symm.trans z
        cases z'
    · by_cases hb : b = a
      · exact hb
      · exact absurd (if_neg hb) z
end L2

namespace L2
open PySem PySem.Spec PyProof.Rows

abbrev KOf {K : PySem.W.Frag} {h : Heap} (_ : K.In h) : PySem.W.Frag := K

/-- the goal that k_head leaves (case hc), from the law's promise. F gives the function object fd (K's own) once, then the promise over every base -/
theorem walk_of {l : PySem.W.OpenLaw} {n k : Nat} {q : Program} {loose : List Str} {XP : (Str → Option Value) → Heap → Prop} {YP : World → Heap → Prop} {d : DefRec} {K : Params → PySem.W.Frag} {CX : World → CXT} {sp : World → Sp} {x : Str}
    (hn : l.most = some n) (hn2 : n ≤ sizeLine) (hdf : d.params.defaults = []) (hr : Room k callerA)
    (hY : ∀ (w : World) (h : Heap), YP w h → (K w.params).In h)
    (F : ∀ (w : World) (mg : Str → Option Value) (fa : Addr) (h : Heap), (K w.params).In h → h.Ns mainGlobals mg → mg d.name = some (.ref fa) →
      ∃ fd : FuncData, (∀ (s : Shared) (u : Value), BindsTo s fd ⟨[u], []⟩ [(x, u)]) ∧
        ∀ base : Heap, (K w.params).In base → base.Ns mainGlobals mg → FnOk l.prog w (K w.params) mg base (CX w) k fa fd [x] (sp w))
    (hsp : ∀ (w : World) (H : Hp) (a : Addr) (ns : List Int), ns.length ≤ n → Only H → SqL (K w.params) H a (ns.map V.int) → sp w [.ref a] H (fun v _ => v = .bl true) fun _ _ _ => False)
    (hCX : ∀ (w : World) (H : Hp) (s : Shared) (e : Value) (s' : Shared), CX w [] H s (fun _ _ _ => False) e s' → False) :
    PySem.W.WalkO q loose XP YP l.row.toRowW d [] (fun f vs => PySem.call f vs) := by
  refine Att.attach_call hn hdf fun w s₀ s₁ mg mb fa o pm cd doc a vs ns G Y ho hd hcd hmg hobj hints hlen hg => ?_
  have KX := hY w _ Y
  obtain ⟨fd, hb, hF⟩ := F w mg fa _ KX G.T.g hmg
  exact law_call KX G.T.g G.T.b G.T.builtins G.T.nolimit hg hobj hints (Nat.le_trans hlen hn2) hr hF hb (fun H hO hS => hsp w H a ns hlen hO hS) fun H e s' => hCX w H s₁ e s'
/-- the same where the promise hangs on the written part alone: (sp := My.sp_law), no hole under a binder -/
theorem walk_ofK {l : PySem.W.OpenLaw} {n k : Nat} {q : Program} {loose : List Str} {XP : (Str → Option Value) → Heap → Prop} {YP : World → Heap → Prop} {d : DefRec} {K : Params → PySem.W.Frag} {CX : CXT} {sp : PySem.W.Frag → Sp} {x : Str}
    (hn : l.most = some n) (hn2 : n ≤ sizeLine) (hdf : d.params.defaults = []) (hr : Room k callerA)
    (hY : ∀ (w : World) (h : Heap), YP w h → (K w.params).In h)
    (F : ∀ (w : World) (mg : Str → Option Value) (fa : Addr) (h : Heap), (K w.params).In h → h.Ns mainGlobals mg → mg d.name = some (.ref fa) →
      ∃ fd : FuncData, (∀ (s : Shared) (u : Value), BindsTo s fd ⟨[u], []⟩ [(x, u)]) ∧
        ∀ base : Heap, (K w.params).In base → base.Ns mainGlobals mg → FnOk l.prog w (K w.params) mg base CX k fa fd [x] (sp (K w.params)))
    (hsp : ∀ (K : PySem.W.Frag) (H : Hp) (a : Addr) (ns : List Int), ns.length ≤ n → Only H → SqL K H a (ns.map V.int) → sp K [.ref a] H (fun v _ => v = .bl true) fun _ _ _ => False)
    (hCX : ∀ (H : Hp) (s : Shared) (e : Value) (s' : Shared), CX [] H s (fun _ _ _ => False) e s' → False) :
    PySem.W.WalkO q loose XP YP l.row.toRowW d [] (fun f vs => PySem.call f vs) :=
  walk_of (K := K) (CX := fun _ => CX) (sp := fun w => sp (K w.params)) hn hn2 hdf hr hY F (fun w H a ns h1 h2 h3 => hsp (K w.params) H a ns h1 h2 h3) fun _ H s e s' => hCX H s e s'
end L2



/-! SHORT WORDS over the layer: a def of the text, its body, what a loop and a test want. -/
namespace L2
open PySem PySem.Spec PyProof.Rows

/-! ### the text by places -/
/-- the j-th statement of a class's body -/
def inClass (s : Stmt) (j : Nat) : Stmt := match s with
  | .ClassDef _ _ _ body _ _ _ _ _ _ _ => body.getD j (.Pass ⟨0, 0, 0, 0⟩)
  | _ => .Pass ⟨0, 0, 0, 0⟩
def defArgs (s : Stmt) : Arguments := match s with
  | .FunctionDef _ a _ _ _ _ _ _ _ _ => a
  | _ => { posonlyargs := [], args := [], vararg := none, kwonlyargs := [], kw_defaults := [], kwarg := none, defaults := [] }
def defBody (s : Stmt) : List Stmt := match s with
  | .FunctionDef _ _ b _ _ _ _ _ _ _ => b
  | _ => []
def defScope (s : Stmt) : Scope := match s with
  | .FunctionDef _ _ _ _ _ _ sc _ _ _ => sc
  | _ => { kind := .function, names := [], isGenerator := false, isCoroutine := false }

/-! ### no exception leaves a def -/
abbrev CX0 : CXT := fun _ _ _ _ _ _ => False
abbrev E0 : XK := fun _ _ _ => False
theorem pass0 {X : Cx} : Passes CX0 X E0 := fun _ _ _ _ _ _ _ h => h.elim

/-! ### a def (or method) of the text as it stands behind the top -/
structure Fun (K : PySem.W.Frag) (x qual : Str) (st : Stmt) (f : Addr) (fd : FuncData) : Prop where
  ex : ∃ (oc : Value) (od : Option Addr) (kV doc pm : Value) (an : Option Addr) (cdv ct : Value) (osl : Array (Option Value)),
    fd = PySem.W.fnOf x qual (defArgs st) (defBody st) (defScope st) .none kV doc pm an cdv ct ∧ K.lookup f = some ⟨oc, od, .func fd, osl⟩ ∧ PySem.W.codeIn K cdv qual = true
  kp : PySem.W.keepIn K (.ref f) = true
section
variable {P : Program} {w : World} {K : PySem.W.Frag} {mg : Str → Option Value} {base : Heap}
/-- THE RULE for a def: its body as a term of rules, and the reading of that term -/
theorem Fun.ok {x qual : Str} {st : Stmt} {f : Addr} {fd : FuncData} {N ps : List Str} {k : Nat} {sp : Sp} (F : Fun K x qual st f fd) (S : FnScope N ps (defScope st)) (len : ∀ vs H Q E, sp vs H Q E → vs.length = ps.length)
    (hbody : ∀ (cdv : Value) (A : Around) (outer : List Env) (s : Shared) (H : Hp) (vs : List V) (Q : VK) (E : XK), Room k (A.deeper (envOfC qual (defScope st) s.heap.objs.size f cdv)) → sp vs H Q E →
      ∃ t, PSs (cxOf CX0 P w K mg base N qual (defScope st) f cdv A outer s H E).nox (defBody st) t ∧ t { nx := fun _ H' => Q .non H', rt := Q } (start N vs) H) : FnOk P w K mg base CX0 (k + 1) f fd ps sp := by
  obtain ⟨oc, od, kV, doc, pm, an, cdv, ct, osl, rfl, lk, hcd⟩ := F.ex
  refine fn_of lk hcd S len fun A outer s H vs Q E hr hsp => ?_
  obtain ⟨t, h, q⟩ := hbody cdv A outer s H vs Q E hr hsp
  exact ⟨t, h.nox, q⟩
/-- how its arguments bind (no defaults): h is «fun _ _ _ _ _ _ us hl => match us, hl with | [_, _], _ => rfl», one _ a parameter -/
theorem Fun.binds {x qual : Str} {st : Stmt} {f : Addr} {fd : FuncData} {ps : List Str} (F : Fun K x qual st f fd)
    (h : ∀ (kV doc pm : Value) (an : Option Addr) (cdv ct : Value) (us : List Value), us.length = ps.length → bindArgs (PySem.W.fnOf x qual (defArgs st) (defBody st) (defScope st) .none kV doc pm an cdv ct) ⟨us, []⟩ = pure (ps.zip us)) : Binds K fd ps [] := by
  obtain ⟨oc, od, kV, doc, pm, an, cdv, ct, osl, rfl, lk, hcd⟩ := F.ex
  exact .all (h kV doc pm an cdv ct)
theorem fun_mk {x qual : Str} {st : Stmt} {f : Addr} {oc : Value} {od an : Option Addr} {osl : Array (Option Value)} {kV doc pm cdv ct : Value} (l : K.lookup f = some ⟨oc, od, .func (PySem.W.fnOf x qual (defArgs st) (defBody st) (defScope st) .none kV doc pm an cdv ct), osl⟩)
    (c : PySem.W.codeIn K cdv qual = true) (k : PySem.W.keepIn K (.ref f) = true) : Fun K x qual st f (PySem.W.fnOf x qual (defArgs st) (defBody st) (defScope st) .none kV doc pm an cdv ct) := ⟨⟨oc, od, kV, doc, pm, an, cdv, ct, osl, rfl, l, c⟩, k⟩
end
theorem hu_of {A : Around} {k : Nat} (hr : Room k A) : A.units + 1 < cLine := Nat.lt_of_le_of_lt (Nat.add_le_add_left (by decide : 1 ≤ 64) _) hr.units
theorem small1000 {n : Nat} (h : n ≤ 1000) : n < sizeLine := Nat.lt_of_le_of_lt h (by decide)

/-! ### expressions in short: the name that stands in the i-th slot -/
section
variable {X : Cx}
theorem pv (i : Nat) {x : Str} {pos : Pos} (hN : X.N[i]? = some x := by rfl) (hv : Vis X.env.scope x := by first | exact Or.inl rfl | exact Or.inr (Or.inl rfl) | exact Or.inr (Or.inr rfl)) (hd : (x == ("__debug__" : Str)) = false := by decide)
    (hcd : (x == ("__classdict__" : Str)) = false := by decide) : PE X (.Name x pos) (tVar i) := pe_var hN hv hd hcd
end

/-! ### tests -/
theorem iteF {A B : Prop} (h : B) : if false = true then A else B := by
  rw [if_neg Bool.false_ne_true]
  exact h
theorem iteT {A B : Prop} (h : A) : if true = true then A else B := by
  rw [if_pos rfl]
  exact h
theorem ite2 {c A B : Prop} [Decidable c] (h1 : c → A) (h2 : ¬ c → B) : if c then A else B := by
  by_cases h : c
  · rw [if_pos h]
    exact h1 h
  · rw [if_neg h]
    exact h2 h
theorem iteNS {c A B : Prop} [Decidable c] (hc : c) (h : B) : if (!decide c) = true then A else B := by
  rw [decide_eq_true hc]
  exact iteF h

/-! ### heaps -/
/-- all that was tracked is as it was -/
def Same (H H' : Hp) : Prop := ∀ b o, H b = some o → H' b = some o
theorem Same.refl (H : Hp) : Same H H := fun _ _ h => h
theorem Same.trans {H H1 H2 : Hp} (a : Same H H1) (b : Same H1 H2) : Same H H2 := fun c o h => b c o (a c o h)
theorem Same.free {H H' : Hp} (e : Same H H') {l : Addr} (h : H' l = Option.none) : H l = Option.none := by
  cases q : H l with
  | none => rfl
  | some o =>
    rw [e l o q] at h
    cases h
theorem Same.seq {K : PySem.W.Frag} {H H' : Hp} {a : Addr} {xs : List V} (e : Same H H') (h : SqL K H a xs) : SqL K H' a xs := by
  rcases h with (h | ⟨o, h⟩) | h
  · exact .inl (.inl (e _ _ h))
  · exact .inl (.inr ⟨o, e _ _ h⟩)
  · exact .inr h

end L2

set_option autoImplicit false
namespace Eb
open PySem PyProof.Rows
/-! the model's own sort for lists of 64 items and more: its parts, by their private names -/
def gallop' : Bool → Keyed → Array Keyed → Nat → Nat → Nat → StateT SortSt Sem (Option Nat) := sortPriv% PySem.Builtin.gallop
def mergeLo' : Array Keyed → Array Keyed → StateT SortSt Sem (Array Keyed) := sortPriv% PySem.Builtin.mergeLo
def mergeHi' : Array Keyed → Array Keyed → StateT SortSt Sem (Array Keyed) := sortPriv% PySem.Builtin.mergeHi
def setMinGallop' : Nat → StateT SortSt Sem Unit := sortPriv% PySem.Builtin.setMinGallop
abbrev setGal (st : SortSt) (g : Nat) : SortSt := SortSt.mk' (kindOf st) (arrOf st) (pendingOf st) g (failedOf st)
theorem setMinGallop'_eq (g : Nat) : setMinGallop' g = modify fun s => setGal s g := rfl
def bey (left : Bool) (key : Keyed) (arr : Array Keyed) (base i : Nat) : StateT SortSt Sem (Option Bool) := do
    let x ← elem' arr (base + i)
    if left then lt' x key else return (← lt' key x).map (!·)
def seekG (left : Bool) (key : Keyed) (arr : Array Keyed) (base n lo hi : Nat) : StateT SortSt Sem (Option Nat) := do
  let mut lo := lo
  let mut hi := hi
  for _ in [0:n] do
    if lo ≥ hi then break
    let m := lo + (hi - lo) / 2
    let some more ← bey left key arr base m | return none
    if more then lo := m + 1 else hi := m
  return some hi
theorem gallop'_eq (left : Bool) (key : Keyed) (arr : Array Keyed) (base n hint : Nat) : gallop' left key arr base n hint = (do
  let mut lastofs := 0
  let mut ofs := 1
  let some right ← bey left key arr base hint | return none
  if right then
    let maxofs := n - hint
    for _ in [0:n] do
      if ofs ≥ maxofs then break
      let some more ← bey left key arr base (hint + ofs) | return none
      if !more then break
      lastofs := ofs
      ofs := 2 * ofs + 1
    seekG left key arr base n (hint + lastofs + 1) (hint + min ofs maxofs)
  else
    let maxofs := hint + 1
    for _ in [0:n] do
      if ofs ≥ maxofs then break
      let some found ← bey left key arr base (hint - ofs) | return none
      if found then break
      lastofs := ofs
      ofs := 2 * ofs + 1
    seekG left key arr base n (hint + 1 - min ofs maxofs) (hint - lastofs)) := rfl
section
variable {M : Model} {A : Around} {E : Value → Shared → Prop} {s : Shared} {st : SortSt} {left : Bool} {key : Keyed} {arr : Array Keyed} {base n hint lo hi : Nat} {Q : Option Nat → SortSt → Prop}
/-- what is asked of the comparison at each place below n -/
def Bey (M : Model) (A : Around) (E : Value → Shared → Prop) (s : Shared) (st : SortSt) (left : Bool) (key : Keyed) (arr : Array Keyed) (base n : Nat) (g : Nat → Bool) : Prop :=
  ∀ i, i < n → ∀ R : Option Bool → SortSt → Prop, R (some (g i)) st → wpS M A E s (bey left key arr base i) R st
theorem wpS_seekG {g : Nat → Bool} (hb : Bey M A E s st left key arr base n g) (mono : ∀ i j, i ≤ j → j < n → g j = true → g i = true)
    (h1 : lo ≤ hi) (h2 : hi ≤ n) (hlo : ∀ i, i < lo → g i = true) (hhi : ∀ i, hi ≤ i → i < n → g i = false)
    (h : ∀ k, k ≤ n → (∀ i, i < k → g i = true) → (∀ i, k ≤ i → i < n → g i = false) → Q (some k) st) : wpS M A E s (seekG left key arr base n lo hi) Q st := by
  unfold seekG
  dsimp only
  refine wpS_bind (wpS_mono (wpS_forRange
    (I := fun x c st' => st' = st ∧ ∃ l r, c = (none, l, r) ∧ l ≤ r ∧ r ≤ n ∧ r - l ≤ n - x ∧ (∀ i, i < l → g i = true) ∧ (∀ i, r ≤ i → i < n → g i = false))
    (Q := fun c st' => st' = st ∧ ∃ l, c = (none, l, l) ∧ l ≤ n ∧ (∀ i, i < l → g i = true) ∧ (∀ i, l ≤ i → i < n → g i = false)) ?step ?fin ⟨rfl, lo, hi, rfl, h1, h2, by omega, hlo, hhi⟩) ?post)
  case fin =>
    rintro c st' ⟨rfl, l, r, rfl, a1, a2, a3, a4, a5⟩
    have e : l = r := by omega
    subst e
    exact ⟨rfl, l, rfl, a2, a4, a5⟩
  case post =>
    rintro c st' ⟨rfl, l, rfl, a2, a4, a5⟩
    exact wpS_pure (h l a2 a4 a5)
  case step =>
    rintro x c st' _ hx ⟨rfl, l, r, rfl, a1, a2, a3, a4, a5⟩
    dsimp only
    by_cases hge : l ≥ r
    · rw [if_pos hge]
      have e : l = r := by omega
      subst e
      exact wpS_pure ⟨rfl, l, rfl, a2, a4, a5⟩
    · rw [if_neg hge]
      refine wpS_bind (hb _ (by omega) _ ?_)
      cases e : g (l + (r - l) / 2) with
      | true =>
        simp only [if_true]
        exact wpS_pure ⟨rfl, l + (r - l) / 2 + 1, r, rfl, by omega, a2, by omega, fun i hi => mono i _ (by omega) (by omega) e, a5⟩
      | false =>
        simp only [Bool.false_eq_true, if_false]
        refine wpS_pure ⟨rfl, l, l + (r - l) / 2, rfl, by omega, by omega, by omega, a4, fun i hi hn => ?_⟩
        cases e2 : g i with
        | false => rfl
        | true => rw [mono _ i hi hn e2] at e; cases e
theorem wpS_gallop {g : Nat → Bool} (hb : Bey M A E s st left key arr base n g) (mono : ∀ i j, i ≤ j → j < n → g j = true → g i = true) (hh : hint < n)
    (h : ∀ k, k ≤ n → (∀ i, i < k → g i = true) → (∀ i, k ≤ i → i < n → g i = false) → Q (some k) st) : wpS M A E s (gallop' left key arr base n hint) Q st := by
  have anti : ∀ i j, i ≤ j → j < n → g i = false → g j = false := fun i j hij hj e => by
    cases e2 : g j with
    | false => rfl
    | true => rw [mono i j hij hj e2] at e; cases e
  rw [gallop'_eq]
  dsimp only
  refine wpS_bind (hb hint hh _ ?_)
  cases e0 : g hint with
  | true =>
    simp only [if_true]
    refine wpS_bind (wpS_mono (wpS_forRange
      (I := fun x c st' => st' = st ∧ ∃ l o, c = (none, l, o) ∧ l < o ∧ x + 1 ≤ o ∧ hint + l < n ∧ g (hint + l) = true)
      (Q := fun c st' => st' = st ∧ ∃ l o, c = (none, l, o) ∧ l < o ∧ hint + l < n ∧ g (hint + l) = true ∧ (n - hint ≤ o ∨ (hint + o < n ∧ g (hint + o) = false))) ?step ?fin ⟨rfl, 0, 1, rfl, by omega, by omega, by omega, e0⟩) ?post)
    case fin =>
      rintro c st' ⟨rfl, l, o, rfl, a1, a2, a3, a4⟩
      exact ⟨rfl, l, o, rfl, a1, a3, a4, .inl (by omega)⟩
    case post =>
      rintro c st' ⟨rfl, l, o, rfl, a1, a3, a4, a5⟩
      dsimp only
      refine wpS_seekG hb mono (by omega) (by omega) (fun i hi => mono i (hint + l) (by omega) a3 a4) (fun i hi hn => ?_) h
      rcases a5 with a5 | ⟨a5, a6⟩
      · omega
      · exact anti (hint + o) i (by omega) hn a6
    case step =>
      rintro x c st' _ hx ⟨rfl, l, o, rfl, a1, a2, a3, a4⟩
      dsimp only
      by_cases hge : o ≥ n - hint
      · rw [if_pos hge]
        exact wpS_pure ⟨rfl, l, o, rfl, a1, a3, a4, .inl hge⟩
      · rw [if_neg hge]
        refine wpS_bind (hb _ (by omega) _ ?_)
        cases e : g (hint + o) with
        | true =>
          simp only [Bool.not_true, Bool.false_eq_true, if_false]
          exact wpS_pure ⟨rfl, o, 2 * o + 1, rfl, by omega, by omega, by omega, e⟩
        | false =>
          simp only [Bool.not_false, if_true]
          exact wpS_pure ⟨rfl, l, o, rfl, a1, a3, a4, .inr ⟨by omega, e⟩⟩
  | false =>
    simp only [Bool.false_eq_true, if_false]
    refine wpS_bind (wpS_mono (wpS_forRange
      (I := fun x c st' => st' = st ∧ ∃ l o, c = (none, l, o) ∧ l < o ∧ x + 1 ≤ o ∧ l ≤ hint ∧ g (hint - l) = false)
      (Q := fun c st' => st' = st ∧ ∃ l o, c = (none, l, o) ∧ l < o ∧ l ≤ hint ∧ g (hint - l) = false ∧ (hint + 1 ≤ o ∨ (o ≤ hint ∧ g (hint - o) = true))) ?step ?fin ⟨rfl, 0, 1, rfl, by omega, by omega, by omega, e0⟩) ?post)
    case fin =>
      rintro c st' ⟨rfl, l, o, rfl, a1, a2, a3, a4⟩
      exact ⟨rfl, l, o, rfl, a1, a3, a4, .inl (by omega)⟩
    case post =>
      rintro c st' ⟨rfl, l, o, rfl, a1, a3, a4, a5⟩
      dsimp only
      refine wpS_seekG hb mono (by omega) (by omega) (fun i hi => ?_) (fun i hi hn => anti (hint - l) i hi hn a4) h
      rcases a5 with a5 | ⟨a5, a6⟩
      · omega
      · exact mono i (hint - o) (by omega) (by omega) a6
    case step =>
      rintro x c st' _ hx ⟨rfl, l, o, rfl, a1, a2, a3, a4⟩
      dsimp only
      by_cases hge : o ≥ hint + 1
      · rw [if_pos hge]
        exact wpS_pure ⟨rfl, l, o, rfl, a1, a3, a4, .inl hge⟩
      · rw [if_neg hge]
        refine wpS_bind (hb _ (by omega) _ ?_)
        cases e : g (hint - o) with
        | true =>
          simp only [if_true]
          exact wpS_pure ⟨rfl, l, o, rfl, a1, a3, a4, .inr ⟨by omega, e⟩⟩
        | false =>
          simp only [Bool.false_eq_true, if_false]
          exact wpS_pure ⟨rfl, o, 2 * o + 1, rfl, by omega, by omega, by omega, e⟩
end
end Eb

set_option autoImplicit false
namespace Eb
open PySem PyProof.Rows
/-! merging, over plain lists: what is out already, and how far the two lists are used up -/
structure MI {α : Type} (R : α → α → Prop) (la lb out : List α) (ia ib : Nat) : Prop where
  perm : out.Perm (la.take ia ++ lb.take ib)
  srt : out.Pairwise R
  oa : ∀ p ∈ out, ∀ q ∈ la.drop ia, R p q
  ob : ∀ p ∈ out, ∀ q ∈ lb.drop ib, R p q
  ha : ia ≤ la.length
  hb : ib ≤ lb.length
section
variable {α : Type} {R : α → α → Prop} {la lb out : List α} {ia ib : Nat}
theorem MI.swap (h : MI R la lb out ia ib) : MI R lb la out ib ia := ⟨h.perm.trans List.perm_append_comm, h.srt, h.ob, h.oa, h.hb, h.ha⟩
theorem MI.len (h : MI R la lb out ia ib) : out.length = ia + ib := by
  have e := h.perm.length_eq
  rw [List.length_append, List.length_take, List.length_take, Nat.min_eq_left h.ha, Nat.min_eq_left h.hb] at e
  exact e
theorem MI.pushA {k : Nat} (h : MI R la lb out ia ib) (sa : la.Pairwise R) (hk : ia + k ≤ la.length) (hx : ∀ p ∈ (la.drop ia).take k, ∀ q ∈ lb.drop ib, R p q) : MI R la lb (out ++ (la.drop ia).take k) (ia + k) ib := by
  have e1 : la.take (ia + k) = la.take ia ++ (la.drop ia).take k := List.take_add
  have e2 : la.drop ia = (la.drop ia).take k ++ la.drop (ia + k) := by rw [← List.drop_drop]; exact (List.take_append_drop k _).symm
  have sd : ((la.drop ia).take k ++ la.drop (ia + k)).Pairwise R := by rw [← e2]; exact sa.sublist (List.drop_sublist _ _)
  have sd' := List.pairwise_append.mp sd
  refine ⟨?_, ?_, ?_, ?_, hk, h.hb⟩
  · rw [e1]
    refine (h.perm.append_right _).trans ?_
    rw [List.append_assoc, List.append_assoc]
    exact List.Perm.append_left _ List.perm_append_comm
  · refine List.pairwise_append.mpr ⟨h.srt, sd'.1, fun p hp q hq => h.oa p hp q ?_⟩
    rw [e2]; exact List.mem_append_left _ hq
  · intro p hp q hq
    rcases List.mem_append.mp hp with hp | hp
    · exact h.oa p hp q (by rw [e2]; exact List.mem_append_right _ hq)
    · exact sd'.2.2 p hp q hq
  · intro p hp q hq
    rcases List.mem_append.mp hp with hp | hp
    · exact h.ob p hp q hq
    · exact hx p hp q hq
theorem MI.pushB {k : Nat} (h : MI R la lb out ia ib) (sb : lb.Pairwise R) (hk : ib + k ≤ lb.length) (hx : ∀ p ∈ (lb.drop ib).take k, ∀ q ∈ la.drop ia, R p q) : MI R la lb (out ++ (lb.drop ib).take k) ia (ib + k) :=
  (h.swap.pushA sb hk hx).swap
theorem take_one {x : α} {l : List α} {i : Nat} (e : l[i]? = some x) : (l.drop i).take 1 = [x] := by
  obtain ⟨h, rfl⟩ := List.getElem?_eq_some_iff.mp e
  rw [List.drop_eq_getElem_cons h]; rfl
theorem MI.oneA {x : α} (h : MI R la lb out ia ib) (sa : la.Pairwise R) (e : la[ia]? = some x) (hx : ∀ q ∈ lb.drop ib, R x q) : MI R la lb (out ++ [x]) (ia + 1) ib := by
  have e1 := take_one e
  rw [← e1]
  exact h.pushA sa (by have := (List.getElem?_eq_some_iff.mp e).1; omega) (fun p hp q hq => by rw [e1] at hp; rw [List.mem_singleton.mp hp]; exact hx q hq)
theorem MI.oneB {x : α} (h : MI R la lb out ia ib) (sb : lb.Pairwise R) (e : lb[ib]? = some x) (hx : ∀ q ∈ la.drop ia, R x q) : MI R la lb (out ++ [x]) ia (ib + 1) :=
  (h.swap.oneA sb e hx).swap
/-- the end: one of the two is used up -/
theorem MI.endB (h : MI R la lb out ia ib) (sa : la.Pairwise R) (e : ib = lb.length) : (out ++ la.drop ia ++ lb.drop ib).Perm (la ++ lb) ∧ (out ++ la.drop ia ++ lb.drop ib).Pairwise R := by
  subst e
  rw [List.drop_length, List.append_nil]
  refine ⟨?_, List.pairwise_append.mpr ⟨h.srt, sa.sublist (List.drop_sublist _ _), h.oa⟩⟩
  have p := h.perm
  rw [List.take_length] at p
  refine (p.append_right _).trans ?_
  refine (List.perm_append_comm.append_right _).trans ?_
  rw [List.append_assoc, List.take_append_drop]
  exact List.perm_append_comm
theorem MI.endA (h : MI R la lb out ia ib) (sb : lb.Pairwise R) (e : ia = la.length) : (out ++ la.drop ia ++ lb.drop ib).Perm (la ++ lb) ∧ (out ++ la.drop ia ++ lb.drop ib).Pairwise R := by
  have q := h.swap.endB sb e
  subst e
  rw [List.drop_length, List.append_nil] at q ⊢
  exact ⟨q.1.trans List.perm_append_comm, q.2⟩
/-- the end: one item of la is left, and nothing of lb is above it -/
theorem MI.endL {z : α} (h : MI R la lb out ia ib) (sb : lb.Pairwise R) (e : ia + 1 = la.length) (ez : la[ia]? = some z) (hz : ∀ q ∈ lb, R q z) : (out ++ lb.drop ib ++ la.drop ia).Perm (la ++ lb) ∧ (out ++ lb.drop ib ++ la.drop ia).Pairwise R := by
  have e1 : la.drop ia = [z] := by
    obtain ⟨h1, rfl⟩ := List.getElem?_eq_some_iff.mp ez
    rw [List.drop_eq_getElem_cons h1, e, List.drop_length]
  refine ⟨?_, ?_⟩
  · refine ((h.perm.append_right _).append_right _).trans ?_
    rw [List.append_assoc (la.take ia), List.take_append_drop]
    refine List.perm_append_comm.trans ?_
    rw [← List.append_assoc]
    refine (List.perm_append_comm.append_right _).trans ?_
    rw [List.take_append_drop]
  · rw [e1]
    refine List.pairwise_append.mpr ⟨List.pairwise_append.mpr ⟨h.srt, sb.sublist (List.drop_sublist _ _), h.ob⟩, List.pairwise_singleton _ _, fun p hp q hq => ?_⟩
    rw [List.mem_singleton.mp hq]
    rcases List.mem_append.mp hp with hp | hp
    · exact h.oa p hp z (by rw [e1]; exact List.mem_singleton_self _)
    · exact hz p (List.mem_of_mem_drop hp)
end
/-! keys -/
def kf (κ : KeyKind) (p : Keyed) : κ.α := (κ.keyOf p.1).getD κ.dflt
def Kle (κ : KeyKind) (p q : Keyed) : Prop := κ.kle (kf κ p) (kf κ q)
theorem KK_kf {κ : KeyKind} {xs : Array Keyed} {i : Nat} {p : Keyed} (e : xs[i]? = some p) : KK κ xs i = kf κ p := by unfold KK kf; rw [e]
section
variable {prog : Program} {w : World} {A : Around} {E : Value → Shared → Prop} {s : Shared} {κ : KeyKind} {st : SortSt}
theorem wpS_lt2 {x y : Keyed} {Q : Option Bool → SortSt → Prop} (hO : κ.OneLt) (hk : kindOf st = oneType') (hx : ∃ a, κ.keyOf x.1 = some a) (hy : ∃ a, κ.keyOf y.1 = some a) (h : Q (some (κ.blt (kf κ x) (kf κ y))) st) :
    wpS (model prog w) A E s (lt' x y) Q st := by
  obtain ⟨a, ha⟩ := hx
  obtain ⟨b, hb⟩ := hy
  unfold kf at h
  rw [ha, hb] at h
  rw [lt'_eq]
  refine wpS_bind (wpS_get ?_)
  rw [hk, keyLt'_oneType]
  refine wpS_bind (wpS_lift (wpAny_attempt (hO prog w A _ s x.1 y.1 a b ha hb ⟨rfl, ?_⟩)))
  exact wpS_pure h
theorem wpS_elem {arr : Array Keyed} {i : Nat} {p : Keyed} {Q : Keyed → SortSt → Prop} {M : Model} (e : arr[i]? = some p) (h : Q p st) : wpS M A E s (elem' arr i) Q st := by
  rw [elem'_eq, e]
  exact wpS_pure h
theorem beyL {key : Keyed} {arr : Array Keyed} {base n : Nat} (hO : κ.OneLt) (hk : kindOf st = oneType') (ha : KeysOf κ arr) (hy : ∃ a, κ.keyOf key.1 = some a) (hn : base + n ≤ arr.size) :
    Bey (model prog w) A E s st true key arr base n (fun i => κ.blt (KK κ arr (base + i)) (kf κ key)) := by
  intro i hi R h
  have e : arr[base + i]? = some arr[base + i] := getElem?_pos arr (base + i) (by omega)
  dsimp only at h
  rw [KK_kf e] at h
  unfold bey
  refine wpS_bind (wpS_elem e ?_)
  simp only [if_true]
  exact wpS_lt2 hO hk (ha _ (by simp)) hy h
theorem beyR {key : Keyed} {arr : Array Keyed} {base n : Nat} (hO : κ.OneLt) (hk : kindOf st = oneType') (ha : KeysOf κ arr) (hy : ∃ a, κ.keyOf key.1 = some a) (hn : base + n ≤ arr.size) :
    Bey (model prog w) A E s st false key arr base n (fun i => !κ.blt (kf κ key) (KK κ arr (base + i))) := by
  intro i hi R h
  have e : arr[base + i]? = some arr[base + i] := getElem?_pos arr (base + i) (by omega)
  dsimp only at h
  rw [KK_kf e] at h
  unfold bey
  refine wpS_bind (wpS_elem e ?_)
  simp only [Bool.false_eq_true, if_false]
  exact wpS_bind (wpS_lt2 hO hk hy (ha _ (by simp)) (wpS_pure h))
end
end Eb

set_option autoImplicit false
namespace Eb
open PySem PyProof.Rows
abbrev Acc1 := Option (Array Keyed) × Array Keyed × Nat × Nat × Nat × Nat
abbrev Acc2 := Option (Array Keyed) × Array Keyed × Nat × Nat × Nat × Nat × Nat
abbrev Acc0 := Option (Array Keyed) × Array Keyed × Nat × Nat × Nat
def dnL (a b out : Array Keyed) (ia ib : Nat) : Array Keyed := out ++ a.extract ia a.size ++ b.extract ib b.size
def lsL (a b out : Array Keyed) (ia ib : Nat) : Array Keyed := out ++ b.extract ib b.size ++ a.extract ia a.size
def lo3 (a b out : Array Keyed) (ia ib mg ac bc : Nat) : StateT SortSt Sem (ForInStep Acc2) := do
  let y ← elem' a ia
  if ia + 1 + 1 == a.size then pure (.done (some (lsL a b (out.push y) (ia + 1) ib), out.push y, ia + 1, ib, mg, ac, bc))
  else if ac < 7 && bc < 7 then pure (.done (none, out.push y, ia + 1, ib, mg, ac, bc)) else pure (.yield (none, out.push y, ia + 1, ib, mg, ac, bc))
def lo2 (a b out : Array Keyed) (ia ib mg ac bc : Nat) : StateT SortSt Sem (ForInStep Acc2) := do
  let x ← elem' b ib
  if ib + 1 == b.size then pure (.done (some (dnL a b (out.push x) ia (ib + 1)), out.push x, ia, ib + 1, mg, ac, bc))
  else do
    let y ← elem' a ia
    let k? ← gallop' true y b (ib + 1) (b.size - (ib + 1)) 0
    match k? with
    | some k =>
      if k > 0 then
        if ib + 1 + k == b.size then pure (.done (some (dnL a b (out.push x ++ b.extract (ib + 1) (ib + 1 + k)) ia (ib + 1 + k)), out.push x ++ b.extract (ib + 1) (ib + 1 + k), ia, ib + 1 + k, mg, ac, k))
        else lo3 a b (out.push x ++ b.extract (ib + 1) (ib + 1 + k)) ia (ib + 1 + k) mg ac k
      else lo3 a b (out.push x) ia (ib + 1) mg ac k
    | _ => pure (.done (some (dnL a b (out.push x) ia (ib + 1)), out.push x, ia, ib + 1, mg, ac, bc))
def lo1 (a b out : Array Keyed) (ia ib mg ac bc : Nat) : StateT SortSt Sem (ForInStep Acc2) := do
  setMinGallop' mg
  let x ← elem' b ib
  let k? ← gallop' false x a ia (a.size - ia) 0
  match k? with
  | some k =>
    if k > 0 then
      if ia + k + 1 == a.size then pure (.done (some (lsL a b (out ++ a.extract ia (ia + k)) (ia + k) ib), out ++ a.extract ia (ia + k), ia + k, ib, mg, k, bc))
      else if ia + k == a.size then pure (.done (some (dnL a b (out ++ a.extract ia (ia + k)) (ia + k) ib), out ++ a.extract ia (ia + k), ia + k, ib, mg, k, bc))
      else lo2 a b (out ++ a.extract ia (ia + k)) (ia + k) ib mg k bc
    else lo2 a b out ia ib mg k bc
  | _ => pure (.done (some (dnL a b out ia ib), out, ia, ib, mg, ac, bc))
/-- the loop item by item -/
def loOne (a b : Array Keyed) (mg : Nat) (c : Acc1) : StateT SortSt Sem (ForInStep Acc1) := do
  let x ← elem' b c.2.2.2.1
  let y ← elem' a c.2.2.1
  let r ← lt' x y
  match r with
  | some bWins =>
    if bWins then do
      let x ← elem' b c.2.2.2.1
      if c.2.2.2.1 + 1 == b.size then pure (.done (some (dnL a b (c.2.1.push x) c.2.2.1 (c.2.2.2.1 + 1)), c.2.1.push x, c.2.2.1, c.2.2.2.1 + 1, 0, c.2.2.2.2.2 + 1))
      else if c.2.2.2.2.2 + 1 ≥ mg then pure (.done (none, c.2.1.push x, c.2.2.1, c.2.2.2.1 + 1, 0, c.2.2.2.2.2 + 1))
      else pure (.yield (none, c.2.1.push x, c.2.2.1, c.2.2.2.1 + 1, 0, c.2.2.2.2.2 + 1))
    else do
      let y ← elem' a c.2.2.1
      if c.2.2.1 + 1 + 1 == a.size then pure (.done (some (lsL a b (c.2.1.push y) (c.2.2.1 + 1) c.2.2.2.1), c.2.1.push y, c.2.2.1 + 1, c.2.2.2.1, c.2.2.2.2.1 + 1, 0))
      else if c.2.2.2.2.1 + 1 ≥ mg then pure (.done (none, c.2.1.push y, c.2.2.1 + 1, c.2.2.2.1, c.2.2.2.2.1 + 1, 0))
      else pure (.yield (none, c.2.1.push y, c.2.2.1 + 1, c.2.2.2.1, c.2.2.2.2.1 + 1, 0))
  | _ => pure (.done (some (dnL a b c.2.1 c.2.2.1 c.2.2.2.1), c.2.1, c.2.2.1, c.2.2.2.1, c.2.2.2.2.1, c.2.2.2.2.2))
def loGal (a b : Array Keyed) (c : Acc2) : StateT SortSt Sem (ForInStep Acc2) :=
  if c.2.2.2.2.1 > 1 then lo1 a b c.2.1 c.2.2.1 c.2.2.2.1 (c.2.2.2.2.1 - 1) c.2.2.2.2.2.1 c.2.2.2.2.2.2
  else lo1 a b c.2.1 c.2.2.1 c.2.2.2.1 c.2.2.2.2.1 c.2.2.2.2.2.1 c.2.2.2.2.2.2
def loBig (a b : Array Keyed) (c : Acc0) : StateT SortSt Sem (ForInStep Acc0) := do
  let t ← forIn [0:a.size + b.size] ((none, c.2.1, c.2.2.1, c.2.2.2.1, 0, 0) : Acc1) fun _ t => loOne a b c.2.2.2.2 t
  match t.1 with
  | some r => pure (.done (some r, t.2.1, t.2.2.1, t.2.2.2.1, c.2.2.2.2))
  | none => do
    liftM (rule "list.sort.gallop")
    let t ← forIn [0:a.size + b.size] ((none, t.2.1, t.2.2.1, t.2.2.2.1, c.2.2.2.2 + 1, t.2.2.2.2.1, t.2.2.2.2.2) : Acc2) fun _ t => loGal a b t
    match t.1 with
    | some r => pure (.done (some r, t.2.1, t.2.2.1, t.2.2.2.1, t.2.2.2.2.1))
    | none => do
      setMinGallop' (t.2.2.2.2.1 + 1)
      pure (.yield (none, t.2.1, t.2.2.1, t.2.2.2.1, t.2.2.2.2.1 + 1))
theorem mergeLo'_eq (a b : Array Keyed) : mergeLo' a b = (do
  liftM (rule "list.sort.merge-lo")
  let x ← elem' b 0
  if 1 == b.size then pure (dnL a b #[x] 0 1)
  else if 0 + 1 == a.size then pure (lsL a b #[x] 0 1)
  else do
    let g ← get
    let t ← forIn [0:a.size + b.size] ((none, #[x], 0, 1, gallopOf g) : Acc0) fun _ t => loBig a b t
    match t.1 with
    | some r => pure r
    | none => liftM (unsupported "internal:list.sort.merge-bound" : Sem (Array Keyed))) := by
  unfold mergeLo'
  change (bind _ _ : StateT SortSt Sem (Array Keyed)) = _
  dsimp only
  congr 1
  funext u
  congr 1
  funext x
  refine ite_congr rfl (fun _ => rfl) (fun _ => ?_)
  refine ite_congr rfl (fun _ => rfl) (fun _ => ?_)
  congr 1
  funext g
  congr 1
  · congr 1
    funext _ t
    unfold loBig
    congr 1
    · funext t
      obtain ⟨t1, t2⟩ := t
      cases t1 with
      | some r => rfl
      | none =>
        dsimp only
        congr 1
        funext u
        congr 1
        funext t
        obtain ⟨t1, t2⟩ := t
        cases t1 with
        | some r => rfl
        | none => rfl
  · funext t
    obtain ⟨t1, t2⟩ := t
    cases t1 with
    | some r => rfl
    | none => rfl
end Eb

set_option autoImplicit false
namespace Eb
open PySem PyProof.Rows
section
variable {α : Type} {R : α → α → Prop}
theorem mem_drop_ix {l : List α} {i : Nat} {q : α} (h : q ∈ l.drop i) : ∃ j, l[i + j]? = some q := by
  obtain ⟨j, hj⟩ := List.mem_iff_getElem?.mp h
  rw [List.getElem?_drop] at hj
  exact ⟨j, hj⟩
theorem mem_take_ix {l : List α} {i k : Nat} {q : α} (h : q ∈ (l.drop i).take k) : ∃ j, j < k ∧ l[i + j]? = some q := by
  obtain ⟨j, hj⟩ := List.mem_iff_getElem?.mp h
  rw [List.getElem?_take] at hj
  split at hj
  · rw [List.getElem?_drop] at hj
    exact ⟨j, by assumption, hj⟩
  · cases hj
theorem pair_ix {l : List α} (h : l.Pairwise R) (r : ∀ x, R x x) {i j : Nat} {p q : α} (hi : l[i]? = some p) (hj : l[j]? = some q) (hij : i ≤ j) : R p q := by
  obtain ⟨h1, rfl⟩ := List.getElem?_eq_some_iff.mp hi
  obtain ⟨h2, rfl⟩ := List.getElem?_eq_some_iff.mp hj
  by_cases e : i = j
  · subst e; exact r _
  · exact List.pairwise_iff_getElem.mp h i j h1 h2 (by omega)
theorem ext_list (a : Array α) (i j : Nat) : (a.extract i j).toList = (a.toList.drop i).take (j - i) := by
  simp [List.extract_eq_take_drop]
theorem ext_all (a : Array α) (i : Nat) : (a.extract i a.size).toList = a.toList.drop i := by
  rw [ext_list]
  exact List.take_of_length_le (by simp)
end
theorem dnL_list (a b out : Array Keyed) (ia ib : Nat) : (dnL a b out ia ib).toList = out.toList ++ a.toList.drop ia ++ b.toList.drop ib := by
  unfold dnL; rw [Array.toList_append, Array.toList_append, ext_all, ext_all]
theorem lsL_list (a b out : Array Keyed) (ia ib : Nat) : (lsL a b out ia ib).toList = out.toList ++ b.toList.drop ib ++ a.toList.drop ia := by
  unfold lsL; rw [Array.toList_append, Array.toList_append, ext_all, ext_all]
theorem kle_refl' {κ : KeyKind} (p : Keyed) : Kle κ p p := KeyOrd.kle_refl _
section
variable {prog : Program} {w : World} {A : Around} {E : Value → Shared → Prop} {s : Shared} {κ : KeyKind} {st st' : SortSt} {a b : Array Keyed}
def SameSt (st st' : SortSt) : Prop := ∃ g, st' = setGal st g
theorem SameSt.refl (st : SortSt) : SameSt st st := ⟨gallopOf st, rfl⟩
theorem SameSt.set (h : SameSt st st') (g : Nat) : SameSt st (setGal st' g) := by obtain ⟨g', rfl⟩ := h; exact ⟨g, rfl⟩
theorem SameSt.kind (h : SameSt st st') : kindOf st' = kindOf st := by obtain ⟨g', rfl⟩ := h; rfl
/-- what is asked of the two lists that are merged -/
structure MPre (κ : KeyKind) (a b : Array Keyed) : Prop where
  ka : KeysOf κ a
  kb : KeysOf κ b
  sa : a.toList.Pairwise (Kle κ)
  sb : b.toList.Pairwise (Kle κ)
def FinM (κ : KeyKind) (a b : Array Keyed) (st : SortSt) (r : Array Keyed) (st' : SortSt) : Prop := r.toList.Perm (a.toList ++ b.toList) ∧ r.toList.Pairwise (Kle κ) ∧ SameSt st st'
def LiveM (κ : KeyKind) (a b : Array Keyed) (st : SortSt) (n0 : Nat) (out : Array Keyed) (ia ib : Nat) (st' : SortSt) : Prop :=
  MI (Kle κ) a.toList b.toList out.toList ia ib ∧ ia + 1 < a.size ∧ ib < b.size ∧ n0 ≤ ia + ib ∧ SameSt st st'
def StepM (κ : KeyKind) (a b : Array Keyed) (st : SortSt) (n0 : Nat) (r : ForInStep Acc2) (st' : SortSt) : Prop := match r with
  | .done c => (∃ v, c.1 = some v ∧ FinM κ a b st v st') ∨ (c.1 = none ∧ LiveM κ a b st n0 c.2.1 c.2.2.1 c.2.2.2.1 st')
  | .yield c => c.1 = none ∧ LiveM κ a b st n0 c.2.1 c.2.2.1 c.2.2.2.1 st'
theorem ix_of {a : Array Keyed} {i : Nat} (h : i < a.size) : ∃ x, a[i]? = some x ∧ a.toList[i]? = some x := ⟨a[i], getElem?_pos a i h, by rw [Array.getElem?_toList]; exact getElem?_pos a i h⟩
theorem MPre.okA (P : MPre κ a b) {i : Nat} {x : Keyed} (h : a.toList[i]? = some x) : ∃ k, κ.keyOf x.1 = some k := P.ka x (List.mem_of_getElem? h)
theorem MPre.okB (P : MPre κ a b) {i : Nat} {x : Keyed} (h : b.toList[i]? = some x) : ∃ k, κ.keyOf x.1 = some k := P.kb x (List.mem_of_getElem? h)
theorem KK_at {xs : Array Keyed} {i : Nat} {p : Keyed} (e : xs.toList[i]? = some p) : KK κ xs i = kf κ p := KK_kf (by rw [← Array.getElem?_toList]; exact e)
theorem wpS_lo3 {out : Array Keyed} {ia ib mg ac bc n0 : Nat} {y : Keyed} (P : MPre κ a b) (hz : ∀ z, a.toList[a.size - 1]? = some z → ∀ q ∈ b.toList, Kle κ q z)
    (L : LiveM κ a b st n0 out ia ib st') (ey : a.toList[ia]? = some y) (hy : ∀ q ∈ b.toList.drop ib, Kle κ y q) : wpS (model prog w) A E s (lo3 a b out ia ib mg ac bc) (StepM κ a b st (n0 + 1)) st' := by
  obtain ⟨m, h1, h2, h3, h4⟩ := L
  unfold lo3
  refine wpS_bind (wpS_elem (by rw [← Array.getElem?_toList]; exact ey) ?_)
  have m' := m.oneA P.sa ey hy
  rw [← Array.toList_push] at m'
  by_cases c : ia + 1 + 1 = a.size
  · rw [if_pos (by simpa using c)]
    obtain ⟨z, _, ez⟩ := ix_of (a := a) (i := ia + 1) (by omega)
    have q := m'.endL P.sb (by simpa using c) ez (hz z (by rw [show a.size - 1 = ia + 1 by omega]; exact ez))
    exact wpS_pure (.inl ⟨_, rfl, by rw [lsL_list]; exact q.1, by rw [lsL_list]; exact q.2, h4⟩)
  · rw [if_neg (by simpa using c)]
    have L' : LiveM κ a b st (n0 + 1) (out.push y) (ia + 1) ib st' := ⟨m', by omega, h2, by omega, h4⟩
    split
    · exact wpS_pure (.inr ⟨rfl, L'⟩)
    · exact wpS_pure ⟨rfl, L'⟩
theorem wpS_lo2 {out : Array Keyed} {ia ib mg ac bc n0 : Nat} {x : Keyed} (hO : κ.OneLt) (hk : kindOf st = oneType') (P : MPre κ a b) (hz : ∀ z, a.toList[a.size - 1]? = some z → ∀ q ∈ b.toList, Kle κ q z)
    (L : LiveM κ a b st n0 out ia ib st') (ex : b.toList[ib]? = some x) (hx : ∀ q ∈ a.toList.drop ia, Kle κ x q) : wpS (model prog w) A E s (lo2 a b out ia ib mg ac bc) (StepM κ a b st (n0 + 1)) st' := by
  obtain ⟨m, h1, h2, h3, h4⟩ := L
  have hk' : kindOf st' = oneType' := h4.kind.trans hk
  unfold lo2
  refine wpS_bind (wpS_elem (by rw [← Array.getElem?_toList]; exact ex) ?_)
  have m1 := m.oneB P.sb ex hx
  rw [← Array.toList_push] at m1
  by_cases c : ib + 1 = b.size
  · rw [if_pos (by simpa using c)]
    have q := m1.endB P.sa (by simpa using c)
    exact wpS_pure (.inl ⟨_, rfl, by rw [dnL_list]; exact q.1, by rw [dnL_list]; exact q.2, h4⟩)
  · rw [if_neg (by simpa using c)]
    obtain ⟨y, ey', ey⟩ := ix_of (a := a) (i := ia) (by omega)
    refine wpS_bind (wpS_elem ey' ?_)
    refine wpS_bind (wpS_gallop (beyL hO hk' P.kb (P.okA ey) (by omega)) (fun i j hij hj e => ?_) (by omega) fun k hkn hlt hge => ?_)
    · obtain ⟨p, _, ep⟩ := ix_of (a := b) (i := ib + 1 + i) (by omega)
      obtain ⟨q, _, eq⟩ := ix_of (a := b) (i := ib + 1 + j) (by omega)
      rw [KK_at eq] at e
      rw [KK_at ep]
      exact KeyOrd.klt_of_kle_of_klt (pair_ix P.sb kle_refl' ep eq (by omega)) e
    dsimp only at hlt hge ⊢
    have below : ∀ p ∈ (b.toList.drop (ib + 1)).take k, ∀ q ∈ a.toList.drop ia, Kle κ p q := fun p hp q hq => by
      obtain ⟨j, hj, ep⟩ := mem_take_ix hp
      obtain ⟨i, eq⟩ := mem_drop_ix hq
      have z := hlt j hj
      rw [KK_at ep] at z
      exact KeyOrd.kle_trans (KeyOrd.kle_of_klt z) (pair_ix P.sa kle_refl' ey eq (by omega))
    have above : ∀ q ∈ b.toList.drop (ib + 1 + k), Kle κ y q := fun q hq => by
      obtain ⟨j, eq⟩ := mem_drop_ix hq
      have hl := (List.getElem?_eq_some_iff.mp eq).1
      rw [Array.length_toList] at hl
      have z := hge (k + j) (by omega) (by omega)
      rw [show ib + 1 + (k + j) = ib + 1 + k + j by omega, KK_at eq] at z
      exact z
    have m2 := m1.pushB (k := k) P.sb (by rw [Array.length_toList]; omega) below
    have e2 : (out.push x ++ b.extract (ib + 1) (ib + 1 + k)).toList = (out.push x).toList ++ (b.toList.drop (ib + 1)).take k := by
      rw [Array.toList_append, ext_list, show ib + 1 + k - (ib + 1) = k by omega]
    by_cases c2 : k > 0
    · rw [if_pos c2]
      by_cases c3 : ib + 1 + k = b.size
      · rw [if_pos (by simpa using c3)]
        rw [← e2] at m2
        have q := m2.endB P.sa (by simpa using c3)
        exact wpS_pure (.inl ⟨_, rfl, by rw [dnL_list]; exact q.1, by rw [dnL_list]; exact q.2, h4⟩)
      · rw [if_neg (by simpa using c3)]
        rw [← e2] at m2
        exact wpS_lo3 P hz ⟨m2, h1, by omega, by omega, h4⟩ ey above
    · rw [if_neg c2]
      have k0 : k = 0 := by omega
      subst k0
      exact wpS_lo3 P hz ⟨m1, h1, by omega, by omega, h4⟩ ey above
theorem wpS_lo1 {out : Array Keyed} {ia ib mg ac bc n0 : Nat} (hO : κ.OneLt) (hk : kindOf st = oneType') (P : MPre κ a b) (hz : ∀ z, a.toList[a.size - 1]? = some z → ∀ q ∈ b.toList, Kle κ q z)
    (L : LiveM κ a b st n0 out ia ib st') : wpS (model prog w) A E s (lo1 a b out ia ib mg ac bc) (StepM κ a b st (n0 + 1)) st' := by
  obtain ⟨m, h1, h2, h3, h4'⟩ := L
  unfold lo1
  rw [setMinGallop'_eq]
  refine wpS_bind (wpS_modify ?_)
  have h4 := h4'.set mg
  have hk' : kindOf (setGal st' mg) = oneType' := h4.kind.trans hk
  obtain ⟨x, ex', ex⟩ := ix_of (a := b) (i := ib) (by omega)
  refine wpS_bind (wpS_elem ex' ?_)
  refine wpS_bind (wpS_gallop (beyR hO hk' P.ka (P.okB ex) (by omega)) (fun i j hij hj e => ?_) (by omega) fun k hkn hlt hge => ?_)
  · obtain ⟨p, _, ep⟩ := ix_of (a := a) (i := ia + i) (by omega)
    obtain ⟨q, _, eq⟩ := ix_of (a := a) (i := ia + j) (by omega)
    rw [KK_at eq] at e
    rw [KK_at ep]
    have e' : κ.kle (kf κ q) (kf κ x) := by unfold KeyOrd.kle; simpa using e
    have z : κ.kle (kf κ p) (kf κ x) := KeyOrd.kle_trans (pair_ix P.sa kle_refl' ep eq (by omega)) e'
    unfold KeyOrd.kle at z
    simp [z]
  dsimp only at hlt hge ⊢
  have below : ∀ p ∈ (a.toList.drop ia).take k, ∀ q ∈ b.toList.drop ib, Kle κ p q := fun p hp q hq => by
    obtain ⟨j, hj, ep⟩ := mem_take_ix hp
    obtain ⟨i, eq⟩ := mem_drop_ix hq
    have z := hlt j hj
    rw [KK_at ep] at z
    have z' : κ.kle (kf κ p) (kf κ x) := by unfold KeyOrd.kle; simpa using z
    exact KeyOrd.kle_trans z' (pair_ix P.sb kle_refl' ex eq (by omega))
  have above : ∀ q ∈ a.toList.drop (ia + k), Kle κ x q := fun q hq => by
    obtain ⟨j, eq⟩ := mem_drop_ix hq
    have hl := (List.getElem?_eq_some_iff.mp eq).1
    rw [Array.length_toList] at hl
    have z := hge (k + j) (by omega) (by omega)
    rw [show ia + (k + j) = ia + k + j by omega, KK_at eq] at z
    have z' : κ.klt (kf κ x) (kf κ q) := by unfold KeyOrd.klt; simpa using z
    exact KeyOrd.kle_of_klt z'
  have m2 := m.pushA (k := k) P.sa (by rw [Array.length_toList]; omega) below
  have e2 : (out ++ a.extract ia (ia + k)).toList = out.toList ++ (a.toList.drop ia).take k := by
    rw [Array.toList_append, ext_list, show ia + k - ia = k by omega]
  by_cases c2 : k > 0
  · rw [if_pos c2]
    rw [← e2] at m2
    by_cases c3 : ia + k + 1 = a.size
    · rw [if_pos (by simpa using c3)]
      obtain ⟨z, _, ez⟩ := ix_of (a := a) (i := ia + k) (by omega)
      have q := m2.endL P.sb (by simpa using c3) ez (hz z (by rw [show a.size - 1 = ia + k by omega]; exact ez))
      exact wpS_pure (.inl ⟨_, rfl, by rw [lsL_list]; exact q.1, by rw [lsL_list]; exact q.2, h4⟩)
    · rw [if_neg (by simpa using c3)]
      by_cases c4 : ia + k = a.size
      · rw [if_pos (by simpa using c4)]
        have q := m2.endA P.sb (by simpa using c4)
        exact wpS_pure (.inl ⟨_, rfl, by rw [dnL_list]; exact q.1, by rw [dnL_list]; exact q.2, h4⟩)
      · rw [if_neg (by simpa using c4)]
        exact wpS_lo2 hO hk P hz ⟨m2, by omega, h2, by omega, h4⟩ ex above
  · rw [if_neg c2]
    have k0 : k = 0 := by omega
    subst k0
    exact wpS_lo2 hO hk P hz ⟨m, h1, h2, h3, h4⟩ ex above
def StepM1 (κ : KeyKind) (a b : Array Keyed) (st : SortSt) (n0 : Nat) (r : ForInStep Acc1) (st' : SortSt) : Prop := match r with
  | .done c => (∃ v, c.1 = some v ∧ FinM κ a b st v st') ∨ (c.1 = none ∧ LiveM κ a b st n0 c.2.1 c.2.2.1 c.2.2.2.1 st')
  | .yield c => c.1 = none ∧ LiveM κ a b st n0 c.2.1 c.2.2.1 c.2.2.2.1 st'
theorem wpS_loOne {c : Acc1} {mg n0 : Nat} (hO : κ.OneLt) (hk : kindOf st = oneType') (P : MPre κ a b) (hz : ∀ z, a.toList[a.size - 1]? = some z → ∀ q ∈ b.toList, Kle κ q z)
    (L : LiveM κ a b st n0 c.2.1 c.2.2.1 c.2.2.2.1 st') : wpS (model prog w) A E s (loOne a b mg c) (StepM1 κ a b st (n0 + 1)) st' := by
  obtain ⟨r0, out, ia, ib, ac, bc⟩ := c
  obtain ⟨m, h1, h2, h3, h4⟩ := L
  dsimp only at m h1 h2 h3
  have hk' : kindOf st' = oneType' := h4.kind.trans hk
  unfold loOne
  dsimp only
  obtain ⟨x, ex', ex⟩ := ix_of (a := b) (i := ib) (by omega)
  obtain ⟨y, ey', ey⟩ := ix_of (a := a) (i := ia) (by omega)
  refine wpS_bind (wpS_elem ex' (wpS_bind (wpS_elem ey' (wpS_bind (wpS_lt2 hO hk' (P.okB ex) (P.okA ey) ?_)))))
  cases e : κ.blt (kf κ x) (kf κ y) with
  | true =>
    simp only [if_true]
    refine wpS_bind (wpS_elem ex' ?_)
    have m1 := m.oneB P.sb ex (fun q hq => by
      obtain ⟨i, eq⟩ := mem_drop_ix hq
      exact KeyOrd.kle_trans (KeyOrd.kle_of_klt e) (pair_ix P.sa kle_refl' ey eq (by omega)))
    rw [← Array.toList_push] at m1
    by_cases c : ib + 1 = b.size
    · rw [if_pos (by simpa using c)]
      have q := m1.endB P.sa (by simpa using c)
      exact wpS_pure (.inl ⟨_, rfl, by rw [dnL_list]; exact q.1, by rw [dnL_list]; exact q.2, h4⟩)
    · rw [if_neg (by simpa using c)]
      have L' : LiveM κ a b st (n0 + 1) (out.push x) ia (ib + 1) st' := ⟨m1, h1, by omega, by omega, h4⟩
      split
      · exact wpS_pure (.inr ⟨rfl, L'⟩)
      · exact wpS_pure ⟨rfl, L'⟩
  | false =>
    simp only [Bool.false_eq_true, if_false]
    refine wpS_bind (wpS_elem ey' ?_)
    have m1 := m.oneA P.sa ey (fun q hq => by
      obtain ⟨i, eq⟩ := mem_drop_ix hq
      exact KeyOrd.kle_trans (show κ.kle (kf κ y) (kf κ x) from e) (pair_ix P.sb kle_refl' ex eq (by omega)))
    rw [← Array.toList_push] at m1
    by_cases c : ia + 1 + 1 = a.size
    · rw [if_pos (by simpa using c)]
      obtain ⟨z, _, ez⟩ := ix_of (a := a) (i := ia + 1) (by omega)
      have q := m1.endL P.sb (by simpa using c) ez (hz z (by rw [show a.size - 1 = ia + 1 by omega]; exact ez))
      exact wpS_pure (.inl ⟨_, rfl, by rw [lsL_list]; exact q.1, by rw [lsL_list]; exact q.2, h4⟩)
    · rw [if_neg (by simpa using c)]
      have L' : LiveM κ a b st (n0 + 1) (out.push y) (ia + 1) ib st' := ⟨m1, by omega, h2, by omega, h4⟩
      split
      · exact wpS_pure (.inr ⟨rfl, L'⟩)
      · exact wpS_pure ⟨rfl, L'⟩
def StepM0 (κ : KeyKind) (a b : Array Keyed) (st : SortSt) (n0 : Nat) (r : ForInStep Acc0) (st' : SortSt) : Prop := match r with
  | .done c => ∃ v, c.1 = some v ∧ FinM κ a b st v st'
  | .yield c => c.1 = none ∧ LiveM κ a b st n0 c.2.1 c.2.2.1 c.2.2.2.1 st'
theorem wpS_loBig {c : Acc0} {n0 : Nat} (hO : κ.OneLt) (hk : kindOf st = oneType') (P : MPre κ a b) (hz : ∀ z, a.toList[a.size - 1]? = some z → ∀ q ∈ b.toList, Kle κ q z)
    (L : LiveM κ a b st n0 c.2.1 c.2.2.1 c.2.2.2.1 st') : wpS (model prog w) A E s (loBig a b c) (StepM0 κ a b st (n0 + 1)) st' := by
  have hpos : 0 < a.size + b.size := by have := L.2.1; omega
  unfold loBig
  refine wpS_bind (wpS_mono (wpS_forRange (I := fun x t st2 => t.1 = none ∧ LiveM κ a b st (n0 + x) t.2.1 t.2.2.1 t.2.2.2.1 st2)
    (Q := fun t st2 => (∃ v, t.1 = some v ∧ FinM κ a b st v st2) ∨ (t.1 = none ∧ LiveM κ a b st (n0 + 1) t.2.1 t.2.2.1 t.2.2.2.1 st2)) ?step ?fin ⟨rfl, L⟩) ?post)
  case step =>
    rintro x t st2 _ _ ⟨e0, L2⟩
    refine wpS_mono (wpS_loOne hO hk P hz L2) fun r st3 h => ?_
    cases r with
    | yield t' => exact h
    | done t' =>
      rcases h with h | ⟨h, l1, l2, l3, l4, l5⟩
      · exact .inl h
      · exact .inr ⟨h, l1, l2, l3, by omega, l5⟩
  case fin =>
    rintro t st2 ⟨e0, l1, l2, l3, l4, l5⟩
    exact .inr ⟨e0, l1, l2, l3, by omega, l5⟩
  case post =>
    rintro t st2 (⟨v, e, F⟩ | ⟨e, L2⟩)
    · rw [e]
      exact wpS_pure ⟨v, rfl, F⟩
    · rw [e]
      dsimp only
      refine wpS_bind (wpS_lift (wpAny_rule ⟨rfl, ?_⟩))
      refine wpS_bind (wpS_mono (wpS_forRange (I := fun x t st2 => t.1 = none ∧ LiveM κ a b st (n0 + 1) t.2.1 t.2.2.1 t.2.2.2.1 st2)
        (Q := fun t st2 => (∃ v, t.1 = some v ∧ FinM κ a b st v st2) ∨ (t.1 = none ∧ LiveM κ a b st (n0 + 1) t.2.1 t.2.2.1 t.2.2.2.1 st2)) ?step2 ?fin2 ⟨rfl, L2⟩) ?post2)
      case step2 =>
        rintro x t st2 _ _ ⟨e0, L2⟩
        unfold loGal
        split
        all_goals
          refine wpS_mono (wpS_lo1 hO hk P hz L2) fun r st3 h => ?_
          cases r with
          | yield t' =>
            obtain ⟨h, l1, l2, l3, l4, l5⟩ := h
            exact ⟨h, l1, l2, l3, by omega, l5⟩
          | done t' =>
            rcases h with h | ⟨h, l1, l2, l3, l4, l5⟩
            · exact .inl h
            · exact .inr ⟨h, l1, l2, l3, by omega, l5⟩
      case fin2 =>
        rintro t st2 ⟨e0, L2⟩
        exact .inr ⟨e0, L2⟩
      case post2 =>
        rintro t st2 (⟨v, e, F⟩ | ⟨e, l1, l2, l3, l4, l5⟩)
        · rw [e]
          exact wpS_pure ⟨v, rfl, F⟩
        · rw [e]
          dsimp only
          rw [setMinGallop'_eq]
          exact wpS_bind (wpS_modify (wpS_pure ⟨rfl, l1, l2, l3, l4, l5.set _⟩))
theorem wpS_mergeLo (hO : κ.OneLt) (hk : kindOf st = oneType') (P : MPre κ a b) (ha : 0 < a.size) (hb : 0 < b.size) (hz : ∀ z, a.toList[a.size - 1]? = some z → ∀ q ∈ b.toList, Kle κ q z)
    (h0 : ∀ x, b.toList[0]? = some x → ∀ q ∈ a.toList, Kle κ x q) : wpS (model prog w) A E s (mergeLo' a b) (FinM κ a b st) st := by
  rw [mergeLo'_eq]
  refine wpS_bind (wpS_lift (wpAny_rule ⟨rfl, ?_⟩))
  obtain ⟨x, ex', ex⟩ := ix_of (a := b) (i := 0) hb
  refine wpS_bind (wpS_elem ex' ?_)
  have m0 : MI (Kle κ) a.toList b.toList [] 0 0 := ⟨by simp, List.Pairwise.nil, fun p hp => absurd hp (by simp), fun p hp => absurd hp (by simp), Nat.zero_le _, Nat.zero_le _⟩
  have m1 : MI (Kle κ) a.toList b.toList (#[x] : Array Keyed).toList 0 1 := m0.oneB P.sb ex (fun q hq => h0 x ex q (by simpa using hq))
  by_cases c : 1 = b.size
  · rw [if_pos (by simpa using c)]
    have q := m1.endB P.sa (by simpa using c)
    exact wpS_pure ⟨by rw [dnL_list]; exact q.1, by rw [dnL_list]; exact q.2, SameSt.refl _⟩
  · rw [if_neg (by simpa using c)]
    by_cases c2 : 0 + 1 = a.size
    · rw [if_pos (by simpa using c2)]
      obtain ⟨z, _, ez⟩ := ix_of (a := a) (i := 0) ha
      have q := m1.endL P.sb (by simpa using c2) ez (hz z (by rw [show a.size - 1 = 0 by omega]; exact ez))
      exact wpS_pure ⟨by rw [lsL_list]; exact q.1, by rw [lsL_list]; exact q.2, SameSt.refl _⟩
    · rw [if_neg (by simpa using c2)]
      refine wpS_bind (wpS_get ?_)
      refine wpS_bind (wpS_mono (wpS_forRange (I := fun n t st2 => t.1 = none ∧ LiveM κ a b st n t.2.1 t.2.2.1 t.2.2.2.1 st2) (Q := fun t st2 => ∃ v, t.1 = some v ∧ FinM κ a b st v st2) ?step ?fin ⟨rfl, m1, (show 0 + 1 < a.size by omega), (show 1 < b.size by omega), Nat.zero_le _, SameSt.refl _⟩) ?post)
      case step =>
        rintro n t st2 _ _ ⟨e0, L2⟩
        refine wpS_mono (wpS_loBig hO hk P hz L2) fun r st3 h => ?_
        cases r with
        | yield t' => exact h
        | done t' => exact h
      case fin =>
        rintro t st2 ⟨e0, l1, l2, l3, l4, l5⟩
        exfalso
        omega
      case post =>
        rintro t st2 ⟨v, e, F⟩
        rw [e]
        exact wpS_pure F
end
end Eb

set_option autoImplicit false
namespace Eb
open PySem PyProof.Rows
/-! the merge from the end: the same over the lists read backwards -/
abbrev Hac1 := Option (Array Keyed) × Nat × Nat × Array Keyed × Nat × Nat
abbrev Hac2 := Option (Array Keyed) × Nat × Nat × Array Keyed × Nat × Nat × Nat
abbrev Hac0 := Option (Array Keyed) × Nat × Nat × Array Keyed × Nat
def dnH (a b out : Array Keyed) (na nb : Nat) : Array Keyed := a.extract 0 na ++ b.extract 0 nb ++ out.reverse
def fsH (a b out : Array Keyed) (na nb : Nat) : Array Keyed := b.extract 0 nb ++ a.extract 0 na ++ out.reverse
def hi3 (a b out : Array Keyed) (na nb mg ac bc : Nat) : StateT SortSt Sem (ForInStep Hac2) := do
  let y ← elem' a (na - 1)
  if na - 1 == 0 then pure (.done (some (dnH a b (out.push y) (na - 1) nb), na - 1, nb, out.push y, mg, ac, bc))
  else if ac < 7 && bc < 7 then pure (.done (none, na - 1, nb, out.push y, mg, ac, bc)) else pure (.yield (none, na - 1, nb, out.push y, mg, ac, bc))
def hi2 (a b out : Array Keyed) (na nb mg ac bc : Nat) : StateT SortSt Sem (ForInStep Hac2) := do
  let x ← elem' b (nb - 1)
  if nb - 1 == 1 then pure (.done (some (fsH a b (out.push x) na (nb - 1)), na, nb - 1, out.push x, mg, ac, bc))
  else do
    let y ← elem' a (na - 1)
    let k? ← gallop' true y b 0 (nb - 1) (nb - 1 - 1)
    match k? with
    | some k =>
      if nb - 1 - k > 0 then
        if k == 1 then pure (.done (some (fsH a b (out.push x ++ (b.extract k (nb - 1)).reverse) na k), na, k, out.push x ++ (b.extract k (nb - 1)).reverse, mg, ac, nb - 1 - k))
        else if k == 0 then pure (.done (some (dnH a b (out.push x ++ (b.extract k (nb - 1)).reverse) na k), na, k, out.push x ++ (b.extract k (nb - 1)).reverse, mg, ac, nb - 1 - k))
        else hi3 a b (out.push x ++ (b.extract k (nb - 1)).reverse) na k mg ac (nb - 1 - k)
      else hi3 a b (out.push x) na (nb - 1) mg ac (nb - 1 - k)
    | _ => pure (.done (some (dnH a b (out.push x) na (nb - 1)), na, nb - 1, out.push x, mg, ac, bc))
def hi1 (a b out : Array Keyed) (na nb mg ac bc : Nat) : StateT SortSt Sem (ForInStep Hac2) := do
  setMinGallop' mg
  let x ← elem' b (nb - 1)
  let k? ← gallop' false x a 0 na (na - 1)
  match k? with
  | some k =>
    if na - k > 0 then
      if k == 0 then pure (.done (some (dnH a b (out ++ (a.extract k na).reverse) k nb), k, nb, out ++ (a.extract k na).reverse, mg, na - k, bc))
      else hi2 a b (out ++ (a.extract k na).reverse) k nb mg (na - k) bc
    else hi2 a b out na nb mg (na - k) bc
  | _ => pure (.done (some (dnH a b out na nb), na, nb, out, mg, ac, bc))
def hiOne (a b : Array Keyed) (mg : Nat) (c : Hac1) : StateT SortSt Sem (ForInStep Hac1) := do
  let x ← elem' b (c.2.2.1 - 1)
  let y ← elem' a (c.2.1 - 1)
  let r ← lt' x y
  match r with
  | some aWins =>
    if aWins then do
      let y ← elem' a (c.2.1 - 1)
      if c.2.1 - 1 == 0 then pure (.done (some (dnH a b (c.2.2.2.1.push y) (c.2.1 - 1) c.2.2.1), c.2.1 - 1, c.2.2.1, c.2.2.2.1.push y, c.2.2.2.2.1 + 1, 0))
      else if c.2.2.2.2.1 + 1 ≥ mg then pure (.done (none, c.2.1 - 1, c.2.2.1, c.2.2.2.1.push y, c.2.2.2.2.1 + 1, 0))
      else pure (.yield (none, c.2.1 - 1, c.2.2.1, c.2.2.2.1.push y, c.2.2.2.2.1 + 1, 0))
    else do
      let x ← elem' b (c.2.2.1 - 1)
      if c.2.2.1 - 1 == 1 then pure (.done (some (fsH a b (c.2.2.2.1.push x) c.2.1 (c.2.2.1 - 1)), c.2.1, c.2.2.1 - 1, c.2.2.2.1.push x, 0, c.2.2.2.2.2 + 1))
      else if c.2.2.2.2.2 + 1 ≥ mg then pure (.done (none, c.2.1, c.2.2.1 - 1, c.2.2.2.1.push x, 0, c.2.2.2.2.2 + 1))
      else pure (.yield (none, c.2.1, c.2.2.1 - 1, c.2.2.2.1.push x, 0, c.2.2.2.2.2 + 1))
  | _ => pure (.done (some (dnH a b c.2.2.2.1 c.2.1 c.2.2.1), c.2.1, c.2.2.1, c.2.2.2.1, c.2.2.2.2.1, c.2.2.2.2.2))
def hiGal (a b : Array Keyed) (c : Hac2) : StateT SortSt Sem (ForInStep Hac2) :=
  if c.2.2.2.2.1 > 1 then hi1 a b c.2.2.2.1 c.2.1 c.2.2.1 (c.2.2.2.2.1 - 1) c.2.2.2.2.2.1 c.2.2.2.2.2.2
  else hi1 a b c.2.2.2.1 c.2.1 c.2.2.1 c.2.2.2.2.1 c.2.2.2.2.2.1 c.2.2.2.2.2.2
def hiBig (a b : Array Keyed) (c : Hac0) : StateT SortSt Sem (ForInStep Hac0) := do
  let t ← forIn [0:a.size + b.size] ((none, c.2.1, c.2.2.1, c.2.2.2.1, 0, 0) : Hac1) fun _ t => hiOne a b c.2.2.2.2 t
  match t.1 with
  | some r => pure (.done (some r, t.2.1, t.2.2.1, t.2.2.2.1, c.2.2.2.2))
  | none => do
    liftM (rule "list.sort.gallop")
    let t ← forIn [0:a.size + b.size] ((none, t.2.1, t.2.2.1, t.2.2.2.1, c.2.2.2.2 + 1, t.2.2.2.2.1, t.2.2.2.2.2) : Hac2) fun _ t => hiGal a b t
    match t.1 with
    | some r => pure (.done (some r, t.2.1, t.2.2.1, t.2.2.2.1, t.2.2.2.2.1))
    | none => do
      setMinGallop' (t.2.2.2.2.1 + 1)
      pure (.yield (none, t.2.1, t.2.2.1, t.2.2.2.1, t.2.2.2.2.1 + 1))
theorem mergeHi'_eq (a b : Array Keyed) : mergeHi' a b = (do
  liftM (rule "list.sort.merge-hi")
  let y ← elem' a (a.size - 1)
  if a.size - 1 == 0 then pure (dnH a b #[y] (a.size - 1) b.size)
  else if b.size == 1 then pure (fsH a b #[y] (a.size - 1) b.size)
  else do
    let g ← get
    let t ← forIn [0:a.size + b.size] ((none, a.size - 1, b.size, #[y], gallopOf g) : Hac0) fun _ t => hiBig a b t
    match t.1 with
    | some r => pure r
    | none => liftM (unsupported "internal:list.sort.merge-bound" : Sem (Array Keyed))) := by
  unfold mergeHi'
  change (bind _ _ : StateT SortSt Sem (Array Keyed)) = _
  dsimp only
  congr 1
  funext u
  congr 1
  funext x
  refine ite_congr rfl (fun _ => rfl) (fun _ => ?_)
  refine ite_congr rfl (fun _ => rfl) (fun _ => ?_)
  congr 1
  funext g
  congr 1
  · congr 1
    funext _ t
    unfold hiBig
    congr 1
    · funext t
      obtain ⟨t1, t2⟩ := t
      cases t1 with
      | some r => rfl
      | none =>
        dsimp only
        congr 1
        funext u
        congr 1
        funext t
        obtain ⟨t1, t2⟩ := t
        cases t1 with
        | some r => rfl
        | none => rfl
  · funext t
    obtain ⟨t1, t2⟩ := t
    cases t1 with
    | some r => rfl
    | none => rfl
section
variable {α : Type}
theorem rv_ix {l : List α} {n : Nat} {y : α} (h0 : 0 < n) (hn : n ≤ l.length) (e : l[n - 1]? = some y) : l.reverse[l.length - n]? = some y := by
  rw [List.getElem?_reverse (by omega), show l.length - 1 - (l.length - n) = n - 1 by omega]
  exact e
theorem rv_take {l : List α} {n k : Nat} {q : α} (hn : n ≤ l.length) (h : q ∈ (l.reverse.drop (l.length - n)).take k) : ∃ j, j < n ∧ n - k ≤ j ∧ l[j]? = some q := by
  obtain ⟨j, hj, e⟩ := mem_take_ix h
  have hl := (List.getElem?_eq_some_iff.mp e).1
  rw [List.length_reverse] at hl
  rw [List.getElem?_reverse (by omega)] at e
  exact ⟨_, by omega, by omega, e⟩
theorem rv_mem {l : List α} {n : Nat} {q : α} (hn : n ≤ l.length) (h : q ∈ l.reverse.drop (l.length - n)) : ∃ j, j < n ∧ l[j]? = some q := by
  obtain ⟨j, e⟩ := mem_drop_ix h
  have hl := (List.getElem?_eq_some_iff.mp e).1
  rw [List.length_reverse] at hl
  rw [List.getElem?_reverse (by omega)] at e
  exact ⟨_, by omega, e⟩
theorem rv_drop (l : List α) (n : Nat) (hn : n ≤ l.length) : l.reverse.drop (l.length - n) = (l.take n).reverse := by
  rw [List.reverse_take]
theorem rv_ext {a : Array α} {k n : Nat} (h : k ≤ n) (hn : n ≤ a.size) : ((a.extract k n).reverse).toList = (a.toList.reverse.drop (a.size - n)).take (n - k) := by
  have e := rv_drop a.toList n (by simpa using hn)
  rw [Array.length_toList] at e
  rw [e, Array.toList_reverse, ext_list]
  have e2 : a.toList.take n = a.toList.take k ++ (a.toList.drop k).take (n - k) := by
    rw [← List.take_add, show k + (n - k) = n by omega]
  have hX : ((a.toList.drop k).take (n - k)).length = n - k := by
    rw [List.length_take, List.length_drop, Array.length_toList]; omega
  rw [e2, List.reverse_append, List.take_append_of_le_length (by rw [List.length_reverse]; omega)]
  exact (List.take_of_length_le (by rw [List.length_reverse]; omega)).symm
end
theorem dnH_list (a b out : Array Keyed) {na nb : Nat} (ha : na ≤ a.size) (hb : nb ≤ b.size) : (dnH a b out na nb).toList = (out.toList ++ b.toList.reverse.drop (b.size - nb) ++ a.toList.reverse.drop (a.size - na)).reverse := by
  unfold dnH
  have e1 := rv_drop a.toList na (by simpa using ha)
  have e2 := rv_drop b.toList nb (by simpa using hb)
  rw [Array.length_toList] at e1 e2
  rw [e1, e2, List.reverse_append, List.reverse_append, List.reverse_reverse, List.reverse_reverse, Array.toList_append, Array.toList_append, Array.toList_reverse, ext_list, ext_list]
  simp
theorem fsH_list (a b out : Array Keyed) {na nb : Nat} (ha : na ≤ a.size) (hb : nb ≤ b.size) : (fsH a b out na nb).toList = (out.toList ++ a.toList.reverse.drop (a.size - na) ++ b.toList.reverse.drop (b.size - nb)).reverse := by
  unfold fsH
  have e1 := rv_drop a.toList na (by simpa using ha)
  have e2 := rv_drop b.toList nb (by simpa using hb)
  rw [Array.length_toList] at e1 e2
  rw [e1, e2, List.reverse_append, List.reverse_append, List.reverse_reverse, List.reverse_reverse, Array.toList_append, Array.toList_append, Array.toList_reverse, ext_list, ext_list]
  simp
section
variable {prog : Program} {w : World} {A : Around} {E : Value → Shared → Prop} {s : Shared} {κ : KeyKind} {st st' : SortSt} {a b : Array Keyed}
def Kge (κ : KeyKind) (p q : Keyed) : Prop := Kle κ q p
/-- the two lists backwards are falling -/
theorem MPre.ra (P : MPre κ a b) : a.toList.reverse.Pairwise (Kge κ) := List.pairwise_reverse.mpr P.sa
theorem MPre.rb (P : MPre κ a b) : b.toList.reverse.Pairwise (Kge κ) := List.pairwise_reverse.mpr P.sb
theorem fin_rev {l : List Keyed} (h : l.Perm (b.toList.reverse ++ a.toList.reverse) ∧ l.Pairwise (Kge κ)) : l.reverse.Perm (a.toList ++ b.toList) ∧ l.reverse.Pairwise (Kle κ) := by
  refine ⟨(List.reverse_perm l).trans (h.1.trans ?_), List.pairwise_reverse.mpr h.2⟩
  rw [← List.reverse_append]
  exact List.reverse_perm _
def LiveH (κ : KeyKind) (a b : Array Keyed) (st : SortSt) (n0 : Nat) (out : Array Keyed) (na nb : Nat) (st' : SortSt) : Prop :=
  MI (Kge κ) b.toList.reverse a.toList.reverse out.toList (b.size - nb) (a.size - na) ∧ (0 < na ∧ na ≤ a.size) ∧ (1 < nb ∧ nb ≤ b.size) ∧ n0 ≤ (b.size - nb) + (a.size - na) ∧ SameSt st st'
def StepH (κ : KeyKind) (a b : Array Keyed) (st : SortSt) (n0 : Nat) (r : ForInStep Hac2) (st' : SortSt) : Prop := match r with
  | .done c => (∃ v, c.1 = some v ∧ FinM κ a b st v st') ∨ (c.1 = none ∧ LiveH κ a b st n0 c.2.2.2.1 c.2.1 c.2.2.1 st')
  | .yield c => c.1 = none ∧ LiveH κ a b st n0 c.2.2.2.1 c.2.1 c.2.2.1 st'
/-- the ends -/
theorem endH0 {out : Array Keyed} {na nb : Nat} (P : MPre κ a b) (m : MI (Kge κ) b.toList.reverse a.toList.reverse out.toList (b.size - nb) (a.size - na)) (h : na = 0) (hb : nb ≤ b.size) (S : SameSt st st') : FinM κ a b st (dnH a b out na nb) st' := by
  subst h
  have q := fin_rev (m.endB P.rb (by simp))
  exact ⟨by rw [dnH_list a b out (Nat.zero_le _) hb]; exact q.1, by rw [dnH_list a b out (Nat.zero_le _) hb]; exact q.2, S⟩
theorem endHb {out : Array Keyed} {na nb : Nat} (P : MPre κ a b) (m : MI (Kge κ) b.toList.reverse a.toList.reverse out.toList (b.size - nb) (a.size - na)) (h : nb = 0) (ha : na ≤ a.size) (S : SameSt st st') : FinM κ a b st (dnH a b out na nb) st' := by
  subst h
  have q := fin_rev (m.endA P.ra (by simp))
  exact ⟨by rw [dnH_list a b out ha (Nat.zero_le _)]; exact q.1, by rw [dnH_list a b out ha (Nat.zero_le _)]; exact q.2, S⟩
theorem endH1 {out : Array Keyed} {na nb : Nat} (P : MPre κ a b) (h0 : ∀ x, b.toList[0]? = some x → ∀ q ∈ a.toList, Kle κ x q) (m : MI (Kge κ) b.toList.reverse a.toList.reverse out.toList (b.size - nb) (a.size - na)) (h : nb = 1) (ha : na ≤ a.size) (hb : nb ≤ b.size) (S : SameSt st st') :
    FinM κ a b st (fsH a b out na nb) st' := by
  subst h
  obtain ⟨x, _, ex⟩ := ix_of (a := b) (i := 0) (by omega)
  have ez := rv_ix (l := b.toList) (n := 1) (by omega) (by simpa using hb) ex
  rw [Array.length_toList] at ez
  have q := fin_rev (m.endL P.ra (by simp; omega) ez fun q hq => h0 x ex q (List.mem_reverse.mp hq))
  exact ⟨by rw [fsH_list a b out ha hb]; exact q.1, by rw [fsH_list a b out ha hb]; exact q.2, S⟩
theorem wpS_hi3 {out : Array Keyed} {na nb mg ac bc n0 : Nat} {y : Keyed} (P : MPre κ a b)
    (L : LiveH κ a b st n0 out na nb st') (ey : a.toList[na - 1]? = some y) (hy : ∀ j, j < nb → ∀ q, b.toList[j]? = some q → Kle κ q y) : wpS (model prog w) A E s (hi3 a b out na nb mg ac bc) (StepH κ a b st (n0 + 1)) st' := by
  obtain ⟨m, ⟨h1, h1'⟩, ⟨h2, h2'⟩, h3, h4⟩ := L
  unfold hi3
  refine wpS_bind (wpS_elem (by rw [← Array.getElem?_toList]; exact ey) ?_)
  have ey' := rv_ix (l := a.toList) h1 (by simpa using h1') ey
  rw [Array.length_toList] at ey'
  have m' := m.oneB P.ra ey' (fun q hq => by
    obtain ⟨j, hj, e⟩ := rv_mem (l := b.toList) (n := nb) (by simpa using h2') (by rw [Array.length_toList]; exact hq)
    exact hy j hj q e)
  rw [← Array.toList_push, show a.size - na + 1 = a.size - (na - 1) by omega] at m'
  by_cases c : na - 1 = 0
  · rw [if_pos (by simpa using c)]
    exact wpS_pure (.inl ⟨_, rfl, endH0 P m' c h2' h4⟩)
  · rw [if_neg (by simpa using c)]
    have L' : LiveH κ a b st (n0 + 1) (out.push y) (na - 1) nb st' := ⟨m', ⟨by omega, by omega⟩, ⟨h2, h2'⟩, by omega, h4⟩
    split
    · exact wpS_pure (.inr ⟨rfl, L'⟩)
    · exact wpS_pure ⟨rfl, L'⟩
theorem wpS_hi2 {out : Array Keyed} {na nb mg ac bc n0 : Nat} {x : Keyed} (hO : κ.OneLt) (hk : kindOf st = oneType') (P : MPre κ a b) (h0 : ∀ x, b.toList[0]? = some x → ∀ q ∈ a.toList, Kle κ x q)
    (L : LiveH κ a b st n0 out na nb st') (ex : b.toList[nb - 1]? = some x) (hx : ∀ j, j < na → ∀ q, a.toList[j]? = some q → Kle κ q x) : wpS (model prog w) A E s (hi2 a b out na nb mg ac bc) (StepH κ a b st (n0 + 1)) st' := by
  obtain ⟨m, ⟨h1, h1'⟩, ⟨h2, h2'⟩, h3, h4⟩ := L
  have hk' : kindOf st' = oneType' := h4.kind.trans hk
  unfold hi2
  refine wpS_bind (wpS_elem (by rw [← Array.getElem?_toList]; exact ex) ?_)
  have ex' := rv_ix (l := b.toList) (n := nb) (by omega) (by simpa using h2') ex
  rw [Array.length_toList] at ex'
  have m1 := m.oneA P.rb ex' (fun q hq => by
    obtain ⟨j, hj, e⟩ := rv_mem (l := a.toList) (n := na) (by simpa using h1') (by rw [Array.length_toList]; exact hq)
    exact hx j hj q e)
  rw [← Array.toList_push, show b.size - nb + 1 = b.size - (nb - 1) by omega] at m1
  by_cases c : nb - 1 = 1
  · rw [if_pos (by simpa using c)]
    exact wpS_pure (.inl ⟨_, rfl, endH1 P h0 m1 c h1' (by omega) h4⟩)
  · rw [if_neg (by simpa using c)]
    obtain ⟨y, ey', ey⟩ := ix_of (a := a) (i := na - 1) (by omega)
    refine wpS_bind (wpS_elem ey' ?_)
    refine wpS_bind (wpS_gallop (beyL hO hk' P.kb (P.okA ey) (by omega)) (fun i j hij hj e => ?_) (by omega) fun k hkn hlt hge => ?_)
    · obtain ⟨p, _, ep⟩ := ix_of (a := b) (i := 0 + i) (by omega)
      obtain ⟨q, _, eq⟩ := ix_of (a := b) (i := 0 + j) (by omega)
      rw [KK_at eq] at e
      rw [KK_at ep]
      exact KeyOrd.klt_of_kle_of_klt (pair_ix P.sb kle_refl' ep eq (by omega)) e
    dsimp only at hlt hge ⊢
    have low : ∀ j, j < k → ∀ q, b.toList[j]? = some q → Kle κ q y := fun j hj q e => by
      have z := hlt j hj
      rw [Nat.zero_add, KK_at e] at z
      exact KeyOrd.kle_of_klt z
    have high : ∀ p ∈ (b.toList.reverse.drop (b.size - (nb - 1))).take (nb - 1 - k), ∀ q ∈ a.toList.reverse.drop (a.size - na), Kge κ p q := fun p hp q hq => by
      obtain ⟨j, hj, hj2, ep⟩ := rv_take (l := b.toList) (n := nb - 1) (by simp; omega) (by rw [Array.length_toList]; exact hp)
      obtain ⟨i, hi, eq⟩ := rv_mem (l := a.toList) (n := na) (by simpa using h1') (by rw [Array.length_toList]; exact hq)
      have z := hge j (by omega) (by omega)
      rw [Nat.zero_add, KK_at ep] at z
      exact KeyOrd.kle_trans (pair_ix P.sa kle_refl' eq ey (by omega)) (show κ.kle (kf κ y) (kf κ p) from z)
    have m2 := m1.pushA (k := nb - 1 - k) P.rb (by simp; omega) high
    have e2 : (out.push x ++ (b.extract k (nb - 1)).reverse).toList = (out.push x).toList ++ (b.toList.reverse.drop (b.size - (nb - 1))).take (nb - 1 - k) := by
      rw [Array.toList_append, rv_ext hkn (by omega)]
    rw [← e2, show b.size - (nb - 1) + (nb - 1 - k) = b.size - k by omega] at m2
    by_cases c2 : nb - 1 - k > 0
    · rw [if_pos c2]
      by_cases c3 : k = 1
      · rw [if_pos (by simpa using c3)]
        exact wpS_pure (.inl ⟨_, rfl, endH1 P h0 m2 c3 h1' (by omega) h4⟩)
      · rw [if_neg (by simpa using c3)]
        by_cases c4 : k = 0
        · rw [if_pos (by simpa using c4)]
          exact wpS_pure (.inl ⟨_, rfl, endHb P m2 c4 h1' h4⟩)
        · rw [if_neg (by simpa using c4)]
          exact wpS_hi3 P ⟨m2, ⟨h1, h1'⟩, ⟨by omega, by omega⟩, by omega, h4⟩ ey low
    · rw [if_neg c2]
      have k0 : k = nb - 1 := by omega
      subst k0
      exact wpS_hi3 P ⟨m1, ⟨h1, h1'⟩, ⟨by omega, by omega⟩, by omega, h4⟩ ey low
theorem wpS_hi1 {out : Array Keyed} {na nb mg ac bc n0 : Nat} (hO : κ.OneLt) (hk : kindOf st = oneType') (P : MPre κ a b) (h0 : ∀ x, b.toList[0]? = some x → ∀ q ∈ a.toList, Kle κ x q)
    (L : LiveH κ a b st n0 out na nb st') : wpS (model prog w) A E s (hi1 a b out na nb mg ac bc) (StepH κ a b st (n0 + 1)) st' := by
  obtain ⟨m, ⟨h1, h1'⟩, ⟨h2, h2'⟩, h3, h4'⟩ := L
  unfold hi1
  rw [setMinGallop'_eq]
  refine wpS_bind (wpS_modify ?_)
  have h4 := h4'.set mg
  have hk' : kindOf (setGal st' mg) = oneType' := h4.kind.trans hk
  obtain ⟨x, ex', ex⟩ := ix_of (a := b) (i := nb - 1) (by omega)
  refine wpS_bind (wpS_elem ex' ?_)
  refine wpS_bind (wpS_gallop (beyR hO hk' P.ka (P.okB ex) (by omega)) (fun i j hij hj e => ?_) (by omega) fun k hkn hlt hge => ?_)
  · obtain ⟨p, _, ep⟩ := ix_of (a := a) (i := 0 + i) (by omega)
    obtain ⟨q, _, eq⟩ := ix_of (a := a) (i := 0 + j) (by omega)
    rw [KK_at eq] at e
    rw [KK_at ep]
    have e' : κ.kle (kf κ q) (kf κ x) := by unfold KeyOrd.kle; simpa using e
    have z : κ.kle (kf κ p) (kf κ x) := KeyOrd.kle_trans (pair_ix P.sa kle_refl' ep eq (by omega)) e'
    unfold KeyOrd.kle at z
    simp [z]
  dsimp only at hlt hge ⊢
  have low : ∀ j, j < k → ∀ q, a.toList[j]? = some q → Kle κ q x := fun j hj q e => by
    have z := hlt j hj
    rw [Nat.zero_add, KK_at e] at z
    show κ.kle (kf κ q) (kf κ x)
    unfold KeyOrd.kle; simpa using z
  have high : ∀ p ∈ (a.toList.reverse.drop (a.size - na)).take (na - k), ∀ q ∈ b.toList.reverse.drop (b.size - nb), Kge κ p q := fun p hp q hq => by
    obtain ⟨j, hj, hj2, ep⟩ := rv_take (l := a.toList) (n := na) (by simpa using h1') (by rw [Array.length_toList]; exact hp)
    obtain ⟨i, hi, eq⟩ := rv_mem (l := b.toList) (n := nb) (by simpa using h2') (by rw [Array.length_toList]; exact hq)
    have z := hge j (by omega) (by omega)
    rw [Nat.zero_add, KK_at ep] at z
    have z' : κ.klt (kf κ x) (kf κ p) := by unfold KeyOrd.klt; simpa using z
    exact KeyOrd.kle_trans (pair_ix P.sb kle_refl' eq ex (by omega)) (KeyOrd.kle_of_klt z')
  have m2 := m.pushB (k := na - k) P.ra (by simp; omega) high
  have e2 : (out ++ (a.extract k na).reverse).toList = out.toList ++ (a.toList.reverse.drop (a.size - na)).take (na - k) := by
    rw [Array.toList_append, rv_ext hkn h1']
  rw [← e2, show a.size - na + (na - k) = a.size - k by omega] at m2
  by_cases c2 : na - k > 0
  · rw [if_pos c2]
    by_cases c3 : k = 0
    · rw [if_pos (by simpa using c3)]
      exact wpS_pure (.inl ⟨_, rfl, endH0 P m2 c3 h2' h4⟩)
    · rw [if_neg (by simpa using c3)]
      exact wpS_hi2 hO hk P h0 ⟨m2, ⟨by omega, by omega⟩, ⟨h2, h2'⟩, by omega, h4⟩ ex low
  · rw [if_neg c2]
    have k0 : k = na := by omega
    subst k0
    exact wpS_hi2 hO hk P h0 ⟨m, ⟨h1, h1'⟩, ⟨h2, h2'⟩, h3, h4⟩ ex low
def StepH1 (κ : KeyKind) (a b : Array Keyed) (st : SortSt) (n0 : Nat) (r : ForInStep Hac1) (st' : SortSt) : Prop := match r with
  | .done c => (∃ v, c.1 = some v ∧ FinM κ a b st v st') ∨ (c.1 = none ∧ LiveH κ a b st n0 c.2.2.2.1 c.2.1 c.2.2.1 st')
  | .yield c => c.1 = none ∧ LiveH κ a b st n0 c.2.2.2.1 c.2.1 c.2.2.1 st'
theorem wpS_hiOne {c : Hac1} {mg n0 : Nat} (hO : κ.OneLt) (hk : kindOf st = oneType') (P : MPre κ a b) (h0 : ∀ x, b.toList[0]? = some x → ∀ q ∈ a.toList, Kle κ x q)
    (L : LiveH κ a b st n0 c.2.2.2.1 c.2.1 c.2.2.1 st') : wpS (model prog w) A E s (hiOne a b mg c) (StepH1 κ a b st (n0 + 1)) st' := by
  obtain ⟨r0, na, nb, out, ac, bc⟩ := c
  obtain ⟨m, ⟨h1, h1'⟩, ⟨h2, h2'⟩, h3, h4⟩ := L
  dsimp only at m h1 h1' h2 h2' h3
  have hk' : kindOf st' = oneType' := h4.kind.trans hk
  unfold hiOne
  dsimp only
  obtain ⟨x, ex', ex⟩ := ix_of (a := b) (i := nb - 1) (by omega)
  obtain ⟨y, ey', ey⟩ := ix_of (a := a) (i := na - 1) (by omega)
  refine wpS_bind (wpS_elem ex' (wpS_bind (wpS_elem ey' (wpS_bind (wpS_lt2 hO hk' (P.okB ex) (P.okA ey) ?_)))))
  cases e : κ.blt (kf κ x) (kf κ y) with
  | true =>
    simp only [if_true]
    refine wpS_bind (wpS_elem ey' ?_)
    have ey2 := rv_ix (l := a.toList) h1 (by simpa using h1') ey
    rw [Array.length_toList] at ey2
    have m1 := m.oneB P.ra ey2 (fun q hq => by
      obtain ⟨j, hj, eq⟩ := rv_mem (l := b.toList) (n := nb) (by simpa using h2') (by rw [Array.length_toList]; exact hq)
      exact KeyOrd.kle_trans (pair_ix P.sb kle_refl' eq ex (by omega)) (KeyOrd.kle_of_klt e))
    rw [← Array.toList_push, show a.size - na + 1 = a.size - (na - 1) by omega] at m1
    by_cases c : na - 1 = 0
    · rw [if_pos (by simpa using c)]
      exact wpS_pure (.inl ⟨_, rfl, endH0 P m1 c h2' h4⟩)
    · rw [if_neg (by simpa using c)]
      have L' : LiveH κ a b st (n0 + 1) (out.push y) (na - 1) nb st' := ⟨m1, ⟨by omega, by omega⟩, ⟨h2, h2'⟩, by omega, h4⟩
      split
      · exact wpS_pure (.inr ⟨rfl, L'⟩)
      · exact wpS_pure ⟨rfl, L'⟩
  | false =>
    simp only [Bool.false_eq_true, if_false]
    refine wpS_bind (wpS_elem ex' ?_)
    have ex2 := rv_ix (l := b.toList) (n := nb) (by omega) (by simpa using h2') ex
    rw [Array.length_toList] at ex2
    have m1 := m.oneA P.rb ex2 (fun q hq => by
      obtain ⟨j, hj, eq⟩ := rv_mem (l := a.toList) (n := na) (by simpa using h1') (by rw [Array.length_toList]; exact hq)
      exact KeyOrd.kle_trans (pair_ix P.sa kle_refl' eq ey (by omega)) (show κ.kle (kf κ y) (kf κ x) from e))
    rw [← Array.toList_push, show b.size - nb + 1 = b.size - (nb - 1) by omega] at m1
    by_cases c : nb - 1 = 1
    · rw [if_pos (by simpa using c)]
      exact wpS_pure (.inl ⟨_, rfl, endH1 P h0 m1 c h1' (by omega) h4⟩)
    · rw [if_neg (by simpa using c)]
      have L' : LiveH κ a b st (n0 + 1) (out.push x) na (nb - 1) st' := ⟨m1, ⟨h1, h1'⟩, ⟨by omega, by omega⟩, by omega, h4⟩
      split
      · exact wpS_pure (.inr ⟨rfl, L'⟩)
      · exact wpS_pure ⟨rfl, L'⟩
def StepH0 (κ : KeyKind) (a b : Array Keyed) (st : SortSt) (n0 : Nat) (r : ForInStep Hac0) (st' : SortSt) : Prop := match r with
  | .done c => ∃ v, c.1 = some v ∧ FinM κ a b st v st'
  | .yield c => c.1 = none ∧ LiveH κ a b st n0 c.2.2.2.1 c.2.1 c.2.2.1 st'
theorem wpS_hiBig {c : Hac0} {n0 : Nat} (hO : κ.OneLt) (hk : kindOf st = oneType') (P : MPre κ a b) (h0 : ∀ x, b.toList[0]? = some x → ∀ q ∈ a.toList, Kle κ x q)
    (L : LiveH κ a b st n0 c.2.2.2.1 c.2.1 c.2.2.1 st') : wpS (model prog w) A E s (hiBig a b c) (StepH0 κ a b st (n0 + 1)) st' := by
  have hpos : 0 < a.size + b.size := by have := L.2.1; omega
  unfold hiBig
  refine wpS_bind (wpS_mono (wpS_forRange (I := fun x t st2 => t.1 = none ∧ LiveH κ a b st (n0 + x) t.2.2.2.1 t.2.1 t.2.2.1 st2)
    (Q := fun t st2 => (∃ v, t.1 = some v ∧ FinM κ a b st v st2) ∨ (t.1 = none ∧ LiveH κ a b st (n0 + 1) t.2.2.2.1 t.2.1 t.2.2.1 st2)) ?step ?fin ⟨rfl, L⟩) ?post)
  case step =>
    rintro x t st2 _ _ ⟨e0, L2⟩
    refine wpS_mono (wpS_hiOne hO hk P h0 L2) fun r st3 h => ?_
    cases r with
    | yield t' => exact h
    | done t' =>
      rcases h with h | ⟨h, l1, l2, l3, l4, l5⟩
      · exact .inl h
      · exact .inr ⟨h, l1, l2, l3, by omega, l5⟩
  case fin =>
    rintro t st2 ⟨e0, l1, l2, l3, l4, l5⟩
    exact .inr ⟨e0, l1, l2, l3, by omega, l5⟩
  case post =>
    rintro t st2 (⟨v, e, F⟩ | ⟨e, L2⟩)
    · rw [e]
      exact wpS_pure ⟨v, rfl, F⟩
    · rw [e]
      dsimp only
      refine wpS_bind (wpS_lift (wpAny_rule ⟨rfl, ?_⟩))
      refine wpS_bind (wpS_mono (wpS_forRange (I := fun x t st2 => t.1 = none ∧ LiveH κ a b st (n0 + 1) t.2.2.2.1 t.2.1 t.2.2.1 st2)
        (Q := fun t st2 => (∃ v, t.1 = some v ∧ FinM κ a b st v st2) ∨ (t.1 = none ∧ LiveH κ a b st (n0 + 1) t.2.2.2.1 t.2.1 t.2.2.1 st2)) ?step2 ?fin2 ⟨rfl, L2⟩) ?post2)
      case step2 =>
        rintro x t st2 _ _ ⟨e0, L2⟩
        unfold hiGal
        split
        all_goals
          refine wpS_mono (wpS_hi1 hO hk P h0 L2) fun r st3 h => ?_
          cases r with
          | yield t' =>
            obtain ⟨h, l1, l2, l3, l4, l5⟩ := h
            exact ⟨h, l1, l2, l3, by omega, l5⟩
          | done t' =>
            rcases h with h | ⟨h, l1, l2, l3, l4, l5⟩
            · exact .inl h
            · exact .inr ⟨h, l1, l2, l3, by omega, l5⟩
      case fin2 =>
        rintro t st2 ⟨e0, L2⟩
        exact .inr ⟨e0, L2⟩
      case post2 =>
        rintro t st2 (⟨v, e, F⟩ | ⟨e, l1, l2, l3, l4, l5⟩)
        · rw [e]
          exact wpS_pure ⟨v, rfl, F⟩
        · rw [e]
          dsimp only
          rw [setMinGallop'_eq]
          exact wpS_bind (wpS_modify (wpS_pure ⟨rfl, l1, l2, l3, l4, l5.set _⟩))
theorem wpS_mergeHi (hO : κ.OneLt) (hk : kindOf st = oneType') (P : MPre κ a b) (ha : 0 < a.size) (hb : 0 < b.size) (hz : ∀ z, a.toList[a.size - 1]? = some z → ∀ q ∈ b.toList, Kle κ q z)
    (h0 : ∀ x, b.toList[0]? = some x → ∀ q ∈ a.toList, Kle κ x q) : wpS (model prog w) A E s (mergeHi' a b) (FinM κ a b st) st := by
  rw [mergeHi'_eq]
  refine wpS_bind (wpS_lift (wpAny_rule ⟨rfl, ?_⟩))
  obtain ⟨y, ey', ey⟩ := ix_of (a := a) (i := a.size - 1) (by omega)
  refine wpS_bind (wpS_elem ey' ?_)
  have m0 : MI (Kge κ) b.toList.reverse a.toList.reverse [] 0 0 := ⟨by simp, List.Pairwise.nil, fun p hp => absurd hp (by simp), fun p hp => absurd hp (by simp), Nat.zero_le _, Nat.zero_le _⟩
  have ey2 := rv_ix (l := a.toList) (n := a.size) ha (by simp) ey
  rw [Array.length_toList, Nat.sub_self] at ey2
  have m1 : MI (Kge κ) b.toList.reverse a.toList.reverse (#[y] : Array Keyed).toList (b.size - b.size) (a.size - (a.size - 1)) := by
    have q := m0.oneB P.ra ey2 (fun q hq => hz y ey q (by simpa using hq))
    rw [show b.size - b.size = 0 by omega, show a.size - (a.size - 1) = 0 + 1 by omega]
    exact q
  by_cases c : a.size - 1 = 0
  · rw [if_pos (by simpa using c)]
    exact wpS_pure (endH0 P m1 c (Nat.le_refl _) (SameSt.refl _))
  · rw [if_neg (by simpa using c)]
    by_cases c2 : b.size = 1
    · rw [if_pos (by simpa using c2)]
      exact wpS_pure (endH1 P h0 m1 c2 (by omega) (Nat.le_refl _) (SameSt.refl _))
    · rw [if_neg (by simpa using c2)]
      refine wpS_bind (wpS_get ?_)
      refine wpS_bind (wpS_mono (wpS_forRange (I := fun n t st2 => t.1 = none ∧ LiveH κ a b st n t.2.2.2.1 t.2.1 t.2.2.1 st2) (Q := fun t st2 => ∃ v, t.1 = some v ∧ FinM κ a b st v st2) ?step ?fin
        ⟨rfl, m1, (show 0 < a.size - 1 ∧ a.size - 1 ≤ a.size by omega), (show 1 < b.size ∧ b.size ≤ b.size by omega), Nat.zero_le _, SameSt.refl _⟩) ?post)
      case step =>
        rintro n t st2 _ _ ⟨e0, L2⟩
        refine wpS_mono (wpS_hiBig hO hk P h0 L2) fun r st3 h => ?_
        cases r with
        | yield t' => exact h
        | done t' => exact h
      case fin =>
        rintro t st2 ⟨e0, l1, l2, l3, l4, l5⟩
        exfalso
        omega
      case post =>
        rintro t st2 ⟨v, e, F⟩
        rw [e]
        exact wpS_pure F
end
end Eb

set_option autoImplicit false
namespace Eb
open PySem PyProof.Rows
/-! a run from any place on -/
def ascL (lo a nrem : Nat) : StateT SortSt Sem AscSt :=
  forIn [a:nrem] ((none, a) : AscSt) fun _ c => do
    let x ← ltAt' (lo + c.2) (lo + c.2 - 1)
    match x with
    | some smaller => if smaller = true then pure (.done (none, c.2)) else pure (.yield (none, c.2 + 1))
    | _ => pure (.done (some none, c.2))
def tailL (lo n nrem : Nat) : StateT SortSt Sem (Option Nat) := do
  reverseSlice' lo (lo + n)
  let c ← ascL lo n nrem
  match c.1 with
  | some r => pure r
  | none => pure (some c.2)
def descL (lo n nrem : Nat) : StateT SortSt Sem DescSt :=
  forIn [n:nrem] ((none, n, 0) : DescSt) fun _ c => do
    let x ← ltAt' (lo + c.2.1) (lo + c.2.1 - 1)
    match x with
    | some smaller =>
      if smaller = true then
        if c.2.2 > 0 then do
          reverseSlice' (lo + c.2.1 - (c.2.2 + 1)) (lo + c.2.1)
          pure (.yield (none, c.2.1 + 1, 0))
        else pure (.yield (none, c.2.1 + 1, 0))
      else do
        let x ← ltAt' (lo + c.2.1 - 1) (lo + c.2.1)
        match x with
        | some larger => if larger = true then pure (.done (none, c.2.1, c.2.2)) else pure (.yield (none, c.2.1 + 1, c.2.2 + 1))
        | _ => pure (.done (some none, c.2.1, c.2.2))
    | _ => pure (.done (some none, c.2.1, c.2.2))
def descR (lo n nrem : Nat) : StateT SortSt Sem (Option Nat) := do
  liftM (rule "list.sort.descending-run")
  let c ← descL lo (n + 1) nrem
  match c.1 with
  | some r => pure r
  | none =>
    if c.2.2 > 0 then do
      reverseSlice' (lo + c.2.1 - (c.2.2 + 1)) (lo + c.2.1)
      tailL lo c.2.1 nrem
    else tailL lo c.2.1 nrem
theorem countRunL_eq (lo nrem : Nat) : countRun' lo nrem = (do
    let c ← ascL lo 1 nrem
    match c.1 with
    | some r => pure r
    | none =>
      if (c.2 == nrem) = true then pure (some c.2)
      else if c.2 > 1 then do
        let x ← ltAt' lo (lo + c.2 - 1)
        match x with
        | some rose => if rose = true then pure (some c.2) else do
            reverseSlice' lo (lo + c.2)
            descR lo c.2 nrem
        | _ => pure none
      else descR lo c.2 nrem) := by
  rw [countRun'_eq]
  unfold descR tailL descL ascL
  dsimp only
  congr 1
  funext t
  obtain ⟨r, n⟩ := t
  cases r with
  | some r => rfl
  | none =>
    dsimp only
    refine ite_congr rfl (fun _ => rfl) (fun _ => ?_)
    refine ite_congr rfl (fun _ => ?_) (fun _ => ?_)
    · congr 1
      funext x
      cases x with
      | none => rfl
      | some rose =>
        dsimp only
        refine ite_congr rfl (fun _ => rfl) (fun _ => ?_)
        congr 1
        funext u
        congr 1
        funext u
        congr 1
        funext s2
        obtain ⟨r2, n2, q2⟩ := s2
        cases r2 with
        | some r2 => rfl
        | none =>
          dsimp only
          refine ite_congr rfl (fun _ => ?_) (fun _ => ?_)
          · congr 1
            funext u
            congr 1
            funext u
            congr 1
            funext s3
            obtain ⟨r3, n3⟩ := s3
            cases r3 <;> rfl
          · congr 1
            funext u
            congr 1
            funext s3
            obtain ⟨r3, n3⟩ := s3
            cases r3 <;> rfl
    · congr 1
      funext u
      congr 1
      funext s2
      obtain ⟨r2, n2, q2⟩ := s2
      cases r2 with
      | some r2 => rfl
      | none =>
        dsimp only
        refine ite_congr rfl (fun _ => ?_) (fun _ => ?_)
        · congr 1
          funext u
          congr 1
          funext u
          congr 1
          funext s3
          obtain ⟨r3, n3⟩ := s3
          cases r3 <;> rfl
        · congr 1
          funext u
          congr 1
          funext s3
          obtain ⟨r3, n3⟩ := s3
          cases r3 <;> rfl
/-- the base: what every part of the sort keeps -/
structure SB (a₀ : Array Keyed) (p : Array (Nat × Nat × Nat)) (st : SortSt) : Prop where
  perm : (arrOf st).Perm a₀
  kind : kindOf st = oneType'
  failed : failedOf st = none
  pend : pendingOf st = p
theorem SB.size {a₀ : Array Keyed} {p : Array (Nat × Nat × Nat)} {st : SortSt} (h : SB a₀ p st) : (arrOf st).size = a₀.size := h.perm.size_eq
theorem SB.setArr {a₀ : Array Keyed} {p : Array (Nat × Nat × Nat)} {st : SortSt} (h : SB a₀ p st) {xs : Array Keyed} (hp : xs.Perm (arrOf st)) : SB a₀ p (PyProof.Rows.setArr st xs) := ⟨hp.trans h.perm, h.kind, h.failed, h.pend⟩
theorem SB.keys {κ : KeyKind} {a₀ : Array Keyed} {p : Array (Nat × Nat × Nat)} {st : SortSt} (h : SB a₀ p st) (h0 : KeysOf κ a₀) : KeysOf κ (arrOf st) := fun q hq =>
  h0 q ((Array.perm_iff_toList_perm.mp h.perm).mem_iff.mp hq)
/-- rising, falling from place i to place j -/
def SegS (κ : KeyKind) (xs : Array Keyed) (lo hi : Nat) : Prop := ∀ i j, lo ≤ i → i ≤ j → j < hi → κ.kle (KK κ xs i) (KK κ xs j)
def SegN (κ : KeyKind) (xs : Array Keyed) (lo hi : Nat) : Prop := ∀ i j, lo ≤ i → i ≤ j → j < hi → κ.kle (KK κ xs j) (KK κ xs i)
/-- nothing below lo has changed -/
def Und (xs ys : Array Keyed) (lo : Nat) : Prop := ∀ k, k < lo → ys[k]? = xs[k]?
theorem Und.refl (xs : Array Keyed) (lo : Nat) : Und xs xs lo := fun _ _ => rfl
theorem Und.trans {xs ys zs : Array Keyed} {lo : Nat} (h : Und xs ys lo) (h' : Und ys zs lo) : Und xs zs lo := fun k hk => (h' k hk).trans (h k hk)
theorem Und.mirror {xs : Array Keyed} {lo i j : Nat} (hi : lo ≤ i) (hj : j ≤ xs.size) : Und xs (mirror xs i j ((j - i) / 2)) lo := fun k hk => by
  rw [getElem?_mirror_all hj, if_neg (by omega)]
theorem Und.bubble {xs : Array Keyed} {lo src d : Nat} (hs : src < xs.size) (hd : d ≤ src) (h : lo ≤ src - d) : Und xs (bubble xs src d) lo := fun k hk => by
  rw [getElem?_bubble hs d hd k, if_neg (by omega), if_neg (by omega)]
section
variable {prog : Program} {w : World} {A : Around} {E : Value → Shared → Prop} {s : Shared} {κ : KeyKind} {st : SortSt} {a₀ : Array Keyed} {p : Array (Nat × Nat × Nat)} {lo : Nat}
theorem wpS_ltI {i j : Nat} {Q : Option Bool → SortSt → Prop} (hO : κ.OneLt) (hB : SB a₀ p st) (h0 : KeysOf κ a₀) (hi : i < a₀.size) (hj : j < a₀.size)
    (h : Q (some (κ.blt (KK κ (arrOf st) i) (KK κ (arrOf st) j))) st) : wpS (model prog w) A E s (ltAt' i j) Q st := by
  have hk := hB.keys h0
  obtain ⟨x, ex, ex'⟩ := ix_of (a := arrOf st) (i := i) (by rw [hB.size]; exact hi)
  obtain ⟨y, ey, ey'⟩ := ix_of (a := arrOf st) (i := j) (by rw [hB.size]; exact hj)
  obtain ⟨a, ha⟩ := hk x (List.mem_of_getElem? ex')
  obtain ⟨b, hb⟩ := hk y (List.mem_of_getElem? ey')
  rw [KK_kf ex, KK_kf ey] at h
  unfold kf at h
  rw [ha, hb] at h
  exact wpS_ltAtK hO hB.kind ex ey ha hb h
theorem wpS_ascL {a nrem : Nat} {Q : AscSt → SortSt → Prop} (hO : κ.OneLt) (h0 : KeysOf κ a₀) (hn : lo + nrem ≤ a₀.size) (ha : 1 ≤ a) (han : a ≤ nrem) (hB : SB a₀ p st)
    (hs : SegS κ (arrOf st) lo (lo + a))
    (h : ∀ n, a ≤ n → n ≤ nrem → SegS κ (arrOf st) lo (lo + n) → (n = nrem ∨ κ.klt (KK κ (arrOf st) (lo + n)) (KK κ (arrOf st) (lo + n - 1))) → Q (none, n) st) :
    wpS (model prog w) A E s (ascL lo a nrem) Q st := by
  unfold ascL
  refine wpS_forRange (I := fun x c st' => st' = st ∧ c = (none, x) ∧ SegS κ (arrOf st) lo (lo + x)) ?step ?fin ⟨rfl, rfl, hs⟩
  case fin =>
    rintro c st' ⟨rfl, rfl, hs'⟩
    rw [show max a nrem = nrem by omega] at hs' ⊢
    exact h nrem han (Nat.le_refl _) hs' (.inl rfl)
  case step =>
    rintro x c st' hax hxn ⟨rfl, rfl, hs'⟩
    dsimp only
    refine wpS_bind (wpS_ltI hO hB h0 (by omega) (by omega) ?_)
    cases hless : κ.blt (KK κ (arrOf st') (lo + x)) (KK κ (arrOf st') (lo + x - 1))
    case true =>
      simp only [if_true]
      exact wpS_pure (h x hax (by omega) hs' (.inr hless))
    case false =>
      simp only [Bool.false_eq_true, if_false]
      refine wpS_pure ⟨rfl, rfl, fun i j hl hij hj => ?_⟩
      by_cases hjx : j < lo + x
      · exact hs' i j hl hij hjx
      · have hj' : j = lo + x := by omega
        subst hj'
        by_cases hi' : i = lo + x
        · subst hi'; exact KeyOrd.kle_refl _
        · exact KeyOrd.kle_trans (hs' i (lo + x - 1) hl (by omega) (by omega)) hless
/-- what a run hands on -/
def RunQ (κ : KeyKind) (a₀ : Array Keyed) (p : Array (Nat × Nat × Nat)) (lo nrem : Nat) (xs : Array Keyed) (Q : Option Nat → SortSt → Prop) : Prop :=
  ∀ m st', SB a₀ p st' → 1 ≤ m → m ≤ nrem → SegS κ (arrOf st') lo (lo + m) → Und xs (arrOf st') lo → Q (some m) st'
theorem RunQ.to {nrem : Nat} {xs ys : Array Keyed} {Q : Option Nat → SortSt → Prop} (h : RunQ κ a₀ p lo nrem xs Q) (u : Und xs ys lo) : RunQ κ a₀ p lo nrem ys Q := fun m st' a b c d e => h m st' a b c d (u.trans e)
theorem wpS_tailL {n nrem : Nat} {Q : Option Nat → SortSt → Prop} (hO : κ.OneLt) (h0 : KeysOf κ a₀) (hn : lo + nrem ≤ a₀.size) (h1 : 1 ≤ n) (hnn : n ≤ nrem) (hB : SB a₀ p st)
    (hs : SegN κ (arrOf st) lo (lo + n)) (h : RunQ κ a₀ p lo nrem (arrOf st) Q) : wpS (model prog w) A E s (tailL lo n nrem) Q st := by
  unfold tailL
  have hsz : lo + n ≤ (arrOf st).size := by rw [hB.size]; omega
  refine wpS_bind (wpS_reverse ?_)
  have hB' : SB a₀ p (setArr st (mirror (arrOf st) lo (lo + n) ((lo + n - lo) / 2))) := hB.setArr (mirror_perm _ _ _ _)
  refine wpS_bind (wpS_ascL hO h0 hn h1 hnn hB' ?_ fun m hm1 hm2 hsm _ => wpS_pure (h m _ hB' (by omega) hm2 hsm (Und.mirror (Nat.le_refl _) hsz)))
  intro i j hl hij hj
  show κ.kle (KK κ (mirror (arrOf st) lo (lo + n) ((lo + n - lo) / 2)) i) (KK κ (mirror (arrOf st) lo (lo + n) ((lo + n - lo) / 2)) j)
  rw [KK_mirror hsz, KK_mirror hsz, if_pos (by omega), if_pos (by omega)]
  exact hs _ _ (by omega) (by omega) (by omega)
theorem wpS_descL {n nrem : Nat} {Q : DescSt → SortSt → Prop} (hO : κ.OneLt) (h0 : KeysOf κ a₀) (hn : lo + nrem ≤ a₀.size) (h1 : 1 ≤ n) (hnn : n ≤ nrem) (hB : SB a₀ p st)
    (hs : SegN κ (arrOf st) lo (lo + n))
    (h : ∀ m neq st', SB a₀ p st' → n ≤ m → m ≤ nrem → SegN κ (arrOf st') lo (lo + m) → neq + 1 ≤ m → (∀ i, lo + m - (neq + 1) ≤ i → i < lo + m → KK κ (arrOf st') i = KK κ (arrOf st') (lo + m - 1)) → Und (arrOf st) (arrOf st') lo → Q (none, m, neq) st') :
    wpS (model prog w) A E s (descL lo n nrem) Q st := by
  unfold descL
  refine wpS_forRange (I := fun x c st' => ∃ neq, c = (none, x, neq) ∧ SB a₀ p st' ∧ SegN κ (arrOf st') lo (lo + x) ∧ neq + 1 ≤ x ∧
      (∀ i, lo + x - (neq + 1) ≤ i → i < lo + x → KK κ (arrOf st') i = KK κ (arrOf st') (lo + x - 1)) ∧ Und (arrOf st) (arrOf st') lo) ?step ?fin ⟨0, rfl, hB, hs, by omega, fun i h1 h2 => by congr 1; omega, Und.refl _ _⟩
  case fin =>
    rintro c st' ⟨neq, rfl, hB', hs', hq, he, hu⟩
    rw [show max n nrem = nrem by omega] at hs' hq he ⊢
    exact h nrem neq st' hB' hnn (Nat.le_refl _) hs' hq he hu
  case step =>
    rintro x c st' hax hxn ⟨neq, rfl, hB', hs', hq, he, hu⟩
    dsimp only
    have hsz : lo + x ≤ (arrOf st').size := by rw [hB'.size]; omega
    refine wpS_bind (wpS_ltI hO hB' h0 (by omega) (by omega) ?_)
    cases hless : κ.blt (KK κ (arrOf st') (lo + x)) (KK κ (arrOf st') (lo + x - 1))
    case true =>
      simp only [if_true]
      have step1 : ∀ xs : Array Keyed, (∀ k, KK κ xs k = KK κ (arrOf st') k) → SegN κ xs lo (lo + (x + 1)) := by
        intro xs hk i j hl hij hj
        rw [hk, hk]
        by_cases hjx : j < lo + x
        · exact hs' i j hl hij hjx
        · have hj' : j = lo + x := by omega
          subst hj'
          by_cases hi' : i = lo + x
          · subst hi'; exact KeyOrd.kle_refl _
          · exact KeyOrd.kle_trans (KeyOrd.kle_of_klt hless) (hs' i (lo + x - 1) hl (by omega) (by omega))
      by_cases hneq : neq > 0
      · rw [if_pos hneq]
        exact wpS_bind (wpS_reverse (wpS_pure ⟨0, rfl, hB'.setArr (mirror_perm _ _ _ _), step1 _ (KK_mirror_equal hsz he), by omega, fun i h1 h2 => by congr 1; omega, hu.trans (Und.mirror (by omega) hsz)⟩))
      · rw [if_neg hneq]
        exact wpS_pure ⟨0, rfl, hB', step1 _ (fun _ => rfl), by omega, fun i h1 h2 => by congr 1; omega, hu⟩
    case false =>
      simp only [Bool.false_eq_true, if_false]
      refine wpS_bind (wpS_ltI hO hB' h0 (by omega) (by omega) ?_)
      cases hlarger : κ.blt (KK κ (arrOf st') (lo + x - 1)) (KK κ (arrOf st') (lo + x))
      case true =>
        simp only [if_true]
        exact wpS_pure (h x neq st' hB' hax (by omega) hs' hq he hu)
      case false =>
        simp only [Bool.false_eq_true, if_false]
        have heqx : KK κ (arrOf st') (lo + x) = KK κ (arrOf st') (lo + x - 1) := KeyOrd.kle_antisymm hlarger hless
        refine wpS_pure ⟨neq + 1, rfl, hB', fun i j hl hij hj => ?_, by omega, fun i h1 h2 => ?_, hu⟩
        · by_cases hjx : j < lo + x
          · exact hs' i j hl hij hjx
          · have hj' : j = lo + x := by omega
            subst hj'
            by_cases hi' : i = lo + x
            · subst hi'; exact KeyOrd.kle_refl _
            · rw [heqx]; exact hs' i (lo + x - 1) hl (by omega) (by omega)
        · rw [show lo + (x + 1) - 1 = lo + x by omega]
          by_cases hix : i = lo + x
          · subst hix; rfl
          · rw [heqx]; exact he i (by omega) (by omega)
theorem wpS_descR {n nrem : Nat} {Q : Option Nat → SortSt → Prop} (hO : κ.OneLt) (h0 : KeysOf κ a₀) (hn : lo + nrem ≤ a₀.size) (hnn : n + 1 ≤ nrem) (hB : SB a₀ p st)
    (hs : SegN κ (arrOf st) lo (lo + (n + 1))) (h : RunQ κ a₀ p lo nrem (arrOf st) Q) : wpS (model prog w) A E s (descR lo n nrem) Q st := by
  unfold descR
  refine wpS_bind (wpS_lift (wpAny_rule ⟨rfl, ?_⟩))
  refine wpS_bind (wpS_descL hO h0 hn (by omega) hnn hB hs fun m neq st' hB' hm1 hm2 hs' hq he hu => ?_)
  dsimp only
  have hsz : lo + m ≤ (arrOf st').size := by rw [hB'.size]; omega
  by_cases hneq : neq > 0
  · rw [if_pos hneq]
    refine wpS_bind (wpS_reverse (wpS_tailL hO h0 hn (by omega) hm2 (hB'.setArr (mirror_perm _ _ _ _)) ?_ (h.to (hu.trans (Und.mirror (by omega) hsz)))))
    intro i j hl hij hj
    show κ.kle (KK κ (mirror (arrOf st') _ _ _) j) (KK κ (mirror (arrOf st') _ _ _) i)
    rw [KK_mirror_equal hsz he, KK_mirror_equal hsz he]
    exact hs' i j hl hij hj
  · rw [if_neg hneq]
    exact wpS_tailL hO h0 hn (by omega) hm2 hB' hs' (h.to hu)
theorem wpS_countRunL {nrem : Nat} {Q : Option Nat → SortSt → Prop} (hO : κ.OneLt) (h0 : KeysOf κ a₀) (hn : lo + nrem ≤ a₀.size) (h1 : 1 ≤ nrem) (hB : SB a₀ p st)
    (h : RunQ κ a₀ p lo nrem (arrOf st) Q) : wpS (model prog w) A E s (countRun' lo nrem) Q st := by
  rw [countRunL_eq]
  refine wpS_bind (wpS_ascL hO h0 hn (Nat.le_refl 1) h1 hB (fun i j hl hij hj => by have : i = j := (by omega); subst this; exact KeyOrd.kle_refl _) fun n hn1 hn2 hsn hor => ?_)
  dsimp only
  by_cases hnn : n = nrem
  · rw [if_pos (by simpa using hnn)]
    exact wpS_pure (h n st hB hn1 hn2 hsn (Und.refl _ _))
  · rw [if_neg (by simpa using hnn)]
    have hlt : κ.klt (KK κ (arrOf st) (lo + n)) (KK κ (arrOf st) (lo + n - 1)) := hor.resolve_left hnn
    by_cases hgt : n > 1
    · rw [if_pos hgt]
      refine wpS_bind (wpS_ltI hO hB h0 (by omega) (by omega) ?_)
      cases hrose : κ.blt (KK κ (arrOf st) lo) (KK κ (arrOf st) (lo + n - 1))
      case true =>
        simp only [if_true]
        exact wpS_pure (h n st hB hn1 hn2 hsn (Und.refl _ _))
      case false =>
        simp only [Bool.false_eq_true, if_false]
        have hsz : lo + n ≤ (arrOf st).size := by rw [hB.size]; omega
        have hall : ∀ k, lo ≤ k → k < lo + n → KK κ (arrOf st) k = KK κ (arrOf st) (lo + n - 1) := by
          intro k hl hk
          have a1 := hsn lo k (by omega) hl hk
          have a2 := hsn k (lo + n - 1) hl (by omega) (by omega)
          exact KeyOrd.kle_antisymm a2 (KeyOrd.kle_trans hrose a1)
        refine wpS_bind (wpS_reverse (wpS_descR hO h0 hn (by omega) (hB.setArr (mirror_perm _ _ _ _)) ?_ (h.to (Und.mirror (Nat.le_refl _) hsz))))
        intro i j hl hij hj
        show κ.kle (KK κ (mirror (arrOf st) _ _ _) j) (KK κ (mirror (arrOf st) _ _ _) i)
        rw [KK_mirror_equal hsz hall, KK_mirror_equal hsz hall]
        by_cases hjn : j < lo + n
        · rw [hall i hl (by omega), hall j (by omega) hjn]; exact KeyOrd.kle_refl _
        · have hj' : j = lo + n := by omega
          subst hj'
          by_cases hi' : i = lo + n
          · subst hi'; exact KeyOrd.kle_refl _
          · rw [hall i hl (by omega)]; exact KeyOrd.kle_of_klt hlt
    · rw [if_neg hgt]
      have hn1' : n = 1 := by omega
      subst hn1'
      refine wpS_descR hO h0 hn (by omega) hB ?_ h
      intro i j hl hij hj
      by_cases hi' : i = j
      · subst hi'; exact KeyOrd.kle_refl _
      · have hi0 : i = lo := by omega
        have hj1 : j = lo + 1 := by omega
        subst hi0; subst hj1
        exact KeyOrd.kle_of_klt hlt
theorem wpS_binarySortL {n ok : Nat} {Q : Bool → SortSt → Prop} (hO : κ.OneLt) (h0 : KeysOf κ a₀) (hn : lo + n ≤ a₀.size) (hok : ok ≤ n) (hB : SB a₀ p st) (hs : SegS κ (arrOf st) lo (lo + ok))
    (h : ∀ st', SB a₀ p st' → SegS κ (arrOf st') lo (lo + n) → Und (arrOf st) (arrOf st') lo → Q true st') : wpS (model prog w) A E s (binarySort' lo n ok) Q st := by
  rw [binarySort'_eq]
  refine wpS_bind (wpS_mono (wpS_forRange (I := fun k c st' => c = (none, ()) ∧ SB a₀ p st' ∧ SegS κ (arrOf st') lo (lo + min k n) ∧ Und (arrOf st) (arrOf st') lo)
    (Q := fun c st' => c = (none, ()) ∧ SB a₀ p st' ∧ SegS κ (arrOf st') lo (lo + n) ∧ Und (arrOf st) (arrOf st') lo) ?step ?fin ?init) ?post)
  case post =>
    rintro c st' ⟨rfl, hB', hs', hu⟩
    exact wpS_pure (h st' hB' hs' hu)
  case init =>
    refine ⟨rfl, hB, fun i j hl hij hj => ?_, Und.refl _ _⟩
    by_cases h1 : ok = 0
    · have : i = j := by omega
      subst this; exact KeyOrd.kle_refl _
    · exact hs i j hl hij (by omega)
  case fin =>
    rintro c st' ⟨hc, hB', hs', hu⟩
    refine ⟨hc, hB', ?_, hu⟩
    rwa [show min (max (max ok 1) n) n = n by omega] at hs'
  case step =>
    rintro k c st' hak hkn ⟨rfl, hB', hs', hu⟩
    rw [show min k n = k by omega] at hs'
    have hk : lo + k < a₀.size := by omega
    refine wpS_bind (wpS_mono (wpS_forRange (I := fun x c st'' => st'' = st' ∧ ∃ l r, c = (none, l, r) ∧ l ≤ r ∧ r ≤ k ∧ r - l ≤ k - x ∧
        (∀ i, i < l → κ.kle (KK κ (arrOf st') (lo + i)) (KK κ (arrOf st') (lo + k))) ∧ (∀ i, r ≤ i → i < k → κ.klt (KK κ (arrOf st') (lo + k)) (KK κ (arrOf st') (lo + i))))
      (Q := fun c st'' => st'' = st' ∧ ∃ l r, c = (none, l, r) ∧ l ≤ k ∧
        (∀ i, i < l → κ.kle (KK κ (arrOf st') (lo + i)) (KK κ (arrOf st') (lo + k))) ∧ (∀ i, l ≤ i → i < k → κ.klt (KK κ (arrOf st') (lo + k)) (KK κ (arrOf st') (lo + i)))) ?istep ?ifin ?iinit) ?ipost)
    case iinit => exact ⟨rfl, 0, k, rfl, by omega, by omega, by omega, fun i hi => by omega, fun i h1 h2 => by omega⟩
    case ifin =>
      rintro c st'' ⟨rfl, l, r, rfl, hlr, hrk, hm, hlo, hhi⟩
      have : l = r := by omega
      subst this
      exact ⟨rfl, l, l, rfl, hrk, hlo, hhi⟩
    case istep =>
      rintro x c st'' _ hxk ⟨rfl, l, r, rfl, hlr, hrk, hm, hlo, hhi⟩
      dsimp only
      by_cases hge : l ≥ r
      · rw [if_pos hge]
        have : l = r := by omega
        subst this
        exact wpS_pure ⟨rfl, l, l, rfl, hrk, hlo, hhi⟩
      · rw [if_neg hge]
        refine wpS_bind (wpS_ltI hO hB' h0 hk (by omega) ?_)
        cases hless : κ.blt (KK κ (arrOf st'') (lo + k)) (KK κ (arrOf st'') (lo + (l + r) / 2))
        case true =>
          simp only [if_true]
          refine wpS_pure ⟨rfl, l, (l + r) / 2, rfl, by omega, by omega, by omega, hlo, fun i h1 h2 => ?_⟩
          exact KeyOrd.klt_of_klt_of_kle hless (hs' _ _ (by omega) (by omega) (by omega))
        case false =>
          simp only [Bool.false_eq_true, if_false]
          refine wpS_pure ⟨rfl, (l + r) / 2 + 1, r, rfl, by omega, by omega, by omega, fun i h1 => ?_, hhi⟩
          exact KeyOrd.kle_trans (hs' (lo + i) (lo + (l + r) / 2) (by omega) (by omega) (by omega)) (show κ.kle _ _ from hless)
    case ipost =>
      rintro c st'' ⟨rfl, l, r, rfl, hlk, hlo, hhi⟩
      show wpS _ _ _ _ (do moveDown' (lo + k) (lo + l); pure (ForInStep.yield (none, ()))) _ _
      rw [moveDown'_eq]
      have hks : lo + k < (arrOf st'').size := by rw [hB'.size]; exact hk
      refine wpS_bind (wpS_modify (wpS_pure ⟨rfl, hB'.setArr (bubble_perm _ _ _), ?_, hu.trans (Und.bubble hks (by omega) (by omega))⟩))
      rw [show min (k + 1) n = k + 1 by omega]
      have low : ∀ i, lo ≤ i → i < lo + l → κ.kle (KK κ (arrOf st'') i) (KK κ (arrOf st'') (lo + k)) := fun i h1 h2 => by
        have q := hlo (i - lo) (by omega)
        rwa [show lo + (i - lo) = i by omega] at q
      have high : ∀ i, lo + l ≤ i → i < lo + k → κ.klt (KK κ (arrOf st'') (lo + k)) (KK κ (arrOf st'') i) := fun i h1 h2 => by
        have q := hhi (i - lo) (by omega) (by omega)
        rwa [show lo + (i - lo) = i by omega] at q
      intro i j hl hij hj
      show κ.kle (KK κ (bubble (arrOf st'') (lo + k) (lo + k - (lo + l))) i) (KK κ (bubble (arrOf st'') (lo + k) (lo + k - (lo + l))) j)
      rw [KK_bubble hks (by omega), KK_bubble hks (by omega), show lo + k - (lo + k - (lo + l)) = lo + l by omega]
      repeat' split
      all_goals first
        | (exfalso; omega)
        | exact KeyOrd.kle_refl _
        | exact low _ (by omega) (by omega)
        | exact KeyOrd.kle_of_klt (high _ (by omega) (by omega))
        | exact hs' _ _ (by omega) (by omega) (by omega)
end
end Eb

set_option autoImplicit false
namespace Eb
open PySem PyProof.Rows
/-! writing a merged list back -/
section
variable {α : Type}
theorem wb_get (o : Nat) : ∀ (m : List α) (n : Nat) (xs : Array α), o + n + m.length ≤ xs.size → ∀ k : Nat,
    ((m.zipIdx n).foldl (fun a (x : α × Nat) => a.setIfInBounds (o + x.2) x.1) xs)[k]? = if o + n ≤ k ∧ k < o + n + m.length then m[k - (o + n)]? else xs[k]?
  | [], n, xs, h, k => by
    rw [if_neg (by simp only [List.length_nil]; omega)]; rfl
  | p :: m, n, xs, h, k => by
    rw [List.length_cons] at h
    show (((m.zipIdx (n + 1)).foldl (fun a (x : α × Nat) => a.setIfInBounds (o + x.2) x.1) (xs.setIfInBounds (o + n) p))[k]?) = _
    rw [wb_get o m (n + 1) (xs.setIfInBounds (o + n) p) (by rw [Array.size_setIfInBounds]; omega) k, List.length_cons]
    by_cases h1 : k = o + n
    · subst h1
      rw [if_neg (by omega), if_pos (by omega), Array.getElem?_setIfInBounds_self_of_lt (by omega), Nat.sub_self]; rfl
    · by_cases h2 : o + (n + 1) ≤ k ∧ k < o + (n + 1) + m.length
      · rw [if_pos h2, if_pos (by omega), show k - (o + n) = (k - (o + (n + 1))) + 1 by omega, List.getElem?_cons_succ]
      · rw [if_neg h2, if_neg (by omega), Array.getElem?_setIfInBounds_ne (by omega)]
def wbk (xs : Array α) (o : Nat) (m : List α) : Array α := m.zipIdx.foldl (fun a (x : α × Nat) => a.setIfInBounds (o + x.2) x.1) xs
theorem wbk_get {xs : Array α} {o : Nat} {m : List α} (h : o + m.length ≤ xs.size) (k : Nat) : (wbk xs o m)[k]? = if o ≤ k ∧ k < o + m.length then m[k - o]? else xs[k]? := by
  have q := wb_get o m 0 xs (by omega) k
  simp only [Nat.add_zero] at q
  exact q
theorem wbk_list {xs : Array α} {o : Nat} {m : List α} (h : o + m.length ≤ xs.size) : (wbk xs o m).toList = xs.toList.take o ++ m ++ xs.toList.drop (o + m.length) := by
  apply List.ext_getElem?
  intro k
  rw [Array.getElem?_toList, wbk_get h]
  have l1 : (xs.toList.take o).length = o := by rw [List.length_take, Array.length_toList]; omega
  by_cases h1 : k < o
  · rw [if_neg (by omega), List.append_assoc, List.getElem?_append_left (by omega), List.getElem?_take_of_lt h1, Array.getElem?_toList]
  · by_cases h2 : k < o + m.length
    · rw [if_pos (by omega), List.append_assoc, List.getElem?_append_right (by omega), l1, List.getElem?_append_left (by omega)]
    · rw [if_neg (by omega), List.append_assoc, List.getElem?_append_right (by omega), l1, List.getElem?_append_right (by omega), List.getElem?_drop, ← Array.getElem?_toList]
      congr 1; omega
theorem wbk_perm {xs : Array α} {o n : Nat} {m : List α} (h : o + n ≤ xs.size) (hp : m.Perm ((xs.toList.drop o).take n)) : (wbk xs o m).Perm xs := by
  have hl : m.length = n := by rw [hp.length_eq, List.length_take, List.length_drop, Array.length_toList]; omega
  rw [Array.perm_iff_toList_perm, wbk_list (by omega), hl]
  refine ((hp.append_left _).append_right _).trans ?_
  rw [List.append_assoc, ← List.drop_drop, List.take_append_drop, List.take_append_drop]
end
theorem seg_list {κ : KeyKind} {xs : Array Keyed} {lo hi : Nat} (h : SegS κ xs lo hi) (hh : hi ≤ xs.size) : (xs.extract lo hi).toList.Pairwise (Kle κ) := by
  rw [List.pairwise_iff_getElem]
  intro i j hi' hj' hij
  rw [Array.length_toList, Array.size_extract] at hi' hj'
  have e1 : xs[lo + i]? = some (xs.extract lo hi).toList[i] := by
    rw [Array.getElem_toList, Array.getElem_extract]; exact getElem?_pos xs (lo + i) (by omega)
  have e2 : xs[lo + j]? = some (xs.extract lo hi).toList[j] := by
    rw [Array.getElem_toList, Array.getElem_extract]; exact getElem?_pos xs (lo + j) (by omega)
  have q := h (lo + i) (lo + j) (by omega) (by omega) (by omega)
  rw [KK_kf e1, KK_kf e2] at q
  exact q
theorem ext_ix {xs : Array Keyed} {lo hi i : Nat} {p : Keyed} (h : (xs.extract lo hi).toList[i]? = some p) (hh : hi ≤ xs.size) : i < hi - lo ∧ xs[lo + i]? = some p := by
  have hl := (List.getElem?_eq_some_iff.mp h).1
  rw [Array.length_toList, Array.size_extract] at hl
  rw [Array.getElem?_toList, Array.getElem?_extract, if_pos (by omega)] at h
  exact ⟨by omega, h⟩
theorem wpS_set {M : Model} {A : Around} {E : Value → Shared → Prop} {s : Shared} {σ : Type} {x : σ} {Q : PUnit → σ → Prop} {st : σ} (h : Q ⟨⟩ x) : wpS M A E s (set x : StateT σ Sem PUnit) Q st := by
  unfold wpS; rw [StateT.run_set]; exact wpAny_pure ⟨rfl, h⟩
section
variable {prog : Program} {w : World} {A : Around} {E : Value → Shared → Prop} {s : Shared} {κ : KeyKind} {st : SortSt} {a₀ : Array Keyed} {p : Array (Nat × Nat × Nat)}
def pAfter (p : Array (Nat × Nat × Nat)) (i sa n pw : Nat) : Array (Nat × Nat × Nat) := (p.setIfInBounds i (sa, n, pw)).eraseIdxIfInBounds (i + 1)
/-- nothing outside lo .. hi has changed -/
def Outs (xs ys : Array Keyed) (lo hi : Nat) : Prop := ∀ k, (k < lo ∨ hi ≤ k) → ys[k]? = xs[k]?
theorem wpS_mergeAt {i sa na sb nb pw pw2 : Nat} {Q : Bool → SortSt → Prop} (hO : κ.OneLt) (h0 : KeysOf κ a₀) (hB : SB a₀ p st) (e1 : p[i]? = some (sa, na, pw)) (e2 : p[i + 1]? = some (sb, nb, pw2))
    (hab : sb = sa + na) (hna : 0 < na) (hnb : 0 < nb) (hsz : sb + nb ≤ a₀.size) (s1 : SegS κ (arrOf st) sa sb) (s2 : SegS κ (arrOf st) sb (sb + nb))
    (h : ∀ st', SB a₀ (pAfter p i sa (na + nb) pw) st' → SegS κ (arrOf st') sa (sb + nb) → Outs (arrOf st) (arrOf st') sa (sb + nb) → Q true st') : wpS (model prog w) A E s (mergeAt' i) Q st := by
  have hz : (arrOf st).size = a₀.size := hB.size
  have hks := hB.keys h0
  have hp : pendingOf st = p := hB.pend
  have f1 : (pendingOf st)[i]? = some (sa, na, pw) := by rw [hp]; exact e1
  have f2 : (pendingOf st)[i + 1]? = some (sb, nb, pw2) := by rw [hp]; exact e2
  unfold mergeAt'
  change wpS _ _ _ _ (bind _ _ : StateT SortSt Sem Bool) _ _
  refine wpS_bind (wpS_get ?_)
  dsimp only
  rw [f1, f2]
  dsimp only
  refine wpS_bind (wpS_set ?_)
  have B2 : SB a₀ (pAfter p i sa (na + nb) pw) (setPending st (pAfter (pendingOf st) i sa (na + nb) pw)) := ⟨hB.perm, hB.kind, hB.failed, by show pAfter (pendingOf st) i sa (na + nb) pw = _; rw [hp]⟩
  have A2 : arrOf (setPending st (pAfter (pendingOf st) i sa (na + nb) pw)) = arrOf st := rfl
  change wpS _ _ _ _ _ _ (setPending st (pAfter (pendingOf st) i sa (na + nb) pw))
  generalize setPending st (pAfter (pendingOf st) i sa (na + nb) pw) = st2 at B2 A2 ⊢
  obtain ⟨key, ek, ek'⟩ := ix_of (a := arrOf st) (i := sb) (by omega)
  obtain ⟨lst, el, el'⟩ := ix_of (a := arrOf st) (i := sb - 1) (by omega)
  have okey := hks key (List.mem_of_getElem? ek')
  have olst := hks lst (List.mem_of_getElem? el')
  refine wpS_bind (wpS_elem ek ?_)
  refine wpS_bind (wpS_gallop (beyR hO B2.kind hks okey (show sa + na ≤ (arrOf st).size by omega)) (fun x y hxy hy e => ?_) hna fun k hkn hlt hge => ?_)
  · have q := s1 (sa + x) (sa + y) (by omega) (by omega) (by omega)
    have e' : κ.kle (KK κ (arrOf st) (sa + y)) (kf κ key) := by unfold KeyOrd.kle; simpa using e
    have z := KeyOrd.kle_trans q e'
    unfold KeyOrd.kle at z
    simp [z]
  dsimp only at hlt hge ⊢
  have lowK : ∀ x, sa ≤ x → x < sa + k → κ.kle (KK κ (arrOf st) x) (KK κ (arrOf st) sb) := fun x h1 h2 => by
    have z := hlt (x - sa) (by omega)
    rw [show sa + (x - sa) = x by omega] at z
    rw [KK_kf ek]
    unfold KeyOrd.kle; simpa using z
  have highK : ∀ x, sa + k ≤ x → x < sb → κ.klt (KK κ (arrOf st) sb) (KK κ (arrOf st) x) := fun x h1 h2 => by
    have z := hge (x - sa) (by omega) (by omega)
    rw [show sa + (x - sa) = x by omega] at z
    rw [KK_kf ek]
    unfold KeyOrd.klt; simpa using z
  by_cases c1 : na - k = 0
  · rw [if_pos (by simpa using c1)]
    refine wpS_pure (h st2 B2 ?_ (by rw [A2]; exact fun _ _ => rfl))
    rw [A2]
    intro x y h1 h2 h3
    by_cases hy : y < sb
    · exact s1 x y h1 h2 hy
    · by_cases hx : x < sb
      · exact KeyOrd.kle_trans (lowK x h1 (by omega)) (s2 sb y (Nat.le_refl _) (by omega) h3)
      · exact s2 x y (by omega) h2 h3
  · rw [if_neg (by simpa using c1)]
    rw [show sa + k + (na - k) - 1 = sb - 1 by omega]
    refine wpS_bind (wpS_elem el ?_)
    refine wpS_bind (wpS_gallop (beyL hO B2.kind hks olst (show sb + nb ≤ (arrOf st).size by omega)) (fun x y hxy hy e => ?_) (by omega) fun m hmn hlt2 hge2 => ?_)
    · exact KeyOrd.klt_of_kle_of_klt (s2 (sb + x) (sb + y) (by omega) (by omega) (by omega)) e
    dsimp only at hlt2 hge2 ⊢
    have lowL : ∀ x, sb ≤ x → x < sb + m → κ.klt (KK κ (arrOf st) x) (KK κ (arrOf st) (sb - 1)) := fun x h1 h2 => by
      have z := hlt2 (x - sb) (by omega)
      rw [show sb + (x - sb) = x by omega] at z
      rw [KK_kf el]
      exact z
    have highL : ∀ x, sb + m ≤ x → x < sb + nb → κ.kle (KK κ (arrOf st) (sb - 1)) (KK κ (arrOf st) x) := fun x h1 h2 => by
      have z := hge2 (x - sb) (by omega) (by omega)
      rw [show sb + (x - sb) = x by omega] at z
      rw [KK_kf el]
      exact z
    by_cases c2 : m = 0
    · rw [if_pos (by simpa using c2)]
      refine wpS_pure (h st2 B2 ?_ (by rw [A2]; exact fun _ _ => rfl))
      rw [A2]
      intro x y h1 h2 h3
      by_cases hy : y < sb
      · exact s1 x y h1 h2 hy
      · by_cases hx : x < sb
        · exact KeyOrd.kle_trans (s1 x (sb - 1) h1 (by omega) (by omega)) (highL y (by omega) h3)
        · exact s2 x y (by omega) h2 h3
    · rw [if_neg (by simpa using c2)]
      -- the two parts
      have P : MPre κ ((arrOf st).extract (sa + k) sb) ((arrOf st).extract sb (sb + m)) := by
        refine ⟨fun q hq => ?_, fun q hq => ?_, seg_list (fun x y h1 h2 h3 => s1 x y (by omega) h2 h3) (by omega), seg_list (fun x y h1 h2 h3 => s2 x y h1 h2 (by omega)) (by omega)⟩
        · rw [ext_list] at hq
          exact hks q (List.mem_of_mem_drop (List.mem_of_mem_take hq))
        · rw [ext_list] at hq
          exact hks q (List.mem_of_mem_drop (List.mem_of_mem_take hq))
      have z1 : ((arrOf st).extract (sa + k) sb).size = na - k := by rw [Array.size_extract]; omega
      have z2 : ((arrOf st).extract sb (sb + m)).size = m := by rw [Array.size_extract]; omega
      have hz1 : ∀ z, ((arrOf st).extract (sa + k) sb).toList[((arrOf st).extract (sa + k) sb).size - 1]? = some z → ∀ q ∈ ((arrOf st).extract sb (sb + m)).toList, Kle κ q z := fun z ez q hq => by
        obtain ⟨j, hj⟩ := List.mem_iff_getElem?.mp hq
        obtain ⟨j1, j2⟩ := ext_ix hj (by omega)
        obtain ⟨_, z2'⟩ := ext_ix ez (by omega)
        rw [z1, show sa + k + (na - k - 1) = sb - 1 by omega] at z2'
        have t := lowL (sb + j) (by omega) (by omega)
        rw [KK_kf j2, KK_kf z2'] at t
        exact KeyOrd.kle_of_klt t
      have hz0 : ∀ x, ((arrOf st).extract sb (sb + m)).toList[0]? = some x → ∀ q ∈ ((arrOf st).extract (sa + k) sb).toList, Kle κ x q := fun x ex q hq => by
        obtain ⟨j, hj⟩ := List.mem_iff_getElem?.mp hq
        obtain ⟨j1, j2⟩ := ext_ix hj (by omega)
        obtain ⟨_, x2⟩ := ext_ix ex (by omega)
        rw [Nat.add_zero] at x2
        have t := highK (sa + k + j) (by omega) (by omega)
        rw [KK_kf j2, KK_kf x2] at t
        exact KeyOrd.kle_of_klt t
      -- behind the merge
      have fin : ∀ (r : Array Keyed) (st3 : SortSt), FinM κ ((arrOf st).extract (sa + k) sb) ((arrOf st).extract sb (sb + m)) st2 r st3 → Q (failedOf (setArr st3 (wbk (arrOf st3) (sa + k) r.toList))).isNone (setArr st3 (wbk (arrOf st3) (sa + k) r.toList)) := by
        rintro r st3 ⟨rp, rs, g, rfl⟩
        have A3 : arrOf (setGal st2 g) = arrOf st := A2
        have B3 : SB a₀ (pAfter p i sa (na + nb) pw) (setGal st2 g) := ⟨B2.perm, B2.kind, B2.failed, B2.pend⟩
        have hf : (failedOf (setArr (setGal st2 g) (wbk (arrOf (setGal st2 g)) (sa + k) r.toList))).isNone = true := by
          show (failedOf st2).isNone = true
          rw [B2.failed]; rfl
        rw [hf]
        have ecat : ((arrOf st).extract (sa + k) sb).toList ++ ((arrOf st).extract sb (sb + m)).toList = ((arrOf st).toList.drop (sa + k)).take (na - k + m) := by
          rw [ext_list, ext_list, show sb - (sa + k) = na - k by omega, show sb + m - sb = m by omega, List.take_add, List.drop_drop, show sa + k + (na - k) = sb by omega]
        rw [ecat] at rp
        have rl : r.toList.length = na - k + m := by rw [rp.length_eq, List.length_take, List.length_drop, Array.length_toList]; omega
        have hperm : (wbk (arrOf st) (sa + k) r.toList).Perm (arrOf st) := wbk_perm (n := na - k + m) (by omega) rp
        have get := fun x => wbk_get (xs := arrOf st) (o := sa + k) (m := r.toList) (by omega) x
        rw [A3]
        refine h _ (B3.setArr (by rw [A3]; exact hperm)) ?_ (fun x hx => ?_)
        · show SegS κ (wbk (arrOf st) (sa + k) r.toList) sa (sb + nb)
          -- a place outside keeps its key; one inside has an item of the merged part
          have kOut : ∀ x, (x < sa + k ∨ sb + m ≤ x) → KK κ (wbk (arrOf st) (sa + k) r.toList) x = KK κ (arrOf st) x := fun x hx => KK_congr (by rw [get x, if_neg (by omega)])
          have kIn : ∀ x, sa + k ≤ x → x < sb + m → ∃ q, r.toList[x - (sa + k)]? = some q ∧ KK κ (wbk (arrOf st) (sa + k) r.toList) x = kf κ q := fun x h1 h2 => by
            have hl : x - (sa + k) < r.toList.length := by omega
            refine ⟨r.toList[x - (sa + k)], List.getElem?_eq_getElem hl, KK_kf ?_⟩
            rw [get x, if_pos (by omega)]
            exact List.getElem?_eq_getElem hl
          have src : ∀ q, q ∈ r.toList → ∃ y, sa + k ≤ y ∧ y < sb + m ∧ (arrOf st)[y]? = some q := fun q hq => by
            obtain ⟨j, hj, e⟩ := mem_take_ix (rp.mem_iff.mp hq)
            rw [Array.getElem?_toList] at e
            exact ⟨sa + k + j, by omega, by omega, e⟩
          have below : ∀ q, q ∈ r.toList → ∀ x, sa ≤ x → x < sa + k → κ.kle (KK κ (arrOf st) x) (kf κ q) := fun q hq x h1 h2 => by
            obtain ⟨y, y1, y2, e⟩ := src q hq
            rw [← KK_kf e]
            refine KeyOrd.kle_trans (lowK x h1 h2) ?_
            by_cases hy : y < sb
            · exact KeyOrd.kle_of_klt (highK y y1 hy)
            · exact s2 sb y (Nat.le_refl _) (by omega) (by omega)
          have above : ∀ q, q ∈ r.toList → ∀ x, sb + m ≤ x → x < sb + nb → κ.kle (kf κ q) (KK κ (arrOf st) x) := fun q hq x h1 h2 => by
            obtain ⟨y, y1, y2, e⟩ := src q hq
            rw [← KK_kf e]
            by_cases hy : y < sb
            · exact KeyOrd.kle_trans (s1 y (sb - 1) (by omega) (by omega) (by omega)) (highL x h1 h2)
            · exact s2 y x (by omega) (by omega) h2
          intro x y h1 h2 h3
          by_cases x1 : x < sa + k
          · rw [kOut x (.inl x1)]
            by_cases y1 : y < sa + k
            · rw [kOut y (.inl y1)]; exact s1 x y h1 h2 (by omega)
            · by_cases y2 : y < sb + m
              · obtain ⟨q, eq, e⟩ := kIn y (by omega) y2
                rw [e]; exact below q (List.mem_of_getElem? eq) x h1 x1
              · rw [kOut y (.inr (by omega))]
                exact KeyOrd.kle_trans (lowK x h1 x1) (s2 sb y (Nat.le_refl _) (by omega) h3)
          · by_cases x2 : x < sb + m
            · obtain ⟨q, eq, e⟩ := kIn x (by omega) x2
              rw [e]
              by_cases y2 : y < sb + m
              · obtain ⟨q', eq', e'⟩ := kIn y (by omega) y2
                rw [e']
                exact pair_ix rs kle_refl' eq eq' (by omega)
              · rw [kOut y (.inr (by omega))]
                exact above q (List.mem_of_getElem? eq) y (by omega) h3
            · rw [kOut x (.inr (by omega)), kOut y (.inr (by omega))]
              exact s2 x y (by omega) h2 h3
        · show (wbk (arrOf st) (sa + k) r.toList)[x]? = _
          rw [get x, if_neg (by omega)]
      by_cases c3 : na - k ≤ m
      · rw [if_pos c3]
        refine wpS_bind (wpS_mono (wpS_mergeLo hO B2.kind P (show 0 < ((arrOf st).extract (sa + k) sb).size by rw [z1]; omega) (show 0 < ((arrOf st).extract sb (sb + m)).size by rw [z2]; omega) hz1 hz0) fun r st3 F => ?_)
        exact wpS_bind (wpS_modify (wpS_bind (wpS_get (wpS_pure (fin r st3 F)))))
      · rw [if_neg c3]
        refine wpS_bind (wpS_mono (wpS_mergeHi hO B2.kind P (show 0 < ((arrOf st).extract (sa + k) sb).size by rw [z1]; omega) (show 0 < ((arrOf st).extract sb (sb + m)).size by rw [z2]; omega) hz1 hz0) fun r st3 F => ?_)
        exact wpS_bind (wpS_modify (wpS_bind (wpS_get (wpS_pure (fin r st3 F)))))
end
end Eb

set_option autoImplicit false
namespace Eb
open PySem PyProof.Rows
/-! the runs that wait: one behind the other from the first place on -/
def Chain : Nat → List (Nat × Nat × Nat) → Nat → Prop
  | lo, [], hi => lo = hi
  | lo, t :: r, hi => t.1 = lo ∧ 0 < t.2.1 ∧ Chain (lo + t.2.1) r hi
theorem chain_le : ∀ {l : List (Nat × Nat × Nat)} {lo hi : Nat}, Chain lo l hi → lo + l.length ≤ hi
  | [], _, _, h => by cases h; simp
  | t :: r, lo, hi, h => by
    have q := chain_le h.2.2
    have := h.2.1
    rw [List.length_cons]; omega
theorem chain_append : ∀ {l1 l2 : List (Nat × Nat × Nat)} {lo hi : Nat}, Chain lo (l1 ++ l2) hi ↔ ∃ m, Chain lo l1 m ∧ Chain m l2 hi
  | [], l2, lo, hi => ⟨fun h => ⟨lo, rfl, h⟩, fun ⟨m, e, h⟩ => by cases e; exact h⟩
  | t :: r, l2, lo, hi => by
    constructor
    · rintro ⟨h1, h2, h3⟩
      obtain ⟨m, a, b⟩ := chain_append.mp h3
      exact ⟨m, ⟨h1, h2, a⟩, b⟩
    · rintro ⟨m, ⟨h1, h2, a⟩, b⟩
      exact ⟨h1, h2, chain_append.mpr ⟨m, a, b⟩⟩
theorem chain_mem : ∀ {l : List (Nat × Nat × Nat)} {lo hi : Nat}, Chain lo l hi → ∀ t ∈ l, lo ≤ t.1 ∧ t.1 + t.2.1 ≤ hi
  | [], _, _, _, t, ht => absurd ht (by simp)
  | u :: r, lo, hi, h, t, ht => by
    obtain ⟨h1, h2, h3⟩ := h
    rcases List.mem_cons.mp ht with rfl | ht
    · have := chain_le h3; omega
    · have := chain_mem h3 t ht; omega
/-- the same runs with other powers -/
theorem chain_map {f : Nat × Nat × Nat → Nat × Nat × Nat} (hf : ∀ t, (f t).1 = t.1 ∧ (f t).2.1 = t.2.1) : ∀ {l : List (Nat × Nat × Nat)} {k lo hi : Nat}, Chain lo l hi → Chain lo (l.modify k f) hi
  | [], k, lo, hi, h => by cases k <;> exact h
  | t :: r, 0, lo, hi, h => by
    obtain ⟨h1, h2, h3⟩ := h
    rw [List.modify_zero_cons]
    exact ⟨(hf t).1.trans h1, by rw [(hf t).2]; exact h2, by rw [(hf t).2]; exact h3⟩
  | t :: r, k + 1, lo, hi, h => by
    rw [List.modify_succ_cons]
    exact ⟨h.1, h.2.1, chain_map hf h.2.2⟩
theorem split_two {α : Type} {l : List α} {i : Nat} {a b : α} (e1 : l[i]? = some a) (e2 : l[i + 1]? = some b) : l = l.take i ++ a :: b :: l.drop (i + 2) := by
  obtain ⟨h1, rfl⟩ := List.getElem?_eq_some_iff.mp e1
  obtain ⟨h2, rfl⟩ := List.getElem?_eq_some_iff.mp e2
  rw [← List.drop_eq_getElem_cons h2, ← List.drop_eq_getElem_cons h1, List.take_append_drop]
theorem pAfter_list {p : Array (Nat × Nat × Nat)} {i sa n pw : Nat} {a b : Nat × Nat × Nat} (e1 : p.toList[i]? = some a) (e2 : p.toList[i + 1]? = some b) :
    (pAfter p i sa n pw).toList = p.toList.take i ++ (sa, n, pw) :: p.toList.drop (i + 2) := by
  have hi := (List.getElem?_eq_some_iff.mp e2).1
  rw [Array.length_toList] at hi
  have e0 : (pAfter p i sa n pw).toList = (p.toList.set i (sa, n, pw)).eraseIdx (i + 1) := by
    unfold pAfter
    rw [Array.eraseIdxIfInBounds_eq, dif_pos (by rw [Array.size_setIfInBounds]; exact hi), Array.toList_eraseIdx, Array.toList_setIfInBounds]
  rw [e0]
  conv => lhs; rw [split_two e1 e2]
  have hl : (p.toList.take i).length = i := by rw [List.length_take, Array.length_toList]; omega
  rw [List.set_append_right _ _ (by omega), hl, Nat.sub_self, List.set_cons_zero, List.eraseIdx_append_of_length_le (by omega), hl, show i + 1 - i = 1 by omega]
  rfl
section
variable {prog : Program} {w : World} {A : Around} {E : Value → Shared → Prop} {s : Shared} {κ : KeyKind} {st : SortSt} {a₀ : Array Keyed}
def RunsOk (κ : KeyKind) (st : SortSt) (lo : Nat) : Prop := Chain 0 (pendingOf st).toList lo ∧ ∀ t ∈ (pendingOf st).toList, SegS κ (arrOf st) t.1 (t.1 + t.2.1)
theorem SegS.same {xs ys : Array Keyed} {lo hi : Nat} (h : SegS κ xs lo hi) (e : ∀ k, lo ≤ k → k < hi → ys[k]? = xs[k]?) : SegS κ ys lo hi := fun i j h1 h2 h3 => by
  rw [KK_congr (e i h1 (by omega)), KK_congr (e j (by omega) h3)]
  exact h i j h1 h2 h3
structure Good (κ : KeyKind) (a₀ : Array Keyed) (lo n : Nat) (st : SortSt) : Prop where
  sb : SB a₀ (pendingOf st) st
  runs : RunsOk κ st lo
  seg : SegS κ (arrOf st) lo (lo + n)
theorem Good.merge {lo n i : Nat} {Q : Bool → SortSt → Prop} (hO : κ.OneLt) (h0 : KeysOf κ a₀) (G : Good κ a₀ lo n st) (hln : lo + n ≤ a₀.size) (hi : i + 1 < (pendingOf st).size)
    (h : ∀ st', Good κ a₀ lo n st' → (pendingOf st').size + 1 = (pendingOf st).size → Q true st') : wpS (model prog w) A E s (mergeAt' i) Q st := by
  obtain ⟨sb, ⟨ch, sg⟩, seg⟩ := G
  have g1 : (pendingOf st)[i]? = some (pendingOf st)[i] := getElem?_pos _ i (by omega)
  have g2 : (pendingOf st)[i + 1]? = some (pendingOf st)[i + 1] := getElem?_pos _ (i + 1) hi
  rcases ea : (pendingOf st)[i] with ⟨sa, na, pw⟩
  rcases eb : (pendingOf st)[i + 1] with ⟨s2, nb, pw2⟩
  rw [ea] at g1
  rw [eb] at g2
  have l1 : (pendingOf st).toList[i]? = some (sa, na, pw) := by rw [Array.getElem?_toList]; exact g1
  have l2 : (pendingOf st).toList[i + 1]? = some (s2, nb, pw2) := by rw [Array.getElem?_toList]; exact g2
  have sp := split_two l1 l2
  have ch' := ch
  rw [sp] at ch'
  obtain ⟨m, c1, c2⟩ := chain_append.mp ch'
  obtain ⟨d1, d2, d3, d4, d5⟩ := c2
  dsimp only at d1 d2 d3 d4 d5
  subst d1
  have hle := chain_le d5
  have m1 := sg _ (List.mem_of_getElem? l1)
  have m2 := sg _ (List.mem_of_getElem? l2)
  dsimp only at m1 m2
  refine wpS_mergeAt hO h0 sb g1 g2 d3 d2 d4 (by omega) (by rw [d3]; exact m1) m2 fun st' B' S' O' => ?_
  have pl : (pendingOf st').toList = (pendingOf st).toList.take i ++ (sa, na + nb, pw) :: (pendingOf st).toList.drop (i + 2) := by
    rw [B'.pend]; exact pAfter_list l1 l2
  refine h st' ⟨⟨B'.perm, B'.kind, B'.failed, rfl⟩, ⟨?_, fun t ht => ?_⟩, seg.same fun k k1 k2 => O' k (.inr (by omega))⟩ ?_
  · rw [pl]
    refine chain_append.mpr ⟨sa, c1, rfl, by show 0 < na + nb; omega, ?_⟩
    show Chain (sa + (na + nb)) _ lo
    rw [← Nat.add_assoc]
    exact d5
  · rw [pl] at ht
    rcases List.mem_append.mp ht with ht | ht
    · have q := chain_mem c1 t ht
      exact (sg t (by rw [sp]; exact List.mem_append_left _ ht)).same fun k k1 k2 => O' k (.inl (by omega))
    · rcases List.mem_cons.mp ht with rfl | ht
      · show SegS κ (arrOf st') sa (sa + (na + nb))
        rw [← Nat.add_assoc, ← d3]
        exact S'
      · have q := chain_mem d5 t ht
        exact (sg t (by rw [sp]; exact List.mem_append_right _ (List.mem_cons_of_mem _ (List.mem_cons_of_mem _ ht)))).same fun k k1 k2 => O' k (.inr (by omega))
  · have e := congrArg List.length pl
    rw [Array.length_toList, List.length_append, List.length_cons, List.length_take, List.length_drop, Array.length_toList] at e
    omega
theorem Good.pow {lo n k : Nat} {f : Nat × Nat × Nat → Nat × Nat × Nat} (hf : ∀ t, (f t).1 = t.1 ∧ (f t).2.1 = t.2.1) (G : Good κ a₀ lo n st) : Good κ a₀ lo n (setPending st ((pendingOf st).modify k f)) := by
  obtain ⟨sb, ⟨ch, sg⟩, seg⟩ := G
  refine ⟨⟨sb.perm, sb.kind, sb.failed, rfl⟩, ⟨?_, fun t ht => ?_⟩, seg⟩
  · show Chain 0 ((pendingOf st).modify k f).toList lo
    rw [Array.toList_modify]
    exact chain_map hf ch
  · have ht' : t ∈ ((pendingOf st).modify k f).toList := ht
    rw [Array.toList_modify] at ht'
    show SegS κ (arrOf st) t.1 (t.1 + t.2.1)
    obtain ⟨j, hj⟩ := List.mem_iff_getElem?.mp ht'
    rw [List.getElem?_modify] at hj
    obtain ⟨u, hu, e⟩ := Option.map_eq_some_iff.mp hj
    have q := sg u (List.mem_of_getElem? hu)
    split at e
    · subst e; rw [(hf u).1, (hf u).2]; exact q
    · subst e; exact q
theorem Good.push {lo n pw : Nat} (G : Good κ a₀ lo n st) (hn : 1 ≤ n) : SB a₀ ((pendingOf st).push (lo, n, pw)) (setPending st ((pendingOf st).push (lo, n, pw))) ∧ RunsOk κ (setPending st ((pendingOf st).push (lo, n, pw))) (lo + n) := by
  obtain ⟨sb, ⟨ch, sg⟩, seg⟩ := G
  refine ⟨⟨sb.perm, sb.kind, sb.failed, rfl⟩, ?_, fun t ht => ?_⟩
  · show Chain 0 ((pendingOf st).push (lo, n, pw)).toList (lo + n)
    rw [Array.toList_push]
    exact chain_append.mpr ⟨lo, ch, rfl, hn, rfl⟩
  · have ht' : t ∈ ((pendingOf st).push (lo, n, pw)).toList := ht
    rw [Array.toList_push] at ht'
    show SegS κ (arrOf st) t.1 (t.1 + t.2.1)
    rcases List.mem_append.mp ht' with ht' | ht'
    · exact sg t ht'
    · rw [List.mem_singleton.mp ht']; exact seg
theorem RunsOk.und {st' : SortSt} {lo : Nat} (h : RunsOk κ st lo) (e : pendingOf st' = pendingOf st) (u : Und (arrOf st) (arrOf st') lo) : RunsOk κ st' lo := by
  obtain ⟨ch, sg⟩ := h
  refine ⟨by rw [e]; exact ch, fun t ht => ?_⟩
  rw [e] at ht
  have q := chain_mem ch t ht
  exact (sg t ht).same fun k _ k2 => u k (by omega)
theorem wpS_sortAll {Q : Unit → SortSt → Prop} (hO : κ.OneLt) (h0 : KeysOf κ a₀) (hB : SB a₀ #[] st) (h2 : 2 ≤ a₀.size)
    (h : ∀ st', (arrOf st').Perm a₀ → failedOf st' = none → SegS κ (arrOf st') 0 a₀.size → Q () st') : wpS (model prog w) A E s sortRuns' Q st := by
  rw [sortRuns'_eq]
  refine wpS_bind (wpS_get ?_)
  dsimp only
  simp only [hB.size]
  refine wpS_bind (wpS_mono (wpS_forRange
    (I := fun x c st' => ∃ lo, c = (none, lo) ∧ x ≤ lo ∧ lo ≤ a₀.size ∧ SB a₀ (pendingOf st') st' ∧ RunsOk κ st' lo)
    (Q := fun c st' => c = (none, a₀.size) ∧ SB a₀ (pendingOf st') st' ∧ RunsOk κ st' a₀.size) ?step ?fin ?init) ?post)
  case init =>
    refine ⟨0, rfl, Nat.le_refl _, Nat.zero_le _, ⟨hB.perm, hB.kind, hB.failed, rfl⟩, ?_, fun t ht => ?_⟩
    · rw [hB.pend]; rfl
    · rw [hB.pend] at ht; exact absurd ht (by simp)
  case fin =>
    rintro c st' ⟨lo, rfl, h1, h3, B, R⟩
    have e : lo = a₀.size := by omega
    subst e
    exact ⟨rfl, B, R⟩
  case step =>
    rintro x c st1 _ hx ⟨lo, rfl, h1, h3, B, R⟩
    dsimp only
    by_cases hge : lo ≥ a₀.size
    · rw [if_pos hge]
      have e : lo = a₀.size := by omega
      subst e
      exact wpS_pure ⟨rfl, B, R⟩
    · rw [if_neg hge]
      refine wpS_bind (wpS_countRunL (lo := lo) hO h0 (by omega) (by omega) B fun m st2 B2 m1 m2 S2 U2 => ?_)
      dsimp only
      have R2 : RunsOk κ st2 lo := R.und B2.pend U2
      generalize hmr : minRun' a₀.size a₀.size 0 = mr
      by_cases hlt : m < mr
      · rw [if_pos hlt]
        refine wpS_bind (wpS_lift (wpAny_rule ⟨rfl, ?_⟩))
        refine wpS_bind (wpS_binarySortL (lo := lo) hO h0 (show lo + min (a₀.size - lo) mr ≤ a₀.size by omega) (by omega) B2 S2 fun st3 B3 S3 U3 => ?_)
        simp only [Bool.not_true, Bool.false_eq_true, if_false]
        have G3 : Good κ a₀ lo (min (a₀.size - lo) mr) st3 := ⟨⟨B3.perm, B3.kind, B3.failed, rfl⟩, R2.und (B3.pend.trans B2.pend.symm) U3, S3⟩
        refine wpS_bind (wpS_get ?_)
        cases hb : (pendingOf st3).back? with
        | none =>
          dsimp only
          exact wpS_bind (wpS_modify (wpS_pure ⟨lo + min (a₀.size - lo) mr, rfl, by omega, by omega, (G3.push (by omega)).1, (G3.push (by omega)).2⟩))
        | some t =>
          obtain ⟨s1, n1, pw1⟩ := t
          dsimp only
          refine wpS_bind (wpS_mono (wpS_forRange (I := fun _ c st' => c = (none, ()) ∧ Good κ a₀ lo (min (a₀.size - lo) mr) st') (Q := fun c st' => c = (none, ()) ∧ Good κ a₀ lo (min (a₀.size - lo) mr) st') ?_ (fun _ _ q => q) ⟨rfl, G3⟩) ?_)
          · rintro y c' st4 _ _ ⟨rfl, G4⟩
            refine wpS_bind (wpS_get ?_)
            by_cases hp : (pendingOf st4).size > 1
            · rw [if_pos hp]
              have g1 : (pendingOf st4)[(pendingOf st4).size - 2]? = some (pendingOf st4)[(pendingOf st4).size - 2] := getElem?_pos _ _ (by omega)
              rw [g1]
              generalize (pendingOf st4)[(pendingOf st4).size - 2] = tt
              obtain ⟨t1, t2, t3⟩ := tt
              dsimp only
              split
              · exact wpS_pure ⟨rfl, G4⟩
              · refine wpS_bind (Good.merge hO h0 G4 (by omega) (by omega) fun st5 G5 _ => ?_)
                simp only [Bool.not_true, Bool.false_eq_true, if_false]
                exact wpS_pure ⟨rfl, G5⟩
            · rw [if_neg hp]
              exact wpS_pure ⟨rfl, G4⟩
          · rintro c' st4 ⟨rfl, G4⟩
            dsimp only
            have G5 := G4.pow (k := (pendingOf st4).size - 1) (f := fun x => (x.1, x.2.1, power' a₀.size (2 * s1 + n1) (2 * s1 + n1 + n1 + (min (a₀.size - lo) mr)) a₀.size)) (fun _ => ⟨rfl, rfl⟩)
            exact wpS_bind (wpS_modify (wpS_bind (wpS_modify (wpS_pure ⟨lo + min (a₀.size - lo) mr, rfl, by omega, by omega, (G5.push (by omega)).1, (G5.push (by omega)).2⟩))))
      · rw [if_neg hlt]
        have G2 : Good κ a₀ lo m st2 := ⟨⟨B2.perm, B2.kind, B2.failed, rfl⟩, R2, S2⟩
        refine wpS_bind (wpS_get ?_)
        cases hb : (pendingOf st2).back? with
        | none =>
          dsimp only
          exact wpS_bind (wpS_modify (wpS_pure ⟨lo + m, rfl, by omega, by omega, (G2.push (by omega)).1, (G2.push (by omega)).2⟩))
        | some t =>
          obtain ⟨s1, n1, pw1⟩ := t
          dsimp only
          refine wpS_bind (wpS_mono (wpS_forRange (I := fun _ c st' => c = (none, ()) ∧ Good κ a₀ lo (m) st') (Q := fun c st' => c = (none, ()) ∧ Good κ a₀ lo (m) st') ?_ (fun _ _ q => q) ⟨rfl, G2⟩) ?_)
          · rintro y c' st4 _ _ ⟨rfl, G4⟩
            refine wpS_bind (wpS_get ?_)
            by_cases hp : (pendingOf st4).size > 1
            · rw [if_pos hp]
              have g1 : (pendingOf st4)[(pendingOf st4).size - 2]? = some (pendingOf st4)[(pendingOf st4).size - 2] := getElem?_pos _ _ (by omega)
              rw [g1]
              generalize (pendingOf st4)[(pendingOf st4).size - 2] = tt
              obtain ⟨t1, t2, t3⟩ := tt
              dsimp only
              split
              · exact wpS_pure ⟨rfl, G4⟩
              · refine wpS_bind (Good.merge hO h0 G4 (by omega) (by omega) fun st5 G5 _ => ?_)
                simp only [Bool.not_true, Bool.false_eq_true, if_false]
                exact wpS_pure ⟨rfl, G5⟩
            · rw [if_neg hp]
              exact wpS_pure ⟨rfl, G4⟩
          · rintro c' st4 ⟨rfl, G4⟩
            dsimp only
            have G5 := G4.pow (k := (pendingOf st4).size - 1) (f := fun x => (x.1, x.2.1, power' a₀.size (2 * s1 + n1) (2 * s1 + n1 + n1 + (m)) a₀.size)) (fun _ => ⟨rfl, rfl⟩)
            exact wpS_bind (wpS_modify (wpS_bind (wpS_modify (wpS_pure ⟨lo + m, rfl, by omega, by omega, (G5.push (by omega)).1, (G5.push (by omega)).2⟩))))
  case post =>
    rintro c st1 ⟨rfl, B, R⟩
    dsimp only
    have G0 : Good κ a₀ a₀.size 0 st1 := ⟨B, R, fun i j _ _ _ => by omega⟩
    refine wpS_bind (wpS_mono (wpS_forRange (I := fun x c st' => c = (none, ()) ∧ Good κ a₀ a₀.size 0 st' ∧ (pendingOf st').size + x ≤ a₀.size + 1)
      (Q := fun c st' => c = (none, ()) ∧ Good κ a₀ a₀.size 0 st' ∧ (pendingOf st').size ≤ 1) ?step2 ?fin2 ⟨rfl, G0, ?_⟩) ?post2)
    case fin2 =>
      rintro c st2 ⟨rfl, G, hz⟩
      exact ⟨rfl, G, by omega⟩
    case step2 =>
      rintro x c st2 _ hx ⟨rfl, G, hz⟩
      refine wpS_bind (wpS_get ?_)
      by_cases hp : (pendingOf st2).size ≤ 1
      · rw [if_pos hp]
        exact wpS_pure ⟨rfl, G, hp⟩
      · rw [if_neg hp]
        refine wpS_bind (Good.merge hO h0 G (by omega) ?_ fun st3 G3 hz3 => ?_)
        · repeat' split
          all_goals omega
        · simp only [Bool.not_true, Bool.false_eq_true, if_false]
          exact wpS_pure ⟨rfl, G3, by omega⟩
    case post2 =>
      rintro c st2 ⟨rfl, G, hz⟩
      refine wpS_pure (h st2 G.sb.perm G.sb.failed ?_)
      obtain ⟨ch, sg⟩ := G.runs
      have hl : (pendingOf st2).toList.length ≤ 1 := by rw [Array.length_toList]; exact hz
      cases e : (pendingOf st2).toList with
      | nil =>
        rw [e] at ch
        have ch' : (0 : Nat) = a₀.size := ch
        omega
      | cons t r =>
        rw [e, List.length_cons] at hl
        have er : r = [] := List.eq_nil_of_length_eq_zero (by omega)
        subst er
        rw [e] at ch
        obtain ⟨c1, c2, c3⟩ := ch
        have c3' : 0 + t.2.1 = a₀.size := c3
        have q := sg t (by rw [e]; exact List.mem_singleton_self _)
        rw [c1, show 0 + t.2.1 = a₀.size from c3'] at q
        exact q
    · have q := chain_le R.1
      rw [Array.length_toList] at q
      omega
end
end Eb

set_option autoImplicit false
set_option maxRecDepth 100000
namespace Eb
open PySem PyProof.Rows
/-! ints as keys -/
@[reducible] def intKind : PyProof.Rows.KeyKind where
  α := Int
  blt a b := decide (a < b)
  irrefl a := by simp
  trans a b c h1 h2 := by simp only [decide_eq_true_eq] at *; omega
  negTrans a b c h := by simp only [decide_eq_true_eq] at *; omega
  total a b h1 h2 := by simp only [decide_eq_false_iff_not] at *; omega
  keyOf v := match v with | .int n _ => some n | _ => none
  dflt := 0
theorem sortedToK_of {κ : PyProof.Rows.KeyKind} {xs : Array Keyed} {n : Nat} (h : SegS κ xs 0 n) : SortedToK κ xs n := fun i j hij hj => h i j (Nat.zero_le _) hij hj
theorem IntsAre.keysOf {vs : List Value} {ns : List Int} (h : IntsAre vs ns) : KeysOf intKind (pairsOf vs) := by
  intro p hp
  rw [pairsOf_toList] at hp
  obtain ⟨n, t, e⟩ := h.all _ (mem_zip_self hp).2
  exact ⟨n, by rw [e]⟩
section
variable {prog : Program} {w : World} {A : Around} {E : Value → Shared → Prop} {s : Shared}
/-- list.sort(), whatever the length -/
theorem list_sort_any {κ : PyProof.Rows.KeyKind} (hO : κ.OneLt) {a : Addr} {vs : List Value} {n : Nat} {P : Fin → Shared → Prop} (ho : s.heap.get? a = some (seqObj "list" vs.toArray n))
    (h0 : KeysOf κ (pairsOf vs)) (hkk : ∀ v₁ v₂ rest, vs = v₁ :: v₂ :: rest → keyKind' (v₁ :: v₂ :: rest).toArray = pure oneType') (hz : vs.length ≤ sizeLine)
    (h : ∀ st' : SortSt, (arrOf st').Perm (pairsOf vs) → SegS κ (arrOf st') 0 (pairsOf vs).size → P (.done (.ret .none)) { s with heap := sortedHeap s.heap a vs ((arrOf st').map (·.2)) }) :
    wpAny (model prog w) A (Builtin.«list.sort» ⟨[.ref a], []⟩) P E s := by
  rw [list_sort_plain]
  have ha : a < s.heap.objs.size := Heap.lt_size ho
  have hsz : vs.toArray.size = vs.length := by simp
  refine wpAny_bind (listItems_at ho rfl ?_)
  refine wpAny_bind (listUpdate_at ho rfl ?_ (by rw [hsz]; exact hz) (Nat.zero_le _))
  obtain ⟨e1, ho1⟩ : ∃ e1, (s.heap.update a (Obj.mapSeq fun _ => #[])).get? a = some (seqObj "list" #[] e1) := ⟨_, get?_update_seq ho (fun _ => #[])⟩
  refine wpAny_bind (seqEpoch_at ho1 rfl ?_)
  refine wpAny_bind (wpAny_newTuple ?_ (by show vs.length ≤ _; exact hz))
  refine wpAny_bind (wpAny_newList ?_ (Nat.zero_le _))
  refine wpAny_holding ?_
  have ho6 : (((s.heap.update a (Obj.mapSeq fun _ => #[])).push (seqObj "tuple" vs.toArray 0)).push (seqObj "list" #[] 0)).get? a = some (seqObj "list" #[] e1) := by
    rw [Heap.get?_push_ne _ _ _ (by rw [size_push', Heap.size_update]; exact Nat.ne_of_lt (Nat.lt_succ_of_lt ha)), Heap.get?_push_ne _ _ _ (by rw [Heap.size_update]; exact Nat.ne_of_lt ha)]
    exact ho1
  show wpAny (model prog w) A _ P E { s with heap := ((s.heap.update a (Obj.mapSeq fun _ => #[])).push (seqObj "tuple" vs.toArray 0)).push (seqObj "list" #[] 0) }
  dsimp only
  by_cases h2 : vs.toArray.size < 2
  · rw [if_pos h2, if_pos h2]
    refine wpAny_bind (wpAny_pure ?_)
    rw [StateT.run_pure]
    refine wpAny_bind (wpAny_pure ?_)
    dsimp only
    refine wpAny_bind (seqEpoch_at ho6 rfl ?_)
    refine wpAny_bind (listUpdate_at ho6 rfl ?_ (Nat.zero_le _) (hsz2 := by rw [Array.size_map]; show (pairsOf vs).size ≤ _; rw [pairsOf_size, sizeLine_eq]; omega))
    simp only [bne_self_eq_false, Bool.false_eq_true, if_false]
    refine wpAny_pure (h (SortSt.mk' general' (vs.toArray.zip vs.toArray) #[] 7 none) (Array.Perm.refl _) ?_)
    intro i j _ hij hj
    have : i = j := by rw [pairsOf_size] at hj; omega
    subst this; exact KeyOrd.kle_refl _
  · rw [if_neg h2, if_neg h2]
    obtain ⟨v₁, v₂, rest, rfl⟩ : ∃ v₁ v₂ rest, vs = v₁ :: v₂ :: rest := by
      match vs, hsz, h2 with
      | [], _, h2 => simp at h2
      | [_], _, h2 => simp at h2
      | v₁ :: v₂ :: rest, _, _ => exact ⟨v₁, v₂, rest, rfl⟩
    rw [hkk _ _ _ rfl]
    refine wpAny_bind (wpAny_pure ?_)
    refine wpAny_bind (wpAny_mono (wpS_sortAll (κ := κ) hO (a₀ := pairsOf (v₁ :: v₂ :: rest)) (st := SortSt.mk' oneType' ((v₁ :: v₂ :: rest).toArray.zip (v₁ :: v₂ :: rest).toArray) #[] 7 none)
      (Q := fun _ st' => (arrOf st').Perm (pairsOf (v₁ :: v₂ :: rest)) ∧ failedOf st' = none ∧ SegS κ (arrOf st') 0 (pairsOf (v₁ :: v₂ :: rest)).size)
      h0 ⟨Array.Perm.refl _, rfl, rfl, rfl⟩ (by rw [pairsOf_size]; simp) fun st' a1 a2 a3 => ⟨a1, a2, a3⟩) ?_ fun _ _ e => e)
    rintro ⟨⟨⟩, st'⟩ s' ⟨rfl, hp, hf, hs⟩
    dsimp only
    refine wpAny_bind (seqEpoch_at ho6 rfl ?_)
    refine wpAny_bind (listUpdate_at ho6 rfl ?_ (Nat.zero_le _) (hsz2 := by refine Nat.le_trans (Nat.le_of_eq ((Array.size_map ..).trans (hp.size_eq.trans (pairsOf_size _)))) ?_; exact Nat.le_succ_of_le hz))
    rw [hf]
    simp only [bne_self_eq_false, Bool.false_eq_true, if_false]
    exact wpAny_pure (h st' hp hs)
/-- collect of a range -/
theorem collect_range {r : Addr} {a b c : Int} {t u v : Tok} {n : Nat} {Q : List Value → Shared → Prop} (hh : A.handled = none) (hr : IsRange s.heap r a b c t u v) (hsmall : Builtin.Range.small a b c = true)
    (hn : Builtin.Range.rangeSize a b c = n) (hlen : n ≤ 2 ^ 24)
    (h : ∀ h' tk acc, s.heap.objs.size ≤ h'.objs.size → (∀ b o, s.heap.get? b = some o → h'.get? b = some o) → ItemsOf (fun i v => ∃ t, v = .int (a + i * c) t) acc n → Q acc.toList { s with heap := h', toks := tk }) :
    wpAny (model prog w) A (collect (.ref r)) Q E s := by
  unfold collect
  refine wpAny_bind (wpAny_runValue (codeAny_builtin F.entry_proto_collect ?_))
  rw [Around.under_plainId F.plain_proto_collect _]
  show wpAny _ A.in1 (newList [] >>= fun l => again (.builtin "list.__iadd__" ⟨[l, .ref r], []⟩)) _ _ s
  refine wpAny_bind (wpAny_newObj_type ?_)
  refine wpAny_pure ⟨plainId_quiet F.plain_list_iadd _, codeAny_builtin F.entry_list_iadd ?_⟩
  rw [Around.under_plainId F.plain_list_iadd _]
  have hS₁ : (s.heap.push { cls := .type "list", data := .seq ([] : List Value).toArray }).get? s.heap.objs.size = some { cls := .type "list", data := .seq ([] : List Value).toArray } := Heap.get?_push_size _ rfl
  show wpAny _ A.in1 (Builtin.List.listExtendWith (.ref s.heap.objs.size) (.ref r) (.ref s.heap.objs.size)) _ _ _
  have q := wpAny_extend_range (prog := prog) (w := w) (A := A) (s := { s with heap := s.heap.push { cls := .type "list", data := .seq ([] : List Value).toArray } })
    (R := fun r s' => r = .ok (.ret (.ref s.heap.objs.size)) ∧ wpAny (model prog w) A (load s.heap.objs.size >>= fun o => match o.data with | .seq xs _ => pure xs.toList | _ => unsupported "internal:collect") Q E s')
    hh (Heap.get?_push_of_some _ hr) hsmall hn hlen s.heap.objs.size (.ref s.heap.objs.size) _ hS₁ fun h' tk acc' c' hk hS' hacc => ⟨rfl, wpAny_bind (wpAny_load hS' (wpAny_pure (h h' tk acc' (Nat.le_of_lt (Heap.lt_size hS')) (fun b o e => hk b o (Nat.ne_of_lt (Heap.lt_size e)) (Heap.get?_push_of_some _ e)) hacc)))⟩
  refine wpAny_mono q (fun fin s' z => ?_) (fun e s' z => ?_)
  · cases fin with
    | done f =>
      obtain ⟨e, z⟩ := z
      cases e
      exact z
    | again c' =>
      refine ⟨z.1, codeAny_mono z.2 fun r s' z => ?_⟩
      obtain ⟨rfl, z⟩ := z
      exact z
  · obtain ⟨e, _⟩ := z
    cases e
end
end Eb

set_option autoImplicit false
namespace Eb
open PySem PySem.Builtin PySem.Builtin.Str
/-! pieces of a text, over its codes -/
def six (n d : Nat) : Option Int → Nat
  | none => d
  | some v => if v < 0 then (v + (n : Int)).toNat else min v.toNat n
theorem six_le (n d : Nat) (hd : d ≤ n) (o : Option Int) : six n d o ≤ n := by
  cases o with
  | none => exact hd
  | some v =>
    unfold six
    dsimp only
    by_cases hv : v < 0
    · rw [if_pos hv]; omega
    · rw [if_neg hv]; exact Nat.min_le_right _ _
theorem six_nat (n d k : Nat) : six n d (some (k : Int)) = min k n := by
  unfold six
  dsimp only
  rw [if_neg (by omega), Int.toNat_natCast]
def cutL {α : Type} (l : List α) (lo hi : Option Int) : List α := (l.drop (six l.length 0 lo)).take (six l.length l.length hi - six l.length 0 lo)
theorem clip1 (v : Int) (n : Nat) (d : Nat) : max 0 (min (if v < 0 then v + (n : Int) else v) (n : Int)) = ((six n d (some v) : Nat) : Int) := by
  unfold six
  by_cases hv : v < 0
  · simp only [if_pos hv]; omega
  · simp only [if_neg hv]; omega
theorem idx_eq (lo hi : Option Int) (n : Nat) : strSliceIndices lo hi 1 n = (List.range (six n n hi - six n 0 lo)).map (fun k => six n 0 lo + k) := by
  have core : ∀ a b : Nat, sliceRange (a : Int) (b : Int) 1 = (List.range (b - a)).map (fun k => a + k) := fun a b => by
    unfold sliceRange
    have e : (if (1 : Int) > 0 then (if (a : Int) < (b : Int) then ((b : Int) - (a : Int) + 1 - 1) / 1 else 0) else (if (a : Int) > (b : Int) then ((a : Int) - (b : Int) - 1 - 1) / (-1) else 0)).toNat = b - a := by
      simp only [show (1 : Int) > 0 by decide, if_true, Int.ediv_one]
      split <;> omega
    dsimp only
    rw [e]
    apply List.map_congr_left
    intro k _
    omega
  rw [← core]
  unfold strSliceIndices
  dsimp only
  have two : ∀ a b a' b' : Int, a = a' → b = b' → sliceRange a b 1 = sliceRange a' b' 1 := fun a b a' b' h1 h2 => by rw [h1, h2]
  refine two _ _ _ _ ?_ ?_
  · cases lo with
    | none => rfl
    | some v => simp only [show (1 : Int) > 0 by decide, if_true]; exact clip1 v n 0
  · cases hi with
    | none => rfl
    | some v => simp only [show (1 : Int) > 0 by decide, if_true]; exact clip1 v n n
theorem pick_eq {α : Type} (xs : Array α) (a m : Nat) (h : a + m ≤ xs.size) : ((List.range m).map (fun k => a + k)).filterMap (fun i => xs[i]?) = (xs.toList.drop a).take m := by
  induction m with
  | zero => simp
  | succ m ih =>
    rw [List.range_succ, List.map_append, List.filterMap_append, ih (by omega)]
    have e : xs[a + m]? = some xs[a + m] := getElem?_pos xs (a + m) (by omega)
    simp only [List.map_cons, List.map_nil, List.filterMap_cons, List.filterMap_nil, e]
    rw [List.take_add_one, List.getElem?_drop, Array.getElem?_toList, e]
    rfl
theorem slice_cps (x : Str) (lo hi : Option Int) : (Txt.slice x lo hi).cps.toList = cutL x.cps.toList lo hi := by
  have hl : x.cps.toList.length = x.length := Array.length_toList
  have ha := six_le x.length 0 (Nat.zero_le _) lo
  have hb := six_le x.length x.length (Nat.le_refl _) hi
  unfold Txt.slice cutL
  rw [idx_eq, hl]
  by_cases c : six x.length x.length hi - six x.length 0 lo = x.length
  · rw [if_pos (by simpa using c)]
    by_cases h0 : x.length = 0
    · have e : x.cps.toList = [] := List.eq_nil_of_length_eq_zero (by omega)
      rw [e]; simp
    · have e0 : six x.length 0 lo = 0 := by omega
      rw [e0, List.drop_zero, List.take_of_length_le (by omega)]
  · rw [if_neg (by simpa using c)]
    show (((List.range _).map _).filterMap _).toArray.toList = _
    by_cases hab : six x.length 0 lo ≤ six x.length x.length hi
    · rw [List.toList_toArray, pick_eq _ _ _ (by show _ ≤ x.length; omega)]
    · have e : six x.length x.length hi - six x.length 0 lo = 0 := by omega
      rw [e]; simp
end Eb

set_option autoImplicit false
set_option maxRecDepth 100000
namespace L2
open PySem PySem.Spec PyProof.Rows
section
variable {X : Cx}
/-! texts -/
theorem sl_str : SlR X (fun x lo hi H Q => ∃ z, x = .str z ∧ z.length ≤ sizeLine ∧ Q (.str (Txt.slice z lo hi)) H) := by
  intro pins s σ H x v vl vu lo hi sl Q I rx hs pl pu h
  obtain ⟨z, rfl, hz, q⟩ := h
  obtain ⟨t, rfl⟩ := rx
  refine ⟨"str", _, F.slot_str_getitem.lookup, typeIs_str _ _ _, ?_⟩
  have fin : ∀ t' k, EP X pins σ Q (.str (Txt.slice z lo hi) t') { s with toks := k } := fun t' k => ⟨.str _, H, I.tok _, ⟨t', rfl⟩, q⟩
  have hle := Nat.le_trans (Txt.slice_le z lo hi) hz
  cases pl with
  | none =>
    cases pu with
    | none => exact wpAny_getItem_str_slice (l := none) (u := none) (st := none) hs rfl (post_val_or_str ⟨hle, fin⟩)
    | int j tj => exact wpAny_getItem_str_slice (l := none) (u := some (j, tj)) (st := none) hs rfl (post_val_or_str ⟨hle, fin⟩)
  | int i ti =>
    cases pu with
    | none => exact wpAny_getItem_str_slice (l := some (i, ti)) (u := none) (st := none) hs rfl (post_val_or_str ⟨hle, fin⟩)
    | int j tj => exact wpAny_getItem_str_slice (l := some (i, ti)) (u := some (j, tj)) (st := none) hs rfl (post_val_or_str ⟨hle, fin⟩)
/-! isinstance -/
theorem call_isinst : CallR X (.builtin "isinstance") (fun xs H Q => ∃ x c t b, xs = [x, .ty c] ∧ TyOf X.K H x t ∧ PySem.W.kitOne X.K t (.type c) = some b ∧ Q (.bl b) H) := by
  intro pins s σ H xs us Q I r h
  obtain ⟨x, c, t, b, rfl, ty, e, q⟩ := h
  obtain ⟨u, w', rfl, rx, rc⟩ := vals2 r
  cases (show w' = Value.type c from rc)
  exact isinst_ok I rx ty e fun tk => ⟨.bl b, H, I.tok tk, rfl, q⟩
/-! sorted of ints, of texts -/
theorem vals_strs : ∀ {vs : List Value} {ss : List Str}, StrsAre vs ss → Vals (ss.map V.str) vs
  | _, _, .nil => .nil
  | _, _, .cons x t h => .cons ⟨t, rfl⟩ (vals_strs h)
/-! lists of flat values compared -/
def eqVs (xs ys : List V) : Bool := xs.length == ys.length && (List.range xs.length).all fun j => eqV (xs.getD j .non) (ys.getD j .non)
theorem Vals.at {xs : List V} {us : List Value} (r : Vals xs us) {j : Nat} (h : j < us.length) : RelV (xs.getD j .non) us[j] := by
  have hl := r.length
  have hx : xs[j]? = some xs[j] := List.getElem?_eq_getElem (by omega)
  obtain ⟨u, e, q⟩ := r.get hx
  have e' : us[j]? = some us[j] := List.getElem?_eq_getElem h
  rw [e'] at e; cases e
  rw [List.getD_eq_getElem?_getD, hx]
  exact q
theorem flat_at {xs : List V} (f : xs.all flatV = true) (j : Nat) : flatV (xs.getD j .non) = true := by
  rw [List.getD_eq_getElem?_getD]
  cases e : xs[j]? with
  | none => rfl
  | some x => exact List.all_eq_true.mp f x (List.mem_of_getElem? e)
end
end L2

set_option autoImplicit false
set_option maxRecDepth 100000
set_option maxHeartbeats 4000000
namespace L2
open PySem PySem.Spec PyProof.Rows
/-! a state within one call, seen from the state s ahead of it -/
structure Mid (X : Cx) (H : Hp) (s s' : Shared) : Prop where
  os : s'.os = s.os
  bare : AllBare s'.gens
  un : Un (frs X.stack) [] H H s.heap s'.heap
  hok : HOk X.prog X.w H s'.heap
section
variable {X : Cx} {pins : List (Addr × Obj)} {σ : St} {H : Hp} {s s' s'' : Shared}
theorem Mid.start (I : Inv X pins σ H s) : Mid X H s s := ⟨rfl, I.bare, Un.refl, I.hok⟩
theorem Mid.inv (I : Inv X pins σ H s) (m : Mid X H s s') : Inv X pins σ H s' := I.call' m.os m.un m.hok m.bare (fun _ z => nomatch z)
theorem Mid.trans (m : Mid X H s s') (m' : Mid X H s' s'') : Mid X H s s'' := ⟨m'.os.trans m.os, m'.bare, m.un.trans m'.un, m'.hok⟩
/-- objects that are younger than s may change -/
theorem Mid.touch (I : Inv X pins σ H s) (m : Mid X H s s') {h' : Heap} {tk : Nat} (k : ∀ b o, b < s.heap.objs.size → s'.heap.get? b = some o → h'.get? b = some o) : Mid X H s { s' with heap := h', toks := tk } := by
  refine ⟨m.os, m.bare, ⟨fun b o q n hb hx => k b o (Heap.lt_size q) (m.un.keep b o q n hb hx), fun b o q n hb hx => ?_, m.un.free, fun b o q hx => ?_, m.un.tups, m.un.frzs, m.un.tbls⟩, fun b u e => ?_⟩
  · obtain ⟨sl, e⟩ := m.un.slot b o q n hb hx
    exact ⟨sl, k b _ (Heap.lt_size q) e⟩
  · obtain ⟨o', e⟩ := m.un.there b o q hx
    exact ⟨o', k b o' (Heap.lt_size q) e⟩
  · refine (m.hok b u e).stay (fun c v hc q => k c v ?_ q) (fun _ q => q) fun _ _ q => q
    rcases hc with z | z
    · rw [z]; exact I.hok.lt e
    · exact I.hok.lt z
theorem Mid.kept (I : Inv X pins σ H s) (m : Mid X H s s') {h' : Heap} {tk : Nat} (k : ∀ b o, s'.heap.get? b = some o → h'.get? b = some o) : Mid X H s { s' with heap := h', toks := tk } := m.touch I fun b o _ e => k b o e
/-- the end: one object of the call's own is handed on -/
theorem Mid.fin (I : Inv X pins σ H s) (m : Mid X H s s') {a : Addr} {o : HO} {Q : VK} (ha : s.heap.objs.size ≤ a) (new : ObjOk X.prog X.w (upd H a o) s'.heap a o) (q : Q (.ref a) (upd H a o)) : EP X pins σ Q (.ref a) s' := by
  have hn : H a = none := I.hok.fresh ha
  refine I.after ⟨.ref a, upd H a o, m.os, m.bare, ⟨m.un.keep, m.un.slot, fun b u e n hx => ?_, m.un.there, fun b xs e => ?_, fun b u xs e => ?_, fun b ps e => ?_⟩, fun b u e => ?_, rfl, q⟩
  · rw [upd_ne (Nat.ne_of_lt (Nat.lt_of_lt_of_le (Heap.lt_size e) ha))]; exact n
  · rw [upd_ne (ne_of_none e hn)]; exact e
  · rw [upd_ne (ne_of_none e hn)]; exact e
  · exact ⟨#[], by rw [upd_ne (ne_of_none e hn), e]; simp⟩
  · by_cases hb : b = a
    · subst hb; rw [upd_same] at e; cases e; exact new
    · rw [upd_ne hb] at e
      exact (m.hok b u e).stay (fun _ _ _ q => q) (fun c q => by rw [upd_ne (ne_of_none q hn)]; exact q) fun c xs q => by rw [upd_ne (ne_of_none q hn)]; exact q
theorem Inv.nostk (I : Inv X pins σ H s) {a : Addr} (ha : s.heap.objs.size ≤ a) : a ∉ frs X.stack := fun hb => by
  rcases List.mem_cons.mp (I.stkSub a hb) with e | e
  · exact absurd (Nat.lt_of_lt_of_le I.lt ha) (by rw [e]; exact Nat.lt_irrefl _)
  · exact I.nofs ha e
/-! sorted(.., key=f) with texts as keys -/
/-- what f answers at the numbers below n -/
def KeyFn (X : Cx) (pins : List (Addr × Obj)) (σ : St) (H : Hp) (f : Addr) (n : Nat) (g : Nat → Str) : Prop :=
  ∀ (s' : Shared) (i : Nat) (t : Tok), Inv X pins σ H s' → i < n → wpAny (model X.prog X.w) X.A.in1.in1 (call (.ref f) [.int i t]) (fun u s'' => (∃ t', u = .str (g i) t') ∧ Mid X H s' s'') (fun _ _ => False) s'
def KeysTo (g : Nat → Str) (kA : Array Value) (n : Nat) : Prop := kA.size = n ∧ ∀ j, j < n → ∃ t, kA[j]? = some (.str (g j) t)
def NumsTo (vs : List Value) (n : Nat) : Prop := vs.length = n ∧ ∀ j, j < n → ∃ t, vs[j]? = some (.int j t)
theorem KeysTo.push {g : Nat → Str} {kA : Array Value} {n : Nat} {t : Tok} (h : KeysTo g kA n) : KeysTo g (kA.push (.str (g n) t)) (n + 1) := by
  refine ⟨by rw [Array.size_push, h.1], fun j hj => ?_⟩
  by_cases e : j = n
  · subst e
    refine ⟨t, ?_⟩
    rw [Array.getElem?_push, if_pos h.1.symm]
  · obtain ⟨t', q⟩ := h.2 j (by omega)
    refine ⟨t', ?_⟩
    rw [Array.getElem?_push, if_neg (by rw [h.1]; exact e)]
    exact q
theorem KeysTo.strs {g : Nat → Str} {kA : Array Value} {n : Nat} (h : KeysTo g kA n) : StrsAre kA.toList (kA.toList.map strOf) := strsAre_map _ fun v hv => by
  obtain ⟨j, e⟩ := List.mem_iff_getElem?.mp hv
  have hj := (List.getElem?_eq_some_iff.mp e).1
  rw [Array.length_toList, h.1] at hj
  obtain ⟨t, q⟩ := h.2 j hj
  rw [Array.getElem?_toList, q] at e
  exact ⟨g j, t, (Option.some.inj e).symm⟩
theorem KeysTo.kind {g : Nat → Str} {kA : Array Value} {n : Nat} (h : KeysTo g kA n) (h2 : 2 ≤ n) : keyKind' kA = pure oneType' := by
  have hs := h.strs
  have hl : kA.toList.length = n := by rw [Array.length_toList]; exact h.1
  rw [show kA = kA.toList.toArray from (Array.toArray_toList).symm]
  cases e : kA.toList with
  | nil => rw [e] at hl; simp at hl; omega
  | cons v₁ r =>
    cases r with
    | nil => rw [e] at hl; simp at hl; omega
    | cons v₂ rest => rw [e] at hs; exact keyKind_strs hs
theorem zip_mem {g : Nat → Str} {kA : Array Value} {vs : List Value} {n : Nat} (hk : KeysTo g kA n) (hv : NumsTo vs n) {p : Keyed} (hp : p ∈ (kA.zip vs.toArray).toList) : ∃ j t t', j < n ∧ p = (.str (g j) t, .int j t') := by
  rw [ksk_zip] at hp
  obtain ⟨j, e⟩ := List.mem_iff_getElem?.mp hp
  obtain ⟨a, b⟩ := p
  rw [List.getElem?_zip_eq_some] at e
  have hj := (List.getElem?_eq_some_iff.mp e.2).1
  rw [hv.1] at hj
  obtain ⟨t, q⟩ := hk.2 j hj
  obtain ⟨t', q'⟩ := hv.2 j hj
  have e1 := e.1
  have e2 := e.2
  rw [Array.getElem?_toList, q] at e1
  rw [q'] at e2
  exact ⟨j, t, t', hj, Prod.ext (Option.some.inj e1).symm (Option.some.inj e2).symm⟩
def numP (p : Keyed) : Nat := (numOf p.2).toNat
/-- what comes out -/
def KeyOut (g : Nat → Str) (n : Nat) (out : List Value) : Prop := ∃ ms : List Nat, Vals (ms.map fun (i : Nat) => V.int (i : Int)) out ∧ ms.Perm (List.range n) ∧ ms.Pairwise fun i j => ¬ (g j).cps.toList < (g i).cps.toList
theorem keyOut_of {g : Nat → Str} {kA : Array Value} {vs : List Value} {n : Nat} (hk : KeysTo g kA n) (hv : NumsTo vs n) {xs : Array Keyed} (hp : xs.Perm (kA.zip vs.toArray)) (hs : Eb.SegS strKind xs 0 xs.size) : KeyOut g n (xs.map (·.2)).toList := by
  have hl : xs.toList.Perm (kA.zip vs.toArray).toList := Array.perm_iff_toList_perm.mp hp
  have mem : ∀ p ∈ xs.toList, ∃ j t t', j < n ∧ p = (.str (g j) t, .int j t') := fun p h => zip_mem hk hv (hl.mem_iff.mp h)
  refine ⟨xs.toList.map numP, ?_, ?_, ?_⟩
  · rw [Array.toList_map, List.map_map]
    clear hl hs hp
    generalize xs.toList = l at mem
    induction l with
    | nil => exact .nil
    | cons p l ih =>
      obtain ⟨j, t, t', _, e⟩ := mem p List.mem_cons_self
      refine .cons ⟨t', ?_⟩ (ih fun q hq => mem q (List.mem_cons_of_mem _ hq))
      subst e
      rfl
  · refine (hl.map numP).trans (List.Perm.of_eq ?_)
    rw [ksk_zip]
    apply List.ext_getElem?
    intro j
    rw [List.getElem?_map]
    by_cases hj : j < n
    · obtain ⟨t, q⟩ := hk.2 j hj
      obtain ⟨t', q'⟩ := hv.2 j hj
      have e : (kA.toList.zip vs)[j]? = some (.str (g j) t, .int j t') := by
        rw [List.getElem?_zip_eq_some]
        exact ⟨by rw [Array.getElem?_toList]; exact q, q'⟩
      rw [e, List.getElem?_range hj]
      rfl
    · rw [List.getElem?_eq_none (by rw [List.length_zip, Array.length_toList, hk.1, hv.1]; omega), List.getElem?_eq_none (by rw [List.length_range]; omega)]
      rfl
  · rw [List.pairwise_map, List.pairwise_iff_getElem]
    intro i j hi hj hij
    have hi' : i < xs.size := by simpa using hi
    have hj' : j < xs.size := by simpa using hj
    have q := hs i j (Nat.zero_le _) (Nat.le_of_lt hij) hj'
    rw [Eb.KK_kf (getElem?_pos xs i hi'), Eb.KK_kf (getElem?_pos xs j hj')] at q
    obtain ⟨a, t, t', _, ea⟩ := mem xs[i] (by simp)
    obtain ⟨b, u, u', _, eb⟩ := mem xs[j] (by simp)
    rw [ea, eb] at q
    rw [Array.getElem_toList, Array.getElem_toList, ea, eb]
    have q' : decide ((g b).cps.toList < (g a).cps.toList) = false := q
    exact of_decide_eq_false q'
theorem key_tail {E : Value → Shared → Prop} {P : PySem.Fin → Shared → Prop} {a kS : Addr} {e e1 n : Nat} {g : Nat → Str} {kA : Array Value} {vs : List Value} {st : SortSt} (I : Inv X pins σ H s) (m : Mid X H s s') (ha : s.heap.objs.size ≤ a) (hkS : s.heap.objs.size ≤ kS) (hne : kS ≠ a)
    (oa : s'.heap.get? a = some (seqObj "list" #[] e1)) (ok : s'.heap.get? kS = some (seqObj "list" kA e)) (hk : KeysTo g kA n) (hv : NumsTo vs n) (hz : n ≤ sizeLine)
    (hp : (arrOf st).Perm (kA.zip vs.toArray)) (hs : Eb.SegS strKind (arrOf st) 0 (arrOf st).size) (hfl : failedOf st = none)
    (h : ∀ s2 out c, Mid X H s s2 → s2.heap.get? a = some (seqObj "list" out c) → KeyOut g n out.toList → P (.done (.ret .none)) s2) :
    wpAny (model X.prog X.w) X.A.in1.in1 (ksk_tail a false e1 (.ref kS) st) P E s' := by
  have hzs : (kA.zip vs.toArray).size = n := by rw [Array.size_zip, hk.1, List.size_toArray, hv.1, Nat.min_self]
  have hsz : ((arrOf st).map (·.2)).size = n := by rw [Array.size_map, hp.size_eq, hzs]
  have na1 : (s'.heap.update kS (Obj.mapSeq fun _ => (#[] : Array Value))).get? a = some (seqObj "list" #[] e1) := (Heap.get?_update_ne _ _ _ _ hne.symm).trans oa
  unfold ksk_tail
  dsimp only
  refine wpAny_bind (listUpdate_at ok rfl ?_ (by rw [hk.1]; exact hz) (Nat.zero_le _))
  refine wpAny_bind (wpAny_letGo ?_)
  refine wpAny_bind (seqEpoch_at na1 rfl ?_)
  refine wpAny_bind (listUpdate_at na1 rfl ?_ (Nat.zero_le _) (by simp only [Bool.false_eq_true, if_false]; rw [hsz]; exact Nat.le_succ_of_le hz))
  rw [hfl]
  simp only [bne_self_eq_false, Bool.false_eq_true, if_false]
  obtain ⟨c2, hc2⟩ : ∃ c2, ((s'.heap.update kS (Obj.mapSeq fun _ => (#[] : Array Value))).update a (Obj.mapSeq fun _ => (arrOf st).map (·.2))).get? a = some (seqObj "list" ((arrOf st).map (·.2)) c2) := ⟨_, get?_update_seq na1 fun _ => (arrOf st).map (·.2)⟩
  refine wpAny_pure (h _ _ c2 (m.touch (tk := s'.toks) I fun b o hb e' => ?_) hc2 (keyOut_of hk hv hp hs))
  rw [Heap.get?_update_ne _ _ _ _ (Nat.ne_of_lt (Nat.lt_of_lt_of_le hb ha)), Heap.get?_update_ne _ _ _ _ (Nat.ne_of_lt (Nat.lt_of_lt_of_le hb hkS))]
  exact e'
theorem key_end {E : Value → Shared → Prop} {P : PySem.Fin → Shared → Prop} {a kS : Addr} {e e1 n : Nat} {g : Nat → Str} {kA : Array Value} {vs : List Value} (I : Inv X pins σ H s) (m : Mid X H s s') (ha : s.heap.objs.size ≤ a) (hkS : s.heap.objs.size ≤ kS) (hne : kS ≠ a)
    (oa : s'.heap.get? a = some (seqObj "list" #[] e1)) (ok : s'.heap.get? kS = some (seqObj "list" kA e)) (hk : KeysTo g kA n) (hv : NumsTo vs n) (hz : n ≤ sizeLine)
    (h : ∀ s2 out c, Mid X H s s2 → s2.heap.get? a = some (seqObj "list" out c) → KeyOut g n out.toList → P (.done (.ret .none)) s2) :
    wpAny (model X.prog X.w) X.A.in1.in1 (ksk_end a false vs.toArray e1 (.ref kS) kA) P E s' := by
  have hzs : (kA.zip vs.toArray).size = n := by rw [Array.size_zip, hk.1, List.size_toArray, hv.1, Nat.min_self]
  unfold ksk_end
  simp only [Bool.false_eq_true, if_false]
  by_cases h2 : vs.toArray.size < 2
  · rw [if_pos h2, if_pos h2]
    refine wpAny_bind (wpAny_pure ?_)
    rw [StateT.run_pure]
    refine wpAny_bind (wpAny_pure ?_)
    dsimp only
    refine key_tail (st := SortSt.mk' general' (kA.zip vs.toArray) #[] 7 none) I m ha hkS hne oa ok hk hv hz (Array.Perm.refl _) ?_ rfl h
    intro i j _ hij hj
    have hj2 : j < (kA.zip vs.toArray).size := hj
    rw [hzs] at hj2
    rw [List.size_toArray, hv.1] at h2
    have : i = j := by omega
    subst this
    exact KeyOrd.kle_refl _
  · rw [if_neg h2, if_neg h2]
    rw [List.size_toArray, hv.1] at h2
    rw [hk.kind (by omega)]
    refine wpAny_bind (wpAny_pure ?_)
    have h0 : KeysOf strKind (kA.zip vs.toArray) := fun p hp => by
      obtain ⟨j, t, t', _, e⟩ := zip_mem hk hv hp
      exact ⟨(g j).cps.toList, by rw [e]⟩
    refine wpAny_bind (wpAny_mono (Eb.wpS_sortAll (κ := strKind) strKind_oneLt (a₀ := kA.zip vs.toArray) (st := SortSt.mk' oneType' (kA.zip vs.toArray) #[] 7 none)
      (Q := fun _ st' => (arrOf st').Perm (kA.zip vs.toArray) ∧ failedOf st' = none ∧ Eb.SegS strKind (arrOf st') 0 (kA.zip vs.toArray).size)
      h0 ⟨Array.Perm.refl _, rfl, rfl, rfl⟩ (by rw [hzs]; omega) fun st' a1 a2 a3 => ⟨a1, a2, a3⟩) ?_ fun _ _ e => e)
    rintro ⟨⟨⟩, st'⟩ s2 ⟨rfl, hp, hf, hs⟩
    dsimp only
    exact key_tail I m ha hkS hne oa ok hk hv hz hp (by rw [hp.size_eq]; exact hs) hf h
theorem key_rest {E : Value → Shared → Prop} {P : PySem.Fin → Shared → Prop} {a kS f : Addr} {e1 n : Nat} {g : Nat → Str} {vs : List Value} (I : Inv X pins σ H s) (m : Mid X H s s') (ha : s.heap.objs.size ≤ a) (hkS : s.heap.objs.size ≤ kS) (hne : kS ≠ a)
    (oa : s'.heap.get? a = some (seqObj "list" #[] e1)) (ok : s'.heap.get? kS = some (seqObj "list" #[] 0)) (hv : NumsTo vs n) (hz : n ≤ sizeLine) (KF : KeyFn X pins σ H f n g)
    (h : ∀ s2 out c, Mid X H s s2 → s2.heap.get? a = some (seqObj "list" out c) → KeyOut g n out.toList → P (.done (.ret .none)) s2) :
    wpAny (model X.prog X.w) X.A.in1.in1 (ksk_rest a (.ref f) false vs.toArray e1 (.ref kS)) P E s' := by
  have Ha : H a = none := I.hok.fresh ha
  have HkS : H kS = none := I.hok.fresh hkS
  unfold ksk_rest
  refine wpAny_bind (wpAny_rule ?_)
  first
    | rw [List.forIn_toArray]
    | (rw [← Array.forIn_toList]; simp only [List.toList_toArray])
    | rw [← Array.forIn_toList]
  refine wpAny_bind (ksk_fold (fun i s2 => Mid X H s s2 ∧ s2.heap.get? a = some (seqObj "list" #[] e1) ∧ ∃ kA e, s2.heap.get? kS = some (seqObj "list" kA e) ∧ KeysTo g kA i) vs 0 s'
    ⟨m, oa, #[], 0, ok, rfl, fun j hj => absurd hj (Nat.not_lt_zero _)⟩ ?step ?done)
  case step =>
    rintro j x s2 hx ⟨m2, oa2, kA, e, ok2, hk⟩
    simp only [Nat.zero_add] at hk ⊢
    have hj : j < n := by rw [← hv.1]; exact (List.getElem?_eq_some_iff.mp hx).1
    obtain ⟨t, q⟩ := hv.2 j hj
    rw [hx] at q
    cases q
    refine wpAny_bind (wpAny_attempt (wpAny_mono (KF s2 j t (m2.inv I) hj) (fun u s3 he => ?_) fun _ _ hF => hF.elim))
    obtain ⟨⟨t', rfl⟩, m3⟩ := he
    dsimp only
    have oa3 := m3.un.keep a _ oa2 Ha (I.nostk ha) (by simp)
    have ok3 := m3.un.keep kS _ ok2 HkS (I.nostk hkS) (by simp)
    obtain ⟨c2, hc2⟩ : ∃ c2, (s3.heap.update kS (Obj.mapSeq (·.push (.str (g j) t')))).get? kS = some (seqObj "list" (kA.push (.str (g j) t')) c2) := ⟨_, get?_update_seq ok3 (·.push (.str (g j) t'))⟩
    refine wpAny_bind (listUpdate_at ok3 rfl ?_ (by rw [hk.1]; omega) (Nat.le_trans (Nat.le_of_eq (Array.size_push ..)) (by rw [hk.1]; omega)))
    refine wpAny_pure ⟨rfl, (m2.trans m3).touch (tk := s3.toks) I fun b o hb e' => ?_, ?_, kA.push (.str (g j) t'), c2, hc2, hk.push⟩
    · rw [Heap.get?_update_ne _ _ _ _ (Nat.ne_of_lt (Nat.lt_of_lt_of_le hb hkS))]; exact e'
    · exact (Heap.get?_update_ne _ _ _ _ hne.symm).trans oa3
  case done =>
    rintro s2 ⟨m2, oa2, kA, e, ok2, hk⟩
    rw [Nat.zero_add, hv.1] at hk
    refine wpAny_bind (listItems_at ok2 rfl ?_)
    exact key_end I m2 ha hkS hne oa2 ok2 hk hv hz h
theorem key_sort {E : Value → Shared → Prop} {P : PySem.Fin → Shared → Prop} {a f : Addr} {e0 n : Nat} {g : Nat → Str} {vs : List Value} (I : Inv X pins σ H s) (m : Mid X H s s') (ha : s.heap.objs.size ≤ a)
    (oa : s'.heap.get? a = some (seqObj "list" vs.toArray e0)) (hsz : s.heap.objs.size ≤ s'.heap.objs.size) (hv : NumsTo vs n) (hz : n ≤ sizeLine) (KF : KeyFn X pins σ H f n g)
    (h : ∀ s2 out c, Mid X H s s2 → s2.heap.get? a = some (seqObj "list" out c) → KeyOut g n out.toList → P (.done (.ret .none)) s2) :
    wpAny (model X.prog X.w) X.A.in1.in1 (ksk_tree a (.ref f) false) P E s' := by
  have hlt : a < s'.heap.objs.size := Heap.lt_size oa
  obtain ⟨e1, ho1⟩ : ∃ e1, (s'.heap.update a (Obj.mapSeq fun _ => (#[] : Array Value))).get? a = some (seqObj "list" #[] e1) := ⟨_, get?_update_seq oa fun _ => #[]⟩
  have hkS : ((s'.heap.update a (Obj.mapSeq fun _ => (#[] : Array Value))).push (seqObj "tuple" vs.toArray 0)).objs.size = s'.heap.objs.size + 1 := by rw [size_push', Heap.size_update]
  unfold ksk_tree
  refine wpAny_bind (listItems_at oa rfl ?_)
  refine wpAny_bind (listUpdate_at oa rfl ?_ (by rw [List.size_toArray, hv.1]; exact hz) (Nat.zero_le _))
  refine wpAny_bind (seqEpoch_at ho1 rfl ?_)
  refine wpAny_bind (wpAny_newTuple ?_ (by show vs.length ≤ _; rw [hv.1]; exact hz))
  refine wpAny_bind (wpAny_newList ?_ (Nat.zero_le _))
  refine wpAny_holding ?_
  refine key_rest (kS := ((s'.heap.update a (Obj.mapSeq fun _ => (#[] : Array Value))).push (seqObj "tuple" vs.toArray 0)).objs.size) (s' := { s' with heap := ((s'.heap.update a (Obj.mapSeq fun _ => (#[] : Array Value))).push (seqObj "tuple" vs.toArray 0)).push (seqObj "list" #[] 0) }) I
    (m.touch (tk := s'.toks) I fun b o hb e => Heap.get?_push_of_some _ (Heap.get?_push_of_some _ ((Heap.get?_update_ne _ _ _ _ (Nat.ne_of_lt (Nat.lt_of_lt_of_le hb ha))).trans e))) ha (Nat.le_trans hsz (Nat.le_trans (Nat.le_succ _) (Nat.le_of_eq hkS.symm))) (Nat.ne_of_gt (Nat.lt_of_lt_of_eq (Nat.lt_succ_of_lt hlt) hkS.symm))
    (Heap.get?_push_of_some _ (Heap.get?_push_of_some _ ho1)) (Heap.get?_push_size _ rfl) hv hz KF h
/-- sorted(range(n), key=f) -/
theorem key_sorted {E : Value → Shared → Prop} {Q : VK} {r f : Addr} {n : Nat} {g : Nat → Str} (I : Inv X pins σ H s) (hh : X.A.handled = none) (hr : H r = some (.rng 0 (n : Int))) (hz : n ≤ 100000) (KF : KeyFn X pins σ H f n g)
    (h : ∀ (l : Addr) (ms : List Nat), H l = none → ms.Perm (List.range n) → (ms.Pairwise fun i j => ¬ (g j).cps.toList < (g i).cps.toList) → Q (.ref l) (upd H l (.lst (ms.map fun (i : Nat) => V.int (i : Int))))) :
    wpAny (model X.prog X.w) X.A (call (.builtin "sorted") [.ref r] [(Str.ofString "key", .ref f)]) (EP X pins σ Q) E s := by
  have hz' : n ≤ sizeLine := by rw [sizeLine_eq]; omega
  refine call_function_entry_kw kind_sorted plain_sorted entry_sorted (ksk_s1 _ _) ?_
  unfold Builtin.«sorted»
  refine wpAny_bind (m := checkCount "sorted" 1 1 _) (wpAny_pure ?_)
  obtain ⟨t0, u0, v0, er⟩ := I.hok r _ hr
  have hn : Builtin.Range.rangeSize 0 (n : Int) 1 = (n : Int) := by rw [rangeSize_one]; split <;> omega
  refine wpAny_bind (Eb.collect_range (A := X.A.in1) (n := n) hh er (small_one (by omega) (by omega) (by omega) (by omega)) hn (by omega) fun h1 tk acc hsz1 k1 hacc => ?_)
  have hv : NumsTo acc.toList n := by
    refine ⟨by rw [Array.length_toList]; exact hacc.1, fun j hj => ?_⟩
    obtain ⟨v, e⟩ : ∃ v, acc[j]? = some v := ⟨_, getElem?_pos acc j (by rw [hacc.1]; exact hj)⟩
    obtain ⟨t, q⟩ := hacc.2 j _ e
    exact ⟨t, by rw [Array.getElem?_toList, e, q]; simp⟩
  refine wpAny_bind (wpAny_newList ?_ (by rw [Array.length_toList, hacc.1]; exact hz'))
  have hoL : (h1.push (seqObj "list" acc.toList.toArray 0)).get? h1.objs.size = some (seqObj "list" acc.toList.toArray 0) := Heap.get?_push_size _ rfl
  have m : Mid X H s { s with heap := h1.push (seqObj "list" acc.toList.toArray 0), toks := tk } := (Mid.start I).kept I fun b o e => Heap.get?_push_of_some _ (k1 b o e)
  refine wpAny_bind (wpAny_holding (wpAny_call_entry_kw slot_list_sort ⟨_, hoL, rfl⟩ entry_list_sort ?body (ksk_l1 _ _)))
  case body =>
    show wpAny (model X.prog X.w) X.A.in1.in1 (Builtin.«list.sort» ⟨[.ref h1.objs.size], [(Str.ofString "key", .ref f)]⟩) _ _ _
    rw [ksk_t1]
    refine key_sort (s' := { s with heap := h1.push (seqObj "list" acc.toList.toArray 0), toks := tk }) I m hsz1 hoL (by rw [size_push']; omega) hv hz' KF fun s2 out c m2 o2 ⟨ms, r, p, pw⟩ => ⟨_, rfl, ?_⟩
    refine wpAny_pure ⟨_, rfl, m2.fin I hsz1 ?_ (h h1.objs.size ms (I.hok.fresh hsz1) p pw)⟩
    refine ⟨?_, out.toList, c, r, by simpa using o2⟩
    rw [List.length_map, p.length_eq, List.length_range]
    exact hz'
end
end L2

set_option autoImplicit false
set_option maxRecDepth 100000
set_option maxHeartbeats 4000000
namespace L2
open PySem PySem.Spec PyProof.Rows
section
variable {X : Cx}
/-! range(n) as a value -/
theorem pe_range1 {a : Expr} {ta : TA} {p pos : Pos} (hg : Gl X "range") (hm : X.mg "range" = none) (ha : PA X [a] ta) (hs : starEach [a] X.env = [(false, eval a X.env)] := by rfl) :
    PE X (.Call (.Name "range" p) [a] [] pos) (fun σ H Q => ta σ H fun vs H1 => ∃ j : Int, vs = [.int j] ∧ ∀ r, H1 r = none → Q (.ref r) (upd H1 r (.rng 0 j))) := by
  intro pins s σ H Q I h
  refine Call_ (ld_blt I hg hm boot_range (PyProof.Rows.callWith_type1 (thn (ha pos pins s σ H _ I h) fun us s1 ⟨vs, H1, I1, r1, q1⟩ => ?_) hs rfl))
  obtain ⟨j, e, q⟩ := q1
  subst e
  obtain ⟨u, rfl, t, rfl⟩ := vals1 r1
  have hf : H1 s1.heap.objs.size = none := I1.hok.fresh (Nat.le_refl _)
  refine call_range_1 ⟨.ref s1.heap.objs.size, upd H1 s1.heap.objs.size (.rng 0 j), I1.laid (fun b u e => Heap.get?_push_of_some _ e) (Nat.le_refl _) ?_, rfl, q _ hf⟩
  exact ⟨_, _, _, Heap.get?_push_size _ rfl⟩
/-! sorted(range(..), key=..) -/
theorem pe_sortedKey {a : Expr} {kws : List Keyword} {ta tk : TA} {p pos : Pos} (hc : X.calm = true) (hg : Gl X "sorted") (hm : X.mg "sorted" = none) (ha : PA X [a] ta) (hk : PK X kws tk)
    (hks : (backToKw pos (keywordEach kws X.env)).filterMap (·.1) = [Str.ofString "key"] := by rfl)
    (he : backTo pos (starEach [a] X.env) = (false, eval a X.env) :: backTo pos (starEach [] X.env) := by rfl)
    (hplain : (backTo pos (starEach [a] X.env)).any (·.1) = false := by rfl)
    (hall : (backToKw pos (keywordEach kws X.env)).all (·.1.isSome) = true := by rfl)
    (hkw : (backToKw pos (keywordEach kws X.env)).any (·.1.isNone) = false := by rfl) :
    PE X (.Call (.Name "sorted" p) [a] kws pos) (fun σ H Q => ta σ H fun vs H1 => tk σ H1 fun zs H2 => ∃ (r f : Addr) (n : Nat) (g : Nat → Str), vs = [.ref r] ∧ zs = [.ref f] ∧ H2 r = some (.rng 0 (n : Int)) ∧ n ≤ 100000 ∧ (∀ pins, KeyFn X pins σ H2 f n g) ∧
      ∀ (l : Addr) (ms : List Nat), H2 l = none → ms.Perm (List.range n) → (ms.Pairwise fun i j => ¬ (g j).cps.toList < (g i).cps.toList) → Q (.ref l) (upd H2 l (.lst (ms.map fun (i : Nat) => V.int (i : Int))))) := by
  intro pins s σ H Q I h
  refine wpAny_Call_Name_kw (ld_blt I hg hm boot_sorted ?_)
  refine callWith_kw (thn (ha pos pins s σ H _ I h) fun us s1 ⟨vs, H1, I1, r1, q1⟩ => thn (hk pos pins s1 σ H1 _ I1 q1) fun ws s2 ⟨zs, H2, I2, rz, q2⟩ => ?_) he hplain hall hkw
  obtain ⟨r, f, n, g, rfl, rfl, hr, hn, KF, q⟩ := q2
  obtain ⟨u, rfl, rr⟩ := vals1 r1
  obtain ⟨u', rfl, rf⟩ := vals1 rz
  cases rr; cases rf
  rw [hks]
  exact key_sorted I2 (I2.ok.hd hc) hr hn (KF pins) q
/-! a lambda made: the code object is laid into the maker's table -/
structure LamCx (X : Cx) (c P : Addr) : Prop where
  code : X.env.code = .ref c
  hd : PySem.W.CodeHd X.base c P
  bm : X.base.BuiltinsAt X.mg P
abbrev IsLam (q : Str) (params : Arguments) (body : Expr) (scope : Scope) (clos : List (Str × Addr)) (pm : Value) (c' : Addr) (ctv : Value) (f : Addr) : HO := .ext fun h => h.get? f = some (PySem.W.kla_obj "<lambda>" q params body scope clos pm c' ctv)
abbrev IsCodeOf (q : Str) (c' : Addr) : HO := .ext fun h => h.CodeRec (.ref c') q
theorem codeRec_stay {q : Str} {c' : Addr} {h1 h2 : Heap} (x : h1.CodeRec (.ref c') q) (k : ∀ o, h1.get? c' = some o → h2.get? c' = some o) : h2.CodeRec (.ref c') q := by
  obtain ⟨c₂, oc, vs, t, e, hoc, r⟩ := x
  cases e
  exact ⟨c', oc, vs, t, rfl, k oc hoc, r⟩
/-! a lambda of one parameter with one captured name, run -/
def lamCx (P : Program) (w : World) (K : PySem.W.Frag) (mg : Str → Option Value) (base : Heap) (A : Around) (outer : List Env) (s : Shared) (H : Hp) (N : List Str) (qual : Str) (scope : Scope) (f c' : Addr) (clos : List (Str × Addr)) : Cx where
  prog := P
  w := w
  K := K
  mg := mg
  base := base
  A := A.deeper (PySem.W.envX qual scope s.heap.objs.size f (.ref c') clos)
  N := N
  s₀ := s
  H₀ := H
  env := PySem.W.envX qual scope s.heap.objs.size f (.ref c') clos
  outer := outer
  stack := PySem.W.envX qual scope s.heap.objs.size f (.ref c') clos :: outer
  ex := []
  fn := fun _ => false
  calm := true
  pn := []
  xe := fun _ _ => False
theorem lam_one {P : Program} {w : World} {K : PySem.W.Frag} {mg : Str → Option Value} {base : Heap} {A : Around} {outer : List Env} {s : Shared} {H : Hp} {qual : Str} {params : Arguments} {body : Expr} {scope : Scope} {f c' cA : Addr} {pm ctv ux uy : Value} {vx vy : V} {x y : Str} {t : TE} {Q : VK}
    (e0 : Env0 P w K mg base A outer s H) (hh : A.handled = none) (hroom : A.depth < recursionLimit)
    (hf : s.heap.get? f = some (PySem.W.kla_obj "<lambda>" qual params body scope [(y, cA)] pm c' ctv)) (hcd : s.heap.CodeRec (.ref c') qual)
    (hbind : bindArgs (PySem.W.kla_fn "<lambda>" qual params body scope [(y, cA)] pm (.ref c') ctv) ⟨[ux], []⟩ = pure [(x, ux)])
    (hx : scope.names.lookup x = some .local) (hy : scope.names.lookup y = some .free) (hcell : ∀ z ∈ scope.names, z.2 ≠ .cell) (hfree : ∀ z, scope.names.lookup z = some .free → z = y)
    (hk : scope.kind = .function) (hco : scope.isCoroutine = false) (hgen : scope.isGenerator = false)
    (hcA : s.heap.IsCell cA (some uy)) (ry : RelV vy uy) (HcA : H cA = none) (rx : RelV vx ux)
    (hb : PE (lamCx P w K mg base A outer s H [x, y] qual scope f c' [(y, cA)]) body t) (q : t [some vx, some vy] H Q) :
    codeAny (model P w) A (.call (.ref f) ⟨[ux], []⟩) (fun r s' => ∃ u, r = .ok (.ret u) ∧ CE outer P w H s Q u s') s := by
  refine PySem.W.kla_callFunE hroom hf rfl hco hgen rfl hcd ?_
  rw [hbind]
  have lim : s.heap.NoLimit := e0.mod.nolimit.keeps fun b o e => (e0.bs b o e).1
  refine wpAny_pure (wpAny_newFunctionEnv hcell (fun z hz => by rw [List.mem_singleton.mp hz]; exact hx) (fun h₁ hns hsb => ⟨lim.fresh _ hsb, ?_⟩) hk)
  have hk₁ : ∀ b o, s.heap.get? b = some o → h₁.get? b = some o := fun b o e => hsb.extBut b o (Nat.ne_of_lt (Heap.lt_size e)) (Heap.get?_push_of_some _ e)
  have lk : ∀ z c, List.lookup z [(y, cA)] = some c → z = y ∧ c = cA := fun z c e => by
    rw [List.lookup_cons] at e
    cases hz : z == y with
    | true => rw [hz] at e; exact ⟨eq_of_beq hz, (Option.some.inj e).symm⟩
    | false => rw [hz] at e; cases e
  have lky : List.lookup y [(y, cA)] = some cA := by rw [List.lookup_cons, beq_self_eq_true]
  have cell₁ : h₁.IsCell cA (some uy) := by
    obtain ⟨o, ho, r⟩ := hcA
    exact ⟨o, hk₁ _ _ ho, r⟩
  have noA : ∀ b : Addr, b ∉ ([] : List Addr) := fun b z => by cases z
  have I : Inv (lamCx P w K mg base A outer s H [x, y] qual scope f c' [(y, cA)]) [] [some vx, some vy] H { s with heap := h₁, toks := s.toks + [(x, ux)].length } := by
    refine ⟨⟨e0.mod, hk, rfl, rfl, Nat.le_refl _, fun a b c h1 h2 => ?_, fun z hz => ?_, fun z c h _ => (by cases h), fun _ => hh, Around.frames_deeper e0.frames, .inr ⟨rfl, rfl⟩, fun b z => absurd z (noA b), e0.bs, e0.bsz, fun b _ _ => noA b, fun b z => absurd z (noA b), e0.funs, e0.frf⟩,
      rfl, e0.bare, Un.kept hk₁, ⟨_, hns, fun i z v h1 h2 h3 => ?_⟩, fun z c h => ?_, e0.hok.fresh (Nat.le_refl _), fun z c h => ?_, fun p hp => absurd (show p ∈ ([] : List (Addr × Obj)) from hp) (by simp), e0.hok.kept hk₁, rfl⟩
    · rw [(lk a c h1).1, (lk b c h2).1]
    · rcases hz with hz | hz
      · exact absurd rfl (hcell _ (PySem.mem_of_lookup (show scope.names.lookup z = some .cell from hz)))
      · have e := hfree z hz
        subst e
        exact ⟨cA, lky⟩
    · match i, h1, h2 with
      | 0, h1, h2 =>
        cases h1; cases h2
        refine ⟨ux, rx, .inl ⟨hx, ?_⟩⟩
        show List.lookup x [(x, ux)].reverse = some ux
        rw [List.reverse_singleton, List.lookup_cons, beq_self_eq_true]
      | 1, h1, h2 =>
        cases h1; cases h2
        exact ⟨uy, ry, .inr ⟨.inr hy, cA, lky, cell₁⟩⟩
      | n + 2, h1, _ => cases h1
    · obtain ⟨_, rfl⟩ := lk z c h
      exact ⟨_, cell₁⟩
    · obtain ⟨_, rfl⟩ := lk z c h
      exact HcA
  show codeAny _ _ (.expr body (PySem.W.envX qual scope s.heap.objs.size f (.ref c') [(y, cA)])) _ _
  refine PySem.W.kla_codeExpr (wpAny_mono (hb [] _ _ H Q I q) (fun u s' hs => ?_) fun _ _ z => z.elim)
  obtain ⟨v, H', J, rv, qv⟩ := hs
  exact ⟨u, rfl, v, H', J.os, J.bare, J.base, J.hok, rv, qv⟩
end
/-! the law's head, with the table of one def that makes a lambda -/
theorem law_callT {P : Program} {w : World} {K : PySem.W.Frag} {mg mb : Str → Option Value} {k : Nat} {fa a c T : Addr} {fd : FuncData} {x : Str} {sp : Sp} {s₁ : Shared} {vs : List Value} {ns : List Int}
    (KX : K.In s₁.heap) (hns : s₁.heap.Ns mainGlobals mg) (hb : s₁.heap.Ns builtinsNs mb) (hbb : ∀ x : Str, x ≠ "__name__" → mb x = bootBuiltins x) (hlim : s₁.heap.NoLimit) (hg : s₁.gens = #[])
    (ha : s₁.heap.get? a = some { cls := .type "list", data := .seq vs.toArray }) (hi : IntsAre vs ns) (hl : ns.length ≤ sizeLine) (hr : Room k callerA)
    (hC : PySem.W.CodeHd s₁.heap c T) (hT : s₁.heap.get? T = some (PySem.W.tabObj #[])) (hK : K.lookup T = none)
    (hbm : ∃ bm ob, mg "__builtins__" = some (.ref bm) ∧ bm ≠ builtinsNs ∧ s₁.heap.get? bm = some ob ∧ ob.cls = .type "module" ∧ ob.dict = some builtinsNs ∧ ob.data = .plain)
    (F : ∀ base : Heap, K.In base → base.Ns mainGlobals mg → PySem.W.CodeHd base c T → base.BuiltinsAt mg T → FnOk P w K mg base CX0 k fa fd [x] sp) (hbind : ∀ (s : Shared) (u : Value), BindsTo s fd ⟨[u], []⟩ [(x, u)])
    (hsp : ∀ H : Hp, SqL K H a (ns.map V.int) → H T = some (.tbl #[]) → sp [.ref a] H (fun v _ => v = .bl true) E0) :
    codeAny (model P w) callerA (.call (.ref fa) ⟨[.ref a], []⟩) (fun r s' => r = .ok (.ret (.bool true)) ∧ OldK s₁.heap s'.heap ∧ s'.os = s₁.os ∧ AllBare s'.gens) s₁ := by
  have rv := vals_ints hi
  have lenV := hi.length
  have aT : a ≠ T := fun e => by rw [e, hT] at ha; cases ha
  have core : ∀ H : Hp, SqL K H a (ns.map V.int) → H T = some (.tbl #[]) → HOk P w H s₁.heap → (∀ b, H b ≠ none → b = a ∨ b = T) → (H a = none ∨ ∃ o xs, H a = some (.frz o (.lst xs))) → (H a ≠ none → K.lookup a = none) →
      codeAny (model P w) callerA (.call (.ref fa) ⟨[.ref a], []⟩) (fun r s' => r = .ok (.ret (.bool true)) ∧ OldK s₁.heap s'.heap ∧ s'.os = s₁.os ∧ AllBare s'.gens) s₁ := by
    intro H hS hHT hok hA hO hKa
    have base_of : ∀ {b : Addr} {o : Obj}, s₁.heap.get? b = some o → H b = none → (hidT s₁.heap H).get? b = some o := fun e n => hidT_get e n
    have noA : ∀ {b : Addr} {o : Obj}, s₁.heap.get? b = some o → (∀ ys n, o.data ≠ .seq ys n) → o.cls ≠ .none → H b = none := fun {b o} e d1 d2 => by
      cases q : H b with
      | none => rfl
      | some u =>
        exfalso
        rcases hA b (by rw [q]; simp) with z | z
        · subst z
          rw [ha] at e; cases e
          exact d1 _ _ rfl
        · subst z
          rw [hT] at e; cases e
          exact d2 rfl
    have nsK : ∀ {b : Addr} {m : Str → Option Value}, s₁.heap.Ns b m → (hidT s₁.heap H).Ns b m := fun {b m} ⟨o, es, ep, e, d, r⟩ => ⟨o, es, ep, base_of e (by
      cases q : H b with
      | none => rfl
      | some u =>
        exfalso
        rcases hA b (by rw [q]; simp) with z | z
        · subst z
          rw [ha] at e; cases e
          cases d
        · subst z
          rw [hT] at e; cases e
          cases d), d, r⟩
    have hKb : K.In (hidT s₁.heap H) := fun b o e => base_of (KX b o e) (by
      cases q : H b with
      | none => rfl
      | some u =>
        exfalso
        rcases hA b (by rw [q]; simp) with z | z
        · subst z
          rw [hKa (by rw [q]; simp)] at e; cases e
        · subst z
          rw [hK] at e; cases e)
    have hM : Mod K mg (hidT s₁.heap H) := ⟨hKb, nsK hns, ⟨mb, nsK hb, hbb⟩, let ⟨mc, h1, h2⟩ := hlim; ⟨mc, nsK h1, h2⟩⟩
    have hCb : PySem.W.CodeHd (hidT s₁.heap H) c T := by
      obtain ⟨o, ws, file, tf, flags, tg, inF, text, tt, e, r1, r2, r3⟩ := hC
      exact ⟨o, ws, file, tf, flags, tg, inF, text, tt, base_of e (noA e (fun ys n z => by rw [r2] at z; cases z) (by rw [r1]; intro z; cases z)), r1, r2, r3⟩
    have hBb : (hidT s₁.heap H).BuiltinsAt mg T := by
      obtain ⟨bm, ob, b1, b2, b3, b4, b5, b6⟩ := hbm
      refine ⟨bm, ob, b1, b2, fun z => ?_, fun z => ?_, base_of b3 (noA b3 (fun ys n z => by rw [b6] at z; cases z) (by rw [b4]; intro z; cases z)), b4, b5, b6⟩
      · obtain ⟨o, es, ep, e, d, _⟩ := hns
        rw [z, e] at b3; cases b3; rw [d] at b6; cases b6
      · rw [z, hT] at b3; cases b3; cases b4
    have e0 : Env0 P w K mg (hidT s₁.heap H) callerA [] s₁ H := ⟨rfl, hM, fun b o e => of_hidT e, Nat.le_of_eq (hidT_size _ _), trivial, fun b hb => absurd (show b ∈ ([] : List Addr) from hb) (by simp), hok, .of_eq hg⟩
    refine codeAny_mono ((F _ hKb (nsK hns) hCb hBb).run callerA [] s₁ H ⟨[.ref a], []⟩ [.ref a] [.ref a] _ _ hr e0 (hbind s₁ (.ref a)) (.cons rfl .nil) (hsp H hS hHT)) fun r s' h => ?_
    cases r with
    | error e => exact False.elim h
    | ok fl =>
      cases fl with
      | next => exact False.elim h
      | brk => exact False.elim h
      | cont => exact False.elim h
      | ret u =>
        obtain ⟨v, H', os, bare, un, hok', r', q⟩ := h
        have q' : v = .bl true := q
        subst q'
        obtain rfl : u = Value.bool true := r'
        refine ⟨rfl, ⟨fun b o e => ?_, fun b o e => un.there b o e (by simp)⟩, os, bare⟩
        by_cases hbT : b = T
        · subst hbT
          rw [hT] at e; cases e
          obtain ⟨more, e1⟩ := un.tbls b _ hHT
          have e2 : s'.heap.get? b = some { cls := .none, data := .fields (#[] ++ more) } := hok' b _ e1
          exact .inr (.inl ⟨(hC.tab hT).isCodeTable, rfl, #[], more, rfl, e2⟩)
        · left
          cases q : H b with
          | none => exact un.keep b o e q (by intro z; exact absurd (show b ∈ ([] : List Addr) from z) (by simp)) (by simp)
          | some u =>
            have hba : b = a := (hA b (by rw [q]; simp)).resolve_right hbT
            subst hba
            rcases hO with z | ⟨ob, xs, z⟩
            · rw [q] at z; cases z
            · have z2 := un.frzs b ob _ z
              obtain ⟨e1, _⟩ := hok b _ z
              obtain ⟨e2, _⟩ := hok' b _ z2
              rw [e] at e1; cases e1
              exact e2
  cases hk : K.lookup a with
  | some o =>
    have e := KX a o hk
    rw [ha] at e
    cases e
    refine core (fun b => if b = T then some (.tbl #[]) else none) (.inr ⟨_, vs.toArray, _, hk, rfl, rfl, rfl, by rw [List.size_toArray, lenV]; exact hl, by simpa using rv⟩) (if_pos rfl) (fun b u z => ?_) (fun b z => ?_) (.inl (if_neg aT)) fun z => absurd (if_neg aT) z
    · by_cases hb : b = T
      · have z' := (if_pos hb).symm.trans z
        cases z'
        subst hb
        exact hT
      · have z' := (if_neg hb).symm.trans z
        cases z'
    · by_cases hb : b = T
      · exact .inr hb
      · exact absurd (if_neg hb) z
  | none =>
    have at_a : (fun b => if b = T then some (HO.tbl #[]) else if b = a then some (.frz { cls := .type "list", data := .seq vs.toArray } (.lst (ns.map V.int))) else none) a = some (.frz { cls := .type "list", data := .seq vs.toArray } (.lst (ns.map V.int))) := by
      show (if a = T then _ else if a = a then _ else _) = _
      rw [if_neg aT, if_pos rfl]
    refine core (fun b => if b = T then some (.tbl #[]) else if b = a then some (.frz { cls := .type "list", data := .seq vs.toArray } (.lst (ns.map V.int))) else none) (.inl (.inr ⟨{ cls := .type "list", data := .seq vs.toArray }, at_a⟩)) (if_pos rfl) (fun b u z => ?_) (fun b z => ?_) (.inr ⟨_, _, at_a⟩) fun _ => hk
    · by_cases hb : b = T
      · have z' := (if_pos hb).symm.trans z
        cases z'
        subst hb
        exact hT
      · have z1 := (if_neg hb).symm.trans z
        by_cases hba : b = a
        · have z' := (if_pos hba).symm.trans z1
          cases z'
          subst hba
          exact ⟨ha, by rw [List.length_map]; exact hl, vs, _, rv, ha⟩
        · have z' := (if_neg hba).symm.trans z1
          cases z'
    · by_cases hb : b = T
      · exact .inr hb
      · by_cases hba : b = a
        · exact .inl hba
        · exact absurd ((if_neg hb).trans (if_neg hba)) z
end L2

set_option autoImplicit false
set_option maxRecDepth 100000
set_option maxHeartbeats 4000000
namespace L2
open PySem PySem.Spec PyProof.Rows
section
variable {P : Program} {w : World} {H H' : Hp} {h h' : Heap} {a : Addr} {o : HO}
theorem ObjOk.ex (x : ObjOk P w H h a o) : ∃ ob, h.get? a = some ob := by
  cases o with
  | lst xs => obtain ⟨_, _, _, _, e⟩ := x; exact ⟨_, e⟩
  | tup xs => obtain ⟨_, _, _, ob, e, _⟩ := x; exact ⟨_, e⟩
  | dK kvs => obtain ⟨_, _, _, _, o, _, _, e, _⟩ := x; exact ⟨_, e⟩
  | dT kvs => obtain ⟨_, _, _, _, o, _, _, e, _⟩ := x; exact ⟨_, e⟩
  | set S n => obtain ⟨o, _, _, _, e, _⟩ := x; exact ⟨_, e⟩
  | ins C dx fs => obtain ⟨_, _, _, e, _⟩ := x; exact ⟨_, e⟩
  | own y => obtain ⟨_, e⟩ := x; exact ⟨_, e⟩
  | xd fs => obtain ⟨_, ⟨_, _, _, e, _⟩, _⟩ := x; exact ⟨_, e⟩
  | rng lo hi => obtain ⟨_, _, _, e⟩ := x; exact ⟨_, e⟩
  | frz ob u => obtain ⟨e, _⟩ := x; exact ⟨_, e⟩
  | tbl ps => exact ⟨_, (show h.get? a = some _ from x)⟩
  | met f y => exact ⟨_, (show h.get? a = some _ from x)⟩
  | ext φ => obtain ⟨_, ⟨_, e⟩, _⟩ := x; exact ⟨_, e⟩
end
section
variable {X : Cx} {pins : List (Addr × Obj)} {σ : St} {H : Hp} {s : Shared} {h' : Heap} {a : Addr} {o : HO}
end
end L2

set_option autoImplicit false
set_option maxRecDepth 100000
namespace L2
open PySem PySem.Spec PyProof.Rows
/-! what the laws' own helpers reckon with -/
theorem bIsinstance : bootBuiltins "isinstance" = some (.builtin "isinstance") := by decide +kernel
theorem bInt : bootBuiltins "int" = some (.type "int") := by decide +kernel
theorem bBool : bootBuiltins "bool" = some (.type "bool") := by decide +kernel
theorem bList : bootBuiltins "list" = some (.type "list") := by decide +kernel
theorem bSorted : bootBuiltins "sorted" = some (.builtin "sorted") := by decide +kernel
theorem kit_same (K : PySem.W.Frag) (T : String) : PySem.W.kitOne K (.type T) (.type T) = some true := by
  unfold PySem.W.kitOne
  rw [if_pos (by simp)]
theorem wide_at (z : Int) : ∃ w : Nat, atI ([.int 1, .int 2, .int 3, .int 5, .int 26] : List V) (z % 5) = some (.int (w : Int)) ∧ 1 ≤ w ∧ w ≤ 26 := by
  have h : z % 5 = 0 ∨ z % 5 = 1 ∨ z % 5 = 2 ∨ z % 5 = 3 ∨ z % 5 = 4 := by omega
  rcases h with h | h | h | h | h
  · rw [h]; exact ⟨1, rfl, by decide, by decide⟩
  · rw [h]; exact ⟨2, rfl, by decide, by decide⟩
  · rw [h]; exact ⟨3, rfl, by decide, by decide⟩
  · rw [h]; exact ⟨5, rfl, by decide, by decide⟩
  · rw [h]; exact ⟨26, rfl, by decide, by decide⟩
theorem len_list (x : Str) : x.cps.toList.length = x.length := Array.length_toList
theorem len_of_list {x : Str} {l : List Nat} (h : x.cps.toList = l) : x.length = l.length := by rw [← len_list, h]
theorem len_app (x y : Str) : (x ++ y).length = x.length + y.length := by
  show (x.cps ++ y.cps).size = _
  rw [Array.size_append]; rfl
theorem cutL_len {α : Type} (l : List α) (lo hi : Option Int) : (Eb.cutL l lo hi).length = Eb.six l.length l.length hi - Eb.six l.length 0 lo := by
  unfold Eb.cutL
  have h1 := Eb.six_le l.length l.length (Nat.le_refl _) hi
  rw [List.length_take, List.length_drop]
  omega
theorem slice_len (x : Str) (lo hi : Option Int) : (Txt.slice x lo hi).length = Eb.six x.length x.length hi - Eb.six x.length 0 lo := by
  rw [len_of_list (Eb.slice_cps x lo hi), cutL_len, len_list]
theorem slice_to (x : Str) (k : Int) (h0 : 0 ≤ k) (h1 : k ≤ x.length) : (Txt.slice x none (some k)).length = k.toNat := by
  rw [slice_len]
  show Eb.six x.length x.length (some k) - 0 = _
  unfold Eb.six
  dsimp only
  rw [if_neg (by omega)]
  omega
theorem slice_from (x : Str) (k : Int) (h0 : 0 ≤ k) (h1 : k ≤ x.length) : (Txt.slice x (some k) none).length = x.length - k.toNat := by
  rw [slice_len]
  show x.length - Eb.six x.length 0 (some k) = _
  unfold Eb.six
  dsimp only
  rw [if_neg (by omega)]
  omega
theorem suffix_cps (x : Str) (k : Nat) : (Txt.slice x (some (k : Int)) none).cps.toList = x.cps.toList.drop k := by
  rw [Eb.slice_cps]
  unfold Eb.cutL
  rw [Eb.six_nat]
  show (x.cps.toList.drop (min k x.cps.toList.length)).take (x.cps.toList.length - min k x.cps.toList.length) = _
  rw [List.take_of_length_le (by rw [List.length_drop]; omega)]
  by_cases h : k ≤ x.cps.toList.length
  · rw [Nat.min_eq_left h]
  · rw [Nat.min_eq_right (by omega), List.drop_length, List.drop_eq_nil_of_le (by omega)]
theorem atI_some {α : Type} {xs : List α} {i : Int} (h0 : 0 ≤ i) (h1 : i < xs.length) : ∃ v, atI xs i = some v := by
  have hi : i.toNat < xs.length := by omega
  refine ⟨xs[i.toNat], ?_⟩
  have q := atI_nat (xs := xs) (j := i.toNat) (List.getElem?_eq_getElem hi)
  rwa [show ((i.toNat : Nat) : Int) = i by omega] at q
theorem atI_int {ns : List Int} {i : Int} (h0 : 0 ≤ i) (h1 : i < ns.length) : atI (ns.map V.int) i = some (.int (ns.getD i.toNat 0)) := by
  have hi : i.toNat < ns.length := by omega
  have e : (ns.map V.int)[i.toNat]? = some (.int (ns.getD i.toNat 0)) := by
    rw [List.getElem?_map, List.getD_eq_getElem?_getD, List.getElem?_eq_getElem hi]
    rfl
  have q := atI_nat e
  rwa [show ((i.toNat : Nat) : Int) = i by omega] at q
/-- a slice of a list of ints -/
def cutI (ns : List Int) (lo hi : Option Int) : List Int := (ns.drop (HT.sIx ns.length 0 lo)).take (HT.sIx ns.length ns.length hi - HT.sIx ns.length 0 lo)
theorem cutV_ints (ns : List Int) (lo hi : Option Int) : cutV (ns.map V.int) lo hi = (cutI ns lo hi).map V.int := by
  unfold cutV cutI
  rw [List.length_map, List.map_take, List.map_drop]
theorem cutI_len (ns : List Int) (lo hi : Option Int) : (cutI ns lo hi).length ≤ ns.length := by
  unfold cutI
  rw [List.length_take, List.length_drop]; omega
theorem same_new {H : Hp} {p : Addr} (h : H p = none) (o : HO) : Same H (upd H p o) := fun b u q => by rw [upd_ne (ne_of_none q h)]; exact q
/-- all that was tracked is as it was, but at T -/
def SameBut (T : Addr) (H H' : Hp) : Prop := ∀ b o, b ≠ T → H b = some o → H' b = some o
theorem small63 {n : Nat} (h : n ≤ 100000) : n ≤ sizeLine := Nat.le_trans h (by decide)
end L2

set_option autoImplicit false
set_option maxRecDepth 100000
set_option maxHeartbeats 4000000
namespace L2
open PySem PySem.Spec PyProof.Rows
/-! a list comprehension with one `for` over a name, its block read in a context of its own -/
def capS (σ : St) (js : List Nat) : St := js.map fun i => (σ[i]?).join
def compCx (X : Cx) (N : List Str) (scope : Scope) (cl : List (Str × Addr)) (C : Addr) (s : Shared) (H : Hp) (fp : List Addr) : Cx where
  prog := X.prog
  w := X.w
  K := X.K
  mg := X.mg
  base := X.base
  A := X.A
  N := N
  s₀ := s
  H₀ := H
  env := compEnvC scope cl C X.env
  outer := X.stack
  stack := X.stack
  ex := fp
  fn := fun _ => false
  calm := X.calm
  pn := []
  xe := fun _ _ => False
def Subs (cells : List (Str × Addr)) : List (Str × Addr) → Prop
  | [] => True
  | p :: r => cells.lookup p.1 = some p.2 ∧ Subs cells r
def Caps (X : Cx) (scope : Scope) (cl : List (Str × Addr)) : List Str → List Nat → Prop
  | [], [] => True
  | y :: N, i :: r => (X.N[i]? = some y ∧ X.env.kindOf y = some .cell ∧ scope.names.lookup y = some .free ∧ (cl.lookup y).isSome = true) ∧ Caps X scope cl N r
  | _, _ => False
structure CompOk (X : Cx) (x : Str) (N : List Str) (js : List Nat) (scope : Scope) (cl : List (Str × Addr)) : Prop where
  clos : closureFor scope X.env = pure cl
  nocell : ∀ y ∈ scope.names, y.2 ≠ .cell
  kind : scope.kind = .function
  names : ∀ y ∈ scope.names, y.2 = .local → scope.names.lookup y.1 = some .local
  loc : scope.names.lookup x = some .local
  nd : (x :: N).Nodup
  sub : Subs X.env.cells cl
  has : ((scope.names.filter fun y => y.2 == .free).all fun y => (cl.lookup y.1).isSome) = true
  cap : Caps X scope cl N js
theorem Subs.get {cells : List (Str × Addr)} : ∀ {cl : List (Str × Addr)}, Subs cells cl → ∀ {y : Str} {c : Addr}, cl.lookup y = some c → cells.lookup y = some c
  | [], _, y, c, h => by cases h
  | p :: r, s, y, c, h => by
    obtain ⟨p1, p2⟩ := p
    rw [List.lookup_cons] at h
    cases e : y == p1 with
    | true =>
      rw [e] at h
      have h' := Option.some.inj h
      subst h'
      rw [eq_of_beq e]
      exact s.1
    | false => rw [e] at h; exact Subs.get s.2 h
theorem Caps.get {X : Cx} {scope : Scope} {cl : List (Str × Addr)} : ∀ {N : List Str} {js : List Nat}, Caps X scope cl N js → ∀ {j : Nat} {y : Str}, N[j]? = some y →
    ∃ i, js[j]? = some i ∧ X.N[i]? = some y ∧ X.env.kindOf y = some .cell ∧ scope.names.lookup y = some .free ∧ (cl.lookup y).isSome = true
  | [], _, _, j, y, h => by simp at h
  | _ :: _, [], c, _, _, _ => c.elim
  | z :: N, i :: r, c, 0, y, h => by
    have e : z = y := by simpa using h
    subst e
    exact ⟨i, rfl, c.1⟩
  | z :: N, i :: r, c, j + 1, y, h => by
    obtain ⟨i', e, q⟩ := Caps.get c.2 (j := j) (y := y) (by simpa using h)
    exact ⟨i', by simpa using e, q⟩
theorem Caps.len {X : Cx} {scope : Scope} {cl : List (Str × Addr)} : ∀ {N : List Str} {js : List Nat}, Caps X scope cl N js → js.length = N.length
  | [], [], _ => rfl
  | [], _ :: _, c => c.elim
  | _ :: _, [], c => c.elim
  | _ :: _, _ :: _, c => by rw [List.length_cons, List.length_cons, Caps.len c.2]
theorem relabel_free {env : Env} (hk : env.scope.kind = .function) {y : Str} (hy : env.kindOf y = some .cell) : ∀ {names : List (Str × NameKind)}, names.lookup y = some .free →
    (names.map fun (n, k) => if (k == NameKind.free && env.scope.kind == .function && env.kindOf n == some .cell) then (n, NameKind.cell) else (n, k)).lookup y = some .cell
  | [], h => by cases h
  | (n, k) :: r, h => by
    rw [List.lookup_cons] at h
    cases e : y == n with
    | true =>
      rw [e] at h
      have hk' : k = .free := Option.some.inj h
      have en := eq_of_beq e
      subst en; subst hk'
      rw [List.map_cons, List.lookup_cons]
      simp [hk, hy]
    | false =>
      rw [e] at h
      have ih := relabel_free hk hy h
      rw [List.map_cons, List.lookup_cons]
      split
      · rename_i z
        have z' : (y == n) = true := by
          rw [← z]
          split <;> rfl
        rw [z'] at e; cases e
      · exact ih
theorem relabel_back {env : Env} {y : Str} : ∀ {names : List (Str × NameKind)}, (∀ z ∈ names, z.2 ≠ .cell) →
    ((names.map fun (n, k) => if (k == NameKind.free && env.scope.kind == .function && env.kindOf n == some .cell) then (n, NameKind.cell) else (n, k)).lookup y = some .cell ∨
     (names.map fun (n, k) => if (k == NameKind.free && env.scope.kind == .function && env.kindOf n == some .cell) then (n, NameKind.cell) else (n, k)).lookup y = some .free) → (y, NameKind.free) ∈ names
  | [], _, h => by rcases h with h | h <;> cases h
  | (n, k) :: r, hc, h => by
    have ih := relabel_back (env := env) (y := y) (names := r) fun z hz => hc z (List.mem_cons_of_mem _ hz)
    rw [List.map_cons] at h
    by_cases e : y = n
    · subst e
      have kf : k = .free := by
        have kc : k ≠ .cell := hc (y, k) List.mem_cons_self
        by_cases hf : (k == NameKind.free && env.scope.kind == .function && env.kindOf y == some .cell) = true
        · rw [Bool.and_eq_true, Bool.and_eq_true] at hf
          exact eq_of_beq hf.1.1
        · simp only [hf, Bool.false_eq_true, if_false, List.lookup_cons, beq_self_eq_true] at h
          rcases h with h | h
          · exact absurd (Option.some.inj h) kc
          · exact Option.some.inj h
      rw [kf]; exact List.mem_cons_self
    · have e' : (y == n) = false := by simpa using e
      refine List.mem_cons_of_mem _ (ih ?_)
      by_cases hf : (k == NameKind.free && env.scope.kind == .function && env.kindOf n == some .cell) = true
      · simp only [hf, if_true, List.lookup_cons, e'] at h; exact h
      · simp only [hf, Bool.false_eq_true, if_false, List.lookup_cons, e'] at h; exact h
section
variable {prog : Program} {w : World} {A : Around} {R : Result → Shared → Prop} {s : Shared}
theorem codeAny_compLoop_own {elt target iter : Expr} {ifs : List Expr} {scope : Scope} {pos : Pos} {it acc : Value} {env : Env} (I : Nat → Shared → Prop)
    (turn : ∀ n s, I n s → wpAny (model prog w) A (pyNext it) (fun r s₁ => match r with
      | none => R (.ok .next) s₁
      | some v => wpAny (model prog w) A (letOwnedTupleGo target it v) (fun _ s₁' => wpAny (model prog w) A (assign target env v) (fun _ s₂ =>
          wpAny (model prog w) A (forIn ifs true fun c r => if r = true then do let ok ← isTrue c env (eval c env); pure (ForInStep.yield ok) else pure (ForInStep.yield r)) (fun ok s₃ =>
            if ok = true then wpAny (model prog w) A (eval elt env) (fun x s₄ =>
              wpAny (model prog w) A (call (.builtin "list.append") [acc, x]) (fun _ s₅ => ∃ m, m < n ∧ I m s₅) (notedBy (model prog w) A env fun e s' => R (.error e) s') s₄) (notedBy (model prog w) A env fun e s' => R (.error e) s') s₃
            else ∃ m, m < n ∧ I m s₃) (notedBy (model prog w) A env fun e s' => R (.error e) s') s₂) (notedBy (model prog w) A env fun e s' => R (.error e) s') s₁') (notedBy (model prog w) A env fun e s' => R (.error e) s') s₁) (notedBy (model prog w) A env fun e s' => R (.error e) s') s)
    (n : Nat) (h : I n s) :
    codeAny (model prog w) A (.compLoop (.ListComp elt [⟨target, iter, ifs, 0⟩] scope pos) 0 it acc env) R s := by
  refine codeAny_loop rfl I (fun n s hI => ?_) n h
  show wpAny _ A ((compTurn (.ListComp elt [⟨target, iter, ifs, 0⟩] scope pos) 0 it acc env).onRaise (fun x => do noteFrame x env; theTreesLotGoes x)) _ _ s
  refine wpAny_noted ?_
  rw [compTurn_list]
  refine wpAny_bind (wpAny_standAt (wpAny_bind (wpAny_mono (turn n s hI) (fun r s₁ h₁ => ?_) fun _ _ h' => h')))
  cases r with
  | none => exact wpAny_pure h₁
  | some v =>
    refine wpAny_bind (wpAny_mono h₁ (fun _ s₁' h₁' => ?_) fun _ _ h' => h')
    refine wpAny_bind (wpAny_mono h₁' (fun _ s₂ h₂ => wpAny_bind (wpAny_mono h₂ (fun ok s₃ h₃ => ?_) fun _ _ h' => h')) fun _ _ h' => h')
    cases ok with
    | false => exact wpAny_pure ⟨rfl, h₃⟩
    | true =>
      exact wpAny_bind (wpAny_bind (wpAny_mono h₃ (fun x s₄ h₄ => wpAny_bind (wpAny_mono h₄ (fun _ s₅ h₅ => wpAny_pure (wpAny_pure ⟨rfl, h₅⟩)) fun _ _ h' => h')) fun _ _ h' => h'))
end
/-- the tests behind the `for` -/
def PF (X : Cx) (ifs : List Expr) (t : TT) : Prop :=
  ∀ (pins : List (Addr × Obj)) (s : Shared) (σ : St) (H : Hp) (Q : Bool → Hp → Prop), Inv X pins σ H s → t σ H Q →
    wpAny (model X.prog X.w) X.A (forIn ifs true fun c r => if r = true then do let ok ← isTrue c X.env (eval c X.env); pure (ForInStep.yield ok) else pure (ForInStep.yield r)) (TP X pins σ Q) X.xe s
theorem pf_nil {X : Cx} : PF X [] (fun _ H Q => Q true H) := fun pins s σ H Q I h => wpAny_tests_nil ⟨H, I, h⟩
section
variable {X : Cx} {x : Str} {N : List Str} {js : List Nat} {scope : Scope} {cl : List (Str × Addr)} {elt iter : Expr} {ifs : List Expr} {px pos : Pos} {tf : TT} {te : TE}
end
end L2

set_option autoImplicit false
set_option maxRecDepth 100000
set_option maxHeartbeats 4000000
set_option linter.unusedVariables false
namespace L2
open PySem PySem.Spec PyProof.Rows
/-! what yields f 0, f 1, .. (n of them), the heap as it is -/
section
variable {X : Cx} {tg : Expr}
end
/-! a comprehension whose elements leave what was tracked as it was -/
/-! join -/
section
variable {X : Cx}
/-! tuples of flat values compared -/
theorem eqVs_min {xs ys : List V} {us ws : List Value} (l1 : xs.length = us.length) (l2 : ys.length = ws.length) :
    ((List.range (min us.toArray.size ws.toArray.size)).all (fun j => eqV (xs.getD j .non) (ys.getD j .non)) && us.toArray.size == ws.toArray.size) = eqVs xs ys := by
  unfold eqVs
  rw [List.size_toArray, List.size_toArray, ← l1, ← l2]
  cases h : xs.length == ys.length with
  | false => rw [Bool.and_false, Bool.false_and]
  | true =>
    have e : xs.length = ys.length := by simpa using h
    rw [Bool.and_true, Bool.true_and, ← e, Nat.min_self]
theorem op_eq_tup (hu : X.A.units < cLine) : OpR X (compareOp .Eq) (fun x y H Q => ∃ a b xs ys, x = .ref a ∧ y = .ref b ∧ SqT X.K H a xs ∧ SqT X.K H b ys ∧ xs.all flatV = true ∧ ys.all flatV = true ∧ Q (.bl (eqVs xs ys)) H) := by
  intro pins s σ H x y v u Q I rx ry h
  obtain ⟨a, b, xs, ys, rfl, rfl, ha, hb, fx, fy, q⟩ := h
  cases rx; cases ry
  obtain ⟨us, r1, p1, z1⟩ := I.tuple ha
  obtain ⟨ws, r2, p2, z2⟩ := I.tuple hb
  have l1 := r1.length
  have l2 := r2.length
  refine SeqAt.eq_tupleAt (e := fun j => eqV (xs.getD j .non) (ys.getD j .non)) (show s.heap.IsTuple a us.toArray from p1) (show s.heap.IsTuple b ws.toArray from p2) hu (fun j h1 h2 => ?_) (fin_bl I q ?_)
  · rw [List.getElem_toArray, List.getElem_toArray]
    exact eqAt_V (r1.at (by simpa using h1)) (r2.at (by simpa using h2)) (flat_at fx j) (flat_at fy j)
  · exact (eqVs_min l1 l2).symm
/-! the first place in a list -/
theorem mt_index : MtR X "list.index" (fun x vs H Q => ∃ (a : Addr) (xs : List V) (y : V) (j : Nat), x = .ref a ∧ vs = [y] ∧ SqL X.K H a xs ∧ flatV y = true ∧ xs.all flatV = true ∧ j < xs.length ∧ eqV (xs.getD j .non) y = true ∧ (∀ i, i < j → eqV (xs.getD i .non) y = false) ∧ Q (.int (j : Int)) H) := by
  intro pins s σ H x vs v us Q I rx rv h
  obtain ⟨a, xs, y, j, rfl, rfl, hq, fy, fs, hj, he, hno, q⟩ := h
  cases rx
  obtain ⟨u, rfl, ru⟩ := rv.one
  obtain ⟨its, r, pl, hz⟩ := I.list hq
  have hl := r.length
  obtain ⟨⟨cls, dd, data, sl⟩, ho, hc, n, hd⟩ := id pl.isList
  simp only at hc hd
  subst hc hd
  have at_ : ∀ i (hi : i < its.toArray.size), eqU y its.toArray[i] = eqV (xs.getD i .non) y := fun i hi => by
    rw [List.getElem_toArray]
    exact eqU_of (r.at (by simpa using hi)) (flat_at fs i)
  have hjs : j < its.toArray.size := by rw [List.size_toArray]; omega
  rw [sizeLine_eq] at hz
  refine call_meets F.slot_list_index ⟨_, ho, rfl⟩ F.entry_list_index (F.args_list_index_2 _ _) (SeqAt.list_indexAt a its.toArray n dd sl u (eqU y) j hjs (by omega) (by rw [at_]; exact he) (fun m hm h1 => by rw [at_]; exact hno m h1)) ⟨ho, fun w hw => mem_eqAt ru fy r fs w (by simpa using hw), ?_⟩
  exact ⟨.int (j : Int), H, I.tok _, ⟨_, rfl⟩, q⟩
end
end L2

set_option autoImplicit false
/-! words as lists of signs, in Python's order -/
namespace Wd
abbrev W := List Nat
theorem irr (a : W) : ¬ a < a := List.lt_irrefl a
theorem tr {a b c : W} (h : a < b) (g : b < c) : a < c := List.lt_trans h g
theorem asy {a b : W} (h : a < b) : ¬ b < a := List.lt_asymm h
theorem eq_of_not {a b : W} (h : ¬ a < b) (g : ¬ b < a) : a = b := List.le_antisymm (List.not_lt.mp g) (List.not_lt.mp h)
theorem tri (a b : W) : a < b ∨ a = b ∨ b < a := by
  by_cases h : a < b
  · exact .inl h
  · by_cases g : b < a
    · exact .inr (.inr g)
    · exact .inr (.inl (eq_of_not h g))
/-- ¬ (b < a) is a ≤ b -/
theorem lt_of_nlt_of_lt {a b c : W} (h : ¬ b < a) (g : b < c) : a < c := by
  rcases tri a b with x | x | x
  · exact tr x g
  · rw [x]; exact g
  · exact absurd x h
theorem lt_of_lt_of_nlt {a b c : W} (h : a < b) (g : ¬ c < b) : a < c := by
  rcases tri b c with x | x | x
  · exact tr h x
  · rw [← x]; exact h
  · exact absurd x g
theorem nlt_trans {a b c : W} (h : ¬ b < a) (g : ¬ c < b) : ¬ c < a := fun x => g (lt_of_lt_of_nlt x h)
theorem pre_nlt {a b : W} (h : a <+: b) : ¬ b < a := by
  obtain ⟨t, rfl⟩ := h
  exact List.le_append_left
theorem lt_app {a t : W} (h : t ≠ []) : a < a ++ t := by
  have q := List.append_left_lt (l₁ := a) (l₂ := []) (l₃ := t) (by cases t with | nil => exact absurd rfl h | cons x t => exact List.nil_lt_cons x t)
  rwa [List.append_nil] at q
/-- steady -/
def St (w : W) : Prop := w ≠ [] ∧ ∀ k, 0 < k → k < w.length → w < w.drop k
theorem St.suf {w u v : W} (h : St w) (e : w = u ++ v) (hu : u ≠ []) (hv : v ≠ []) : w < v := by
  have q := h.2 u.length (List.length_pos_iff.mpr hu) (by rw [e, List.length_append]; have := List.length_pos_iff.mpr hv; omega)
  rwa [e, List.drop_left, ← e] at q
theorem St.of {w : W} (h : w ≠ []) (g : ∀ u v, w = u ++ v → u ≠ [] → v ≠ [] → w < v) : St w := ⟨h, fun k h0 h1 => g (w.take k) (w.drop k) (List.take_append_drop k w).symm (fun e => by
    have := congrArg List.length e
    rw [List.length_take, List.length_nil] at this
    omega) fun e => by
    have := congrArg List.length e
    rw [List.length_drop, List.length_nil] at this
    omega⟩
theorem St.one (x : Nat) : St [x] := ⟨by simp, fun k h0 h1 => by simp at h1; omega⟩
/-! parts that fall: one way only -/
theorem tail_of {ps : List W} {r : W} (hr : r ≠ []) (h : r <+: ps.flatten) : ∃ s u x, r = s ++ u ∧ u ≠ [] ∧ x ∈ ps ∧ u <+: x := by
  induction ps generalizing r with
  | nil => exact absurd (List.prefix_nil.mp h) hr
  | cons x ps ih =>
    rw [List.flatten_cons] at h
    rcases Nat.lt_or_ge x.length r.length with hl | hl
    · have hx : x <+: r := List.prefix_of_prefix_length_le (List.prefix_append x _) h (Nat.le_of_lt hl)
      obtain ⟨r', rfl⟩ := hx
      have hr' : r' ≠ [] := fun e => by rw [e, List.append_nil] at hl; omega
      have hp : r' <+: ps.flatten := by
        obtain ⟨t, e⟩ := h
        exact ⟨t, List.append_cancel_left (by rw [← List.append_assoc]; exact e)⟩
      obtain ⟨s, u, y, e, hu, hy, hp'⟩ := ih hr' hp
      exact ⟨x ++ s, u, y, by rw [e, List.append_assoc], hu, List.mem_cons_of_mem _ hy, hp'⟩
    · exact ⟨[], r, x, rfl, hr, List.mem_cons_self, List.prefix_of_prefix_length_le h (List.prefix_append x _) hl⟩
theorem longest {l p : W} {ps : List W} (hm : ∀ x ∈ ps, ¬ l < x) (hp : St p) (hl : l ≠ []) (h : p <+: l ++ ps.flatten) : p.length ≤ l.length := by
  rcases Nat.lt_or_ge l.length p.length with hlt | hge
  · exfalso
    have hx : l <+: p := List.prefix_of_prefix_length_le (List.prefix_append l _) h (Nat.le_of_lt hlt)
    obtain ⟨r, rfl⟩ := hx
    have hr : r ≠ [] := fun e => by rw [e, List.append_nil] at hlt; omega
    have hp' : r <+: ps.flatten := by
      obtain ⟨t, e⟩ := h
      exact ⟨t, List.append_cancel_left (by rw [← List.append_assoc]; exact e)⟩
    obtain ⟨s, u, x, e, hu, hx, hux⟩ := tail_of hr hp'
    have h1 : l ++ r < u := hp.suf (u := l ++ s) (by rw [e, List.append_assoc]) (by simp [hl]) hu
    have h2 : ¬ l < u := nlt_trans (pre_nlt hux) (hm x hx)
    exact h2 (lt_of_nlt_of_lt (pre_nlt (List.prefix_append l r)) h1)
  · exact hge
/-! the longest steady end but itself is the least of them; what is ahead is steady -/
theorem least {α : Type} (lt : α → α → Prop) (htr : ∀ a b c, ¬ lt b a → ¬ lt c b → ¬ lt c a) (hir : ∀ a, ¬ lt a a) (htot : ∀ a b, ¬ lt a b ∨ ¬ lt b a) (f : Nat → α) (n : Nat) : ∃ q, q ≤ n ∧ ∀ k, k ≤ n → ¬ lt (f k) (f q) := by
  induction n with
  | zero => exact ⟨0, Nat.le_refl _, fun k hk => by rw [Nat.le_zero.mp hk]; exact hir _⟩
  | succ n ih =>
    obtain ⟨q, hq, h⟩ := ih
    rcases htot (f (n + 1)) (f q) with g | g
    · refine ⟨q, Nat.le_succ_of_le hq, fun k hk => ?_⟩
      rcases Nat.lt_or_ge n k with z | z
      · rw [show k = n + 1 by omega]; exact g
      · exact h k z
    · refine ⟨n + 1, Nat.le_refl _, fun k hk => ?_⟩
      rcases Nat.lt_or_ge n k with z | z
      · rw [show k = n + 1 by omega]; exact hir _
      · exact htr _ _ _ g (h k z)
end Wd

set_option autoImplicit false
namespace Wd
/-! how many signs two words share from the beginning on -/
def lcp : W → W → Nat
  | x :: a, y :: b => if x = y then lcp a b + 1 else 0
  | _, _ => 0
@[simp] theorem lcp_nil_left (b : W) : lcp [] b = 0 := by cases b <;> rfl
@[simp] theorem lcp_nil_right (a : W) : lcp a [] = 0 := by cases a <;> rfl
theorem lcp_cons (x y : Nat) (a b : W) : lcp (x :: a) (y :: b) = if x = y then lcp a b + 1 else 0 := rfl
theorem lcp_le_left : ∀ (a b : W), lcp a b ≤ a.length
  | [], b => by simp
  | x :: a, [] => by simp
  | x :: a, y :: b => by
    rw [lcp_cons]
    split
    · have := lcp_le_left a b; rw [List.length_cons]; omega
    · omega
theorem lcp_le_right : ∀ (a b : W), lcp a b ≤ b.length
  | [], b => by simp
  | x :: a, [] => by simp
  | x :: a, y :: b => by
    rw [lcp_cons]
    split
    · have := lcp_le_right a b; rw [List.length_cons]; omega
    · omega
/-- a shared beginning is no longer than that -/
theorem le_lcp {u a b : W} (h : u <+: a) (g : u <+: b) : u.length ≤ lcp a b := by
  induction u generalizing a b with
  | nil => exact Nat.zero_le _
  | cons x u ih =>
    obtain ⟨s, rfl⟩ := h
    obtain ⟨t, rfl⟩ := g
    show u.length + 1 ≤ lcp (x :: (u ++ s)) (x :: (u ++ t))
    rw [lcp_cons, if_pos rfl]
    have := ih (List.prefix_append u s) (List.prefix_append u t)
    omega
theorem lcp_take : ∀ (a b : W), a.take (lcp a b) = b.take (lcp a b)
  | [], b => by simp
  | x :: a, [] => by simp
  | x :: a, y :: b => by
    rw [lcp_cons]
    split
    · rename_i h
      rw [List.take_succ_cons, List.take_succ_cons, lcp_take a b, h]
    · rfl
theorem pre_of_le {a b : W} {k : Nat} (h : k ≤ lcp a b) : a.take k <+: b := by
  have e : a.take k = b.take k := by
    have := congrArg (List.take k) (lcp_take a b)
    rwa [List.take_take, List.take_take, Nat.min_eq_left h] at this
  rw [e]; exact List.take_prefix k b
theorem lcp_comm : ∀ (a b : W), lcp a b = lcp b a
  | [], b => by simp
  | x :: a, [] => by simp
  | x :: a, y :: b => by
    rw [lcp_cons, lcp_cons, lcp_comm a b]
    by_cases h : x = y
    · rw [if_pos h, if_pos h.symm]
    · rw [if_neg h, if_neg fun e => h e.symm]
/-- a word that is the beginning of two is that of all between -/
theorem between {u a b c : W} (ha : u <+: a) (hc : u <+: c) (h1 : ¬ b < a) (h2 : ¬ c < b) : u <+: b := by
  induction u generalizing a b c with
  | nil => exact List.nil_prefix
  | cons x u ih =>
    obtain ⟨s, rfl⟩ := ha
    obtain ⟨t, rfl⟩ := hc
    cases b with
    | nil => exact absurd (List.nil_lt_cons x (u ++ s)) h1
    | cons y b =>
      have h1' : ¬ (y < x ∨ y = x ∧ b < u ++ s) := fun h => h1 (List.cons_lt_cons_iff.mpr h)
      have h2' : ¬ (x < y ∨ x = y ∧ u ++ t < b) := fun h => h2 (List.cons_lt_cons_iff.mpr h)
      have e : x = y := by
        rcases Nat.lt_trichotomy x y with h | h | h
        · exact absurd (.inl h) h2'
        · exact h
        · exact absurd (.inl h) h1'
      subst e
      have := ih (a := u ++ s) (c := u ++ t) (b := b) (List.prefix_append u s) (List.prefix_append u t) (fun h => h1' (.inr ⟨rfl, h⟩)) (fun h => h2' (.inr ⟨rfl, h⟩))
      exact (List.cons_prefix_cons).mpr ⟨rfl, this⟩
theorem lcp_lt {a b : W} (h : a < b) : lcp a b < b.length := by
  rcases Nat.lt_or_ge (lcp a b) b.length with g | g
  · exact g
  · exfalso
    have e : lcp a b = b.length := Nat.le_antisymm (lcp_le_right a b) g
    have q := lcp_take a b
    rw [e, List.take_length] at q
    exact pre_nlt (show b <+: a from q ▸ List.take_prefix b.length a) h
theorem lt_take {a b : W} (h : a < b) {j : Nat} (hj : lcp a b < j) : a < b.take j := by
  induction a generalizing b j with
  | nil =>
    cases b with
    | nil => exact absurd h (irr _)
    | cons y b =>
      cases j with
      | zero => omega
      | succ j => rw [List.take_succ_cons]; exact List.nil_lt_cons _ _
  | cons x a ih =>
    cases b with
    | nil => exact absurd h (List.not_lt_nil _)
    | cons y b =>
      cases j with
      | zero => omega
      | succ j =>
        rw [List.take_succ_cons]
        rcases List.cons_lt_cons_iff.mp h with q | ⟨rfl, q⟩
        · exact List.cons_lt_cons_iff.mpr (.inl q)
        · rw [lcp_cons, if_pos rfl] at hj
          exact List.cons_lt_cons_iff.mpr (.inr ⟨rfl, ih q (by omega)⟩)
theorem not_pre {a b : W} {j : Nat} (hj : lcp a b < j) (hb : j ≤ b.length) : ¬ b.take j <+: a := fun h => by
  have := le_lcp h (List.take_prefix j b)
  rw [List.length_take] at this
  omega
/-! all words by the ends in order -/
def blk (prev : W) : List W → List W
  | [] => []
  | s :: r => ((List.range (s.length - lcp prev s)).map fun j => s.take (lcp prev s + j + 1)) ++ blk s r
theorem blk_mem {prev : W} {ss : List W} (h : (prev :: ss).Pairwise (· < ·)) (u : W) : u ∈ blk prev ss ↔ u ≠ [] ∧ (∃ s ∈ ss, u <+: s) ∧ ¬ u <+: prev := by
  induction ss generalizing prev with
  | nil => simp [blk]
  | cons s r ih =>
    have hps : prev < s := (List.pairwise_cons.mp h).1 s List.mem_cons_self
    have hr := (List.pairwise_cons.mp h).2
    have hl := lcp_lt hps
    rw [blk, List.mem_append, ih hr]
    constructor
    · rintro (hm | ⟨h0, ⟨s', hs', hp⟩, hn⟩)
      · obtain ⟨j, hj, rfl⟩ := List.mem_map.mp hm
        have hj' := List.mem_range.mp hj
        refine ⟨fun e => ?_, ⟨s, List.mem_cons_self, List.take_prefix _ _⟩, not_pre (by omega) (by omega)⟩
        have := congrArg List.length e
        rw [List.length_take, List.length_nil] at this
        omega
      · refine ⟨h0, ⟨s', List.mem_cons_of_mem _ hs', hp⟩, fun hq => hn ?_⟩
        exact between hq hp (asy hps) (asy ((List.pairwise_cons.mp hr).1 s' hs'))
    · rintro ⟨h0, ⟨s', hs', hp⟩, hn⟩
      by_cases hu : u <+: s
      · left
        have hlu : lcp prev s < u.length := by
          rcases Nat.lt_or_ge (lcp prev s) u.length with g | g
          · exact g
          · refine absurd ?_ hn
            have e : u = s.take u.length := List.prefix_iff_eq_take.mp hu
            rw [e]
            exact pre_of_le (by rw [lcp_comm]; exact g)
        have hlen : u.length ≤ s.length := hu.length_le
        refine List.mem_map.mpr ⟨u.length - lcp prev s - 1, List.mem_range.mpr (by omega), ?_⟩
        rw [show lcp prev s + (u.length - lcp prev s - 1) + 1 = u.length by omega]
        exact (List.prefix_iff_eq_take.mp hu).symm
      · right
        refine ⟨h0, ?_, hu⟩
        rcases List.mem_cons.mp hs' with e | hs'
        · rw [e] at hp; exact absurd hp hu
        · exact ⟨s', hs', hp⟩
theorem blk_gt {prev : W} {ss : List W} (h : (prev :: ss).Pairwise (· < ·)) : ∀ u ∈ blk prev ss, prev < u := by
  intro u hu
  obtain ⟨h0, ⟨s, hs, hp⟩, hn⟩ := (blk_mem h u).mp hu
  have hps : prev < s := (List.pairwise_cons.mp h).1 s hs
  have e : u = s.take u.length := List.prefix_iff_eq_take.mp hp
  rw [e]
  refine lt_take hps ?_
  rcases Nat.lt_or_ge (lcp prev s) u.length with g | g
  · exact g
  · refine absurd ?_ hn
    rw [e]
    exact pre_of_le (by rw [lcp_comm]; exact g)
theorem take_lt_take {s : W} {i j : Nat} (h : i < j) (hj : j ≤ s.length) : s.take i < s.take j := by
  have e : s.take j = s.take i ++ (s.drop i).take (j - i) := by
    rw [← List.take_add, show i + (j - i) = j by omega]
  rw [e]
  refine lt_app fun q => ?_
  have := congrArg List.length q
  rw [List.length_take, List.length_drop, List.length_nil] at this
  omega
theorem blk_sorted {prev : W} {ss : List W} (h : (prev :: ss).Pairwise (· < ·)) : (blk prev ss).Pairwise (· < ·) := by
  induction ss generalizing prev with
  | nil => exact List.Pairwise.nil
  | cons s r ih =>
    have hr := (List.pairwise_cons.mp h).2
    rw [blk, List.pairwise_append]
    refine ⟨?_, ih hr, fun a ha b hb => ?_⟩
    · rw [List.pairwise_map]
      refine List.Pairwise.imp_of_mem (R := fun i j => i < j) (fun {i j} hi hj hij => ?_) List.pairwise_lt_range
      have := List.mem_range.mp hj
      exact take_lt_take (by omega) (by omega)
    · obtain ⟨j, hj, rfl⟩ := List.mem_map.mp ha
      exact lt_of_nlt_of_lt (pre_nlt (List.take_prefix _ _)) (blk_gt hr b hb)
/-- two lists in order with the same members -/
theorem sorted_unique {l m : List W} (hl : l.Pairwise (· < ·)) (hm : m.Pairwise (· < ·)) (h : ∀ u, u ∈ l ↔ u ∈ m) : l = m := by
  induction l generalizing m with
  | nil =>
    cases m with
    | nil => rfl
    | cons b m => exact absurd ((h b).mpr List.mem_cons_self) (by simp)
  | cons a l ih =>
    cases m with
    | nil => exact absurd ((h a).mp List.mem_cons_self) (by simp)
    | cons b m =>
      have hla := (List.pairwise_cons.mp hl).1
      have hmb := (List.pairwise_cons.mp hm).1
      have e : a = b := by
        rcases List.mem_cons.mp ((h a).mp List.mem_cons_self) with e | e
        · exact e
        · rcases List.mem_cons.mp ((h b).mpr List.mem_cons_self) with e' | e'
          · exact e'.symm
          · exact absurd (hmb a e) (asy (hla b e'))
      subst e
      congr 1
      refine ih (List.pairwise_cons.mp hl).2 (List.pairwise_cons.mp hm).2 fun u => ⟨fun hu => ?_, fun hu => ?_⟩
      · rcases List.mem_cons.mp ((h u).mp (List.mem_cons_of_mem _ hu)) with e | e
        · rw [e] at hu; exact absurd (hla a hu) (irr _)
        · exact e
      · rcases List.mem_cons.mp ((h u).mpr (List.mem_cons_of_mem _ hu)) with e | e
        · rw [e] at hu; exact absurd (hmb a hu) (irr _)
        · exact e
/-! what stands twice -/
end Wd

set_option autoImplicit false
namespace Wd
/-! periods, borders -/
def Per (w : W) (p : Nat) : Prop := ∀ i, i + p < w.length → w[i]? = w[i + p]?
/-- the beginning and the end of length b are the same -/
def Bd (w : W) (b : Nat) : Prop := w.take b = w.drop (w.length - b)
theorem Per.sub {w : W} {p q : Nat} (hp : Per w p) (hq : Per w q) (h : p < q) (hn : p + q ≤ w.length) : Per w (q - p) := by
  intro i hi
  rcases Nat.lt_or_ge i p with g | g
  · have h1 := hq i (by omega)
    have h2 := hp (i + (q - p)) (by omega)
    rw [show i + (q - p) + p = i + q by omega] at h2
    rw [h1, h2]
  · have h1 := hp (i - p) (by omega)
    have h2 := hq (i - p) (by omega)
    rw [show i - p + p = i by omega] at h1
    rw [show i - p + q = i + (q - p) by omega] at h2
    rw [← h1, h2]
/-! borders sign by sign -/
/-! Duval's step -/
end Wd

set_option autoImplicit false
set_option linter.unusedVariables false
namespace Wd
/-! Duval's walk over w: k and j, the places that are compared; j - k the length of the steady word that is read again and again -/
structure Duv (w : W) (k j : Nat) : Prop where
  lt : k < j
  le : j ≤ w.length
  st : St (w.take (j - k))
  per : ∀ x, x + (j - k) < j → w[x]? = w[x + (j - k)]?
end Wd

set_option autoImplicit false
set_option maxRecDepth 100000
set_option linter.unusedVariables false
namespace L2
open PySem PySem.Spec PyProof.Rows
/-- a def of the top that keeps its promise and can be called by its name -/
def Has (P : Program) (w : World) (K : PySem.W.Frag) (mg : Str → Option Value) (base : Heap) (CX : CXT) (k : Nat) (x : Str) (ps : List Str) (sp : Sp) : Prop :=
  ∃ (g : Addr) (gd : FuncData), FnOk P w K mg base CX k g gd ps sp ∧ Binds K gd ps [] ∧ PySem.W.keepIn K (.ref g) = true ∧ mg x = some (.ref g)
section
variable {X : Cx} {k : Nat} {ps : List Str} {sp : Sp} {x : Str} {p pos : Pos} {e : Expr} {es : List Expr} {t : TA}
theorem pe_fun (F : Has X.prog X.w X.K X.mg X.base CX0 k x ps sp) (hr : Room k X.A) (hg : Gl X x) (ha : PA X (e :: es) t) (hdb : (x == ("__debug__" : Str)) = false := by decide) (he : starEach (e :: es) X.env = (false, eval e X.env) :: starEach es X.env := by rfl) (hpl : (backTo pos (starEach es X.env)).any (·.1) = false := by rfl) :
    PE X (.Call (.Name x p) (e :: es) [] pos) (tCall sp [] E0 t) := by
  obtain ⟨g, gd, G, b, kp, m⟩ := F
  exact pe_call G hr hg m kp b .nil pass0 ha hdb he hpl
end
theorem Has.mono {P : Program} {w : World} {K : PySem.W.Frag} {mg : Str → Option Value} {base : Heap} {CX : CXT} {k : Nat} {x : Str} {ps : List Str} {sp sp' : Sp} (F : Has P w K mg base CX k x ps sp) (h : ∀ vs H Q E, sp' vs H Q E → sp vs H Q E) : Has P w K mg base CX k x ps sp' := by
  obtain ⟨g, gd, G, r⟩ := F
  exact ⟨g, gd, G.imp h, r⟩
theorem bMax : bootBuiltins "max" = some (.builtin "max") := by decide +kernel
theorem bTuple : bootBuiltins "tuple" = some (.type "tuple") := by decide +kernel
theorem bStr : bootBuiltins "str" = some (.type "str") := by decide +kernel
theorem bSet : bootBuiltins "set" = some (.type "set") := by decide +kernel
end L2
namespace L2
open PySem PySem.Spec PyProof.Rows
/-! texts of the letters a to z -/
def Low (t : Str) : Prop := ∀ c ∈ t.cps.toList, 97 ≤ c ∧ c ≤ 122
theorem low_abc : Low (Str.ofString "abcdefghijklmnopqrstuvwxyz") := by unfold Low; decide +kernel
theorem low_nil : Low (Str.ofString "") := by unfold Low; decide +kernel
theorem low_one {c : Nat} (h : 97 ≤ c ∧ c ≤ 122) : Low ⟨#[c]⟩ := fun d hd => by
  have e : d = c := by simpa using hd
  rw [e]; exact h
theorem app_cps (x y : Str) : (x ++ y).cps.toList = x.cps.toList ++ y.cps.toList := by
  show (x.cps ++ y.cps).toList = _
  rw [Array.toList_append]
theorem low_app {x y : Str} (h : Low x) (g : Low y) : Low (x ++ y) := fun c hc => by
  rw [app_cps, List.mem_append] at hc
  rcases hc with hc | hc
  · exact h c hc
  · exact g c hc
theorem low_slice {x : Str} (h : Low x) (lo hi : Option Int) : Low (Txt.slice x lo hi) := fun c hc => by
  rw [Eb.slice_cps] at hc
  unfold Eb.cutL at hc
  exact h c (List.mem_of_mem_drop (List.mem_of_mem_take hc))
theorem atI_mem {α : Type} {xs : List α} {i : Int} {c : α} (h : atI xs i = some c) : c ∈ xs := by
  unfold atI at h
  cases e : ixN xs.length i with
  | none => rw [e] at h; cases h
  | some j => rw [e] at h; exact List.mem_of_getElem? h
/-! a text's ends and beginnings, as lists of signs -/
theorem piece_cps (x : Str) (i j : Nat) : (Txt.slice x (some (i : Int)) (some (j : Int))).cps.toList = (x.cps.toList.take j).drop i := by
  rw [Eb.slice_cps]
  unfold Eb.cutL
  rw [Eb.six_nat, Eb.six_nat]
  have hl : x.cps.toList.length = x.length := len_list x
  rw [List.drop_take]
  by_cases h : i ≤ x.cps.toList.length
  · rw [Nat.min_eq_left h]
    by_cases h' : j ≤ x.cps.toList.length
    · rw [Nat.min_eq_left h']
    · rw [Nat.min_eq_right (by omega), List.take_of_length_le (by rw [List.length_drop]; omega), List.take_of_length_le (by rw [List.length_drop]; omega)]
  · rw [Nat.min_eq_right (show x.cps.toList.length ≤ i by omega), List.drop_length, List.drop_eq_nil_of_le (show x.cps.toList.length ≤ i by omega), List.take_nil, List.take_nil]
theorem str_eq {x y : Str} : x = y ↔ x.cps.toList = y.cps.toList := by
  constructor
  · intro h; rw [h]
  · intro h
    obtain ⟨a⟩ := x
    obtain ⟨b⟩ := y
    have : a = b := Array.toList_inj.mp h
    rw [this]
theorem str_nil : (Str.ofString "").cps.toList = [] := by decide +kernel
end L2
namespace L2
end L2
namespace L2
open PySem
theorem strs_ix {ps : List Str} {k : Nat} {p : Str} (h : ps[k]? = some p) {z : Int} (e : z = (k : Int)) : atI (ps.map V.str) z = some (.str p) := by
  subst e
  refine atI_nat ?_
  rw [List.getElem?_map, h]
  rfl
end L2
theorem L2.small1000' {n : Nat} (h : n ≤ 100000) : n < PySem.sizeLine := Nat.lt_of_le_of_lt h (by decide)
namespace Wd
end Wd
namespace L2
open PySem
end L2

set_option autoImplicit false
set_option maxRecDepth 100000
set_option maxHeartbeats 4000000
set_option linter.unusedVariables false
namespace L2
open PySem PySem.Spec PyProof.Rows
/-- a def whose code object is known -/
theorem Fun.okC {P : Program} {w : World} {K : PySem.W.Frag} {mg : Str → Option Value} {base : Heap} {x qual : Str} {st : Stmt} {f : Addr} {fd : FuncData} {N ps : List Str} {k : Nat} {sp : Sp} {cv : Value} (F : Fun K x qual st f fd) (hc : fd.code = cv) (S : FnScope N ps (defScope st)) (len : ∀ vs H Q E, sp vs H Q E → vs.length = ps.length)
    (hbody : ∀ (A : Around) (outer : List Env) (s : Shared) (H : Hp) (vs : List V) (Q : VK) (E : XK), Room k (A.deeper (envOfC qual (defScope st) s.heap.objs.size f cv)) → sp vs H Q E →
      ∃ t, PSs (cxOf CX0 P w K mg base N qual (defScope st) f cv A outer s H E).nox (defBody st) t ∧ t { nx := fun _ H' => Q .non H', rt := Q } (start N vs) H) : FnOk P w K mg base CX0 (k + 1) f fd ps sp := by
  obtain ⟨oc, od, kV, doc, pm, an, cdv, ct, osl, rfl, lk, hcd⟩ := F.ex
  have e : cdv = cv := hc
  subst e
  refine fn_of lk hcd S len fun A outer s H vs Q E hr hsp => ?_
  obtain ⟨t, h, q⟩ := hbody A outer s H vs Q E hr hsp
  exact ⟨t, h.nox, q⟩
/-! a lambda made for the first time, or again: the table of its maker's code -/
def Tab (pos : Pos) (q : Str) (T : Addr) (H : Hp) : Prop := H T = some (.tbl #[]) ∨ ∃ c' : Addr, H T = some (.tbl #[rawInt pos.line, rawInt pos.col, .ref c']) ∧ H c' = some (IsCodeOf q c')
theorem Tab.keep {pos : Pos} {q : Str} {T : Addr} {H H' : Hp} (t : Tab pos q T H) (g : Same H H') : Tab pos q T H' := by
  rcases t with t | ⟨c', t, u⟩
  · exact .inl (g _ _ t)
  · exact .inr ⟨c', g _ _ t, g _ _ u⟩
theorem Tab.some {pos : Pos} {q : Str} {T : Addr} {H : Hp} (t : Tab pos q T H) : ∃ o, H T = some o := by
  rcases t with t | ⟨c', t, _⟩
  · exact ⟨_, t⟩
  · exact ⟨_, t⟩
theorem SameBut.of {T : Addr} {H H' : Hp} (g : Same H H') : SameBut T H H' := fun b o _ e => g b o e
theorem SameBut.trans {T : Addr} {H H1 H2 : Hp} (a : SameBut T H H1) (b : SameBut T H1 H2) : SameBut T H H2 := fun x o n e => b x o n (a x o n e)
section
variable {X : Cx}
theorem triples_one (a b : Int) (c' : Addr) : TriplesOk (#[rawInt a, rawInt b, Value.ref c'] : Array Value).toList := by
  first
    | exact ⟨trivial, trivial⟩
    | (show TriplesOk [rawInt a, rawInt b, Value.ref c']; simp [TriplesOk])
    | (show TriplesOk [rawInt a, rawInt b, Value.ref c']; exact trivial)
theorem among_one (pos : Pos) (c' : Addr) : codeAmong pos (#[rawInt pos.line, rawInt pos.col, Value.ref c'] : Array Value).toList = some (.ref c') := by
  show codeAmong pos [rawInt pos.line, rawInt pos.col, Value.ref c'] = _
  unfold codeAmong
  simp [rawInt]
theorem pe_lamN {params : Arguments} {body : Expr} {scope : Scope} {pos : Pos} {clos : List (Str × Addr)} {c P : Addr} (L : LamCx X c P) (hdef : defaultsOf params X.env = ([], [])) (hcl : closureFor scope X.env = pure clos) :
    PE X (.Lambda params body scope pos) (fun σ H Q => H P = some (.tbl #[]) ∧ ∀ (f c' : Addr) (ctv pm : Value), H f = none → H c' = none → f ≠ c' → f ≠ P → c' ≠ P →
      Q (.ref f) (upd (upd (upd H P (.tbl #[rawInt pos.line, rawInt pos.col, .ref c'])) c' (IsCodeOf (X.env.qual ++ "<lambda>") c')) f (IsLam (X.env.qual ++ "<lambda>") params body scope clos pm c' ctv f))) := by
  intro pins s σ H Q I ⟨hP, q⟩
  have gP : s.heap.get? P = some (PySem.W.tabObj #[]) := I.hok P _ hP
  have hgs : s.heap.Ns mainGlobals X.mg := I.mod.glob.keeps I.bk
  have neP : ∀ {b : Addr} {o : Obj}, X.base.get? b = some o → b ≠ P := fun {b o} e z => by
    have := (I.bs b o e).2
    rw [z, hP] at this; cases this
  have hgP : mainGlobals ≠ P := by
    obtain ⟨o, es, ep, e, _⟩ := I.mod.glob
    exact neP e
  have hbm : s.heap.BuiltinsAt X.mg P := by
    obtain ⟨bm, o, a1, a2, a3, a4, a5, r⟩ := L.bm
    exact ⟨bm, o, a1, a2, a3, a4, I.bk _ _ a5, r⟩
  refine PySem.W.kla_eval hdef (PySem.W.kla_makeFunction (mg := X.mg) hcl I.ok.glob hgs L.code (L.hd.keeps I.bk) gP trivial rfl hgP hbm fun c' ctv h' tk hx hge hlt hrec htb => ?_)
  have hfsz : s.heap.objs.size ≤ h'.objs.size := Nat.le_trans hge (Nat.le_of_lt hlt)
  have hPlt : P < s.heap.objs.size := Heap.lt_size gP
  have nf : H h'.objs.size = none := I.hok.fresh hfsz
  have nc : H c' = none := I.hok.fresh hge
  have fc : h'.objs.size ≠ c' := Nat.ne_of_gt hlt
  have fP : h'.objs.size ≠ P := Nat.ne_of_gt (Nat.lt_of_lt_of_le hPlt hfsz)
  have cP : c' ≠ P := Nat.ne_of_gt (Nat.lt_of_lt_of_le hPlt hge)
  have old : ∀ b o, b ≠ P → s.heap.get? b = some o → (h'.push (PySem.W.kla_obj "<lambda>" (X.env.qual ++ "<lambda>") params body scope clos ((X.mg "__name__").getD .none) c' ctv)).get? b = some o := fun b o hb e => Heap.get?_push_of_some _ (hx b o hb e)
  have oldP : (h'.push (PySem.W.kla_obj "<lambda>" (X.env.qual ++ "<lambda>") params body scope clos ((X.mg "__name__").getD .none) c' ctv)).get? P = some (PySem.W.tabObj (#[] ++ #[rawInt pos.line, rawInt pos.col, .ref c'])) := Heap.get?_push_of_some _ htb
  have neH : ∀ {b : Addr} {u : HO}, H b = some u → b ≠ h'.objs.size ∧ b ≠ c' := fun e => ⟨ne_of_none e nf, ne_of_none e nc⟩
  refine ⟨.ref h'.objs.size, upd (upd (upd H P (.tbl (#[] ++ #[rawInt pos.line, rawInt pos.col, .ref c']))) c' (IsCodeOf (X.env.qual ++ "<lambda>") c')) h'.objs.size (IsLam (X.env.qual ++ "<lambda>") params body scope clos ((X.mg "__name__").getD .none) c' ctv h'.objs.size),
    I.un (t' := tk) ⟨fun b o e n _ _ => ?_, fun b o e n _ _ => ?_, fun b o e n _ => ?_, fun b o e _ => ?_, fun b xs e => ?_, fun b o u e => ?_, fun b ps e => ?_⟩ fun b u e => ?_, rfl, q _ c' ctv _ nf nc fc fP cP⟩
  · exact old b o (fun z => by rw [z, hP] at n; cases n) e
  · exact ⟨o.slots, old b o (fun z => by rw [z, hP] at n; cases n) e⟩
  · have hb := Heap.lt_size e
    rw [upd_ne (Nat.ne_of_lt (Nat.lt_of_lt_of_le hb hfsz)), upd_ne (Nat.ne_of_lt (Nat.lt_of_lt_of_le hb hge)), upd_ne (fun z => by rw [z, hP] at n; cases n)]
    exact n
  · by_cases hb : b = P
    · exact ⟨_, by rw [hb]; exact oldP⟩
    · exact ⟨o, old b o hb e⟩
  · rw [upd_ne (neH e).1, upd_ne (neH e).2, upd_ne (fun z => by rw [z, hP] at e; cases e)]; exact e
  · rw [upd_ne (neH e).1, upd_ne (neH e).2, upd_ne (fun z => by rw [z, hP] at e; cases e)]; exact e
  · by_cases hb : b = P
    · subst hb
      rw [hP] at e; cases e
      exact ⟨_, by rw [upd_ne (Ne.symm fP), upd_ne (Ne.symm cP), upd_same]⟩
    · exact ⟨#[], by rw [upd_ne (neH e).1, upd_ne (neH e).2, upd_ne hb, e]; simp⟩
  · by_cases h1 : b = h'.objs.size
    · subst h1
      rw [upd_same] at e; cases e
      exact ⟨Heap.get?_push_size _ rfl, ⟨_, Heap.get?_push_size _ rfl⟩, fun h1 h2 p k => k _ p⟩
    · rw [upd_ne h1] at e
      by_cases h2 : b = c'
      · subst h2
        rw [upd_same] at e; cases e
        have cr := codeRec_stay hrec fun o z => Heap.get?_push_of_some (PySem.W.kla_obj "<lambda>" (X.env.qual ++ "<lambda>") params body scope clos ((X.mg "__name__").getD .none) b ctv) z
        refine ⟨cr, ?_, fun h1 h2 p k => codeRec_stay p k⟩
        obtain ⟨c₂, oc, vs, t, e2, hoc, _⟩ := cr
        cases e2
        exact ⟨oc, hoc⟩
      · rw [upd_ne h2] at e
        by_cases h3 : b = P
        · subst h3
          rw [upd_same] at e; cases e
          exact oldP
        · rw [upd_ne h3] at e
          refine (I.hok b u e).stay (fun d o hd z => old d o ?_ z) (fun d z => ?_) fun d xs z => ?_
          · rcases hd with hd | hd
            · rw [hd]; exact h3
            · intro w; rw [w, hP] at hd; cases hd
          · rw [upd_ne (neH z).1, upd_ne (neH z).2, upd_ne (fun w => by rw [w, hP] at z; cases z)]; exact z
          · rw [upd_ne (neH z).1, upd_ne (neH z).2, upd_ne (fun w => by rw [w, hP] at z; cases z)]; exact z
/-- the lambda, its code, the table as they stand behind it -/
theorem pe_lamT {params : Arguments} {body : Expr} {scope : Scope} {pos : Pos} {clos : List (Str × Addr)} {c P : Addr} (L : LamCx X c P) (hdef : defaultsOf params X.env = ([], [])) (hcl : closureFor scope X.env = pure clos) :
    PE X (.Lambda params body scope pos) (fun σ H Q => Tab pos (X.env.qual ++ "<lambda>") P H ∧ ∀ (f c' : Addr) (ctv pm : Value) (H' : Hp), H f = none → f ≠ P → SameBut P H H' → H' P = some (.tbl #[rawInt pos.line, rawInt pos.col, .ref c']) →
      H' c' = some (IsCodeOf (X.env.qual ++ "<lambda>") c') → H' f = some (IsLam (X.env.qual ++ "<lambda>") params body scope clos pm c' ctv f) → Q (.ref f) H') := by
  intro pins s σ H Q I ⟨hT, q⟩
  rcases hT with hP | ⟨c', hP, hc⟩
  · refine pe_lamN L hdef hcl pins s σ H Q I ⟨hP, fun f c' ctv pm nf nc fc fP cP => ?_⟩
    refine q f c' ctv pm _ nf fP (fun b o hb e => ?_) ?_ ?_ upd_same
    · rw [upd_ne (ne_of_none e nf), upd_ne (ne_of_none e nc), upd_ne hb]; exact e
    · rw [upd_ne (Ne.symm fP), upd_ne (Ne.symm cP), upd_same]
    · rw [upd_ne (Ne.symm fc), upd_same]
  · have gP : s.heap.get? P = some (PySem.W.tabObj #[rawInt pos.line, rawInt pos.col, .ref c']) := I.hok P _ hP
    have hgs : s.heap.Ns mainGlobals X.mg := I.mod.glob.keeps I.bk
    have hbm : s.heap.BuiltinsAt X.mg P := by
      obtain ⟨bm, o, a1, a2, a3, a4, a5, r⟩ := L.bm
      exact ⟨bm, o, a1, a2, a3, a4, I.bk _ _ a5, r⟩
    refine PySem.W.kla_eval hdef (PySem.W.kla_makeFunctionHit (mg := X.mg) (cv := .ref c') hcl I.ok.glob hgs L.code (L.hd.keeps I.bk) gP (triples_one _ _ _) (among_one _ _) hbm fun ctv h' tk hk hle => ?_)
    have nf : H h'.objs.size = none := I.hok.fresh hle
    have fP : h'.objs.size ≠ P := Nat.ne_of_gt (Nat.lt_of_lt_of_le (Heap.lt_size gP) hle)
    have cP : c' ≠ h'.objs.size := ne_of_none hc nf
    refine ⟨.ref h'.objs.size, upd H h'.objs.size (IsLam (X.env.qual ++ "<lambda>") params body scope clos ((X.mg "__name__").getD .none) c' ctv h'.objs.size),
      I.laid (t' := tk) (fun b o e => Heap.get?_push_of_some _ (hk b o e)) hle ⟨Heap.get?_push_size _ rfl, ⟨_, Heap.get?_push_size _ rfl⟩, fun h1 h2 p k => k _ p⟩, rfl,
      q _ c' ctv _ _ nf fP (fun b o _ e => by rw [upd_ne (ne_of_none e nf)]; exact e) (by rw [upd_ne (Ne.symm fP)]; exact hP) (by rw [upd_ne cP]; exact hc) upd_same⟩
end
end L2

set_option autoImplicit false
set_option maxRecDepth 100000
set_option maxHeartbeats 4000000
set_option linter.unusedVariables false
namespace L2
open PySem PySem.Spec PyProof.Rows
/-! enumerate(list), its pairs unpacked on the spot -/
def Ite (K : PySem.W.Frag) (l : Addr) : It :=
  ⟨fun i H => ∃ xs x, SqL K H l xs ∧ xs[i]? = some x, fun i H v H' => ∃ a, H a = none ∧ v = .ref a ∧ ∀ xs x, SqL K H l xs → xs[i]? = some x → H' = upd H a (.tup [.int (i : Int), x]), fun i H => ∃ xs, SqL K H l xs ∧ xs.length ≤ i⟩
theorem Inv.turned2 {X : Cx} {pins : List (Addr × Obj)} {σ : St} {H : Hp} {s : Shared} {h' : Heap} {t' : Nat} {e it a : Addr} {o : HO} (I : Inv X pins σ H s) (k : ∀ b u, b ≠ e → b ≠ it → s.heap.get? b = some u → h'.get? b = some u) (fe : FpOk X pins H e) (fi : FpOk X pins H it) (ha : s.heap.objs.size ≤ a)
    (te : ∃ u, h'.get? e = some u) (ti : ∃ u, h'.get? it = some u) (new : ObjOk X.prog X.w (upd H a o) h' a o) : Inv X pins σ (upd H a o) { s with heap := h', toks := t' } := by
  have hN : H a = none := I.hok.fresh ha
  have ne : ∀ {b : Addr} {u : Obj}, s.heap.get? b = some u → b ≠ a := fun e z => by rw [z] at e; exact absurd (Heap.lt_size e) (Nat.not_lt.mpr ha)
  have tr : ∀ {b : Addr} {u : HO}, H b = some u → b ≠ e ∧ b ≠ it ∧ b ≠ a := fun {b u} q => ⟨ne_of_none q fe.1, ne_of_none q fi.1, ne_of_none q hN⟩
  have ch : ∀ {b : Addr}, b ∉ [e, it] → b ≠ e ∧ b ≠ it := fun {b} h => ⟨fun z => h (by simp [z]), fun z => h (by simp [z])⟩
  refine I.step (g' := s.gens) (d' := s.drawn) (ch := [e, it]) (fun b hb => ?_) (fun b u _ _ hc q _ => k b u (ch hc).1 (ch hc).2 q) (fun b u _ _ hc q _ => ⟨u.slots, k b u (ch hc).1 (ch hc).2 q⟩) (fun b u hc q n => by rw [upd_ne (ne q)]; exact n)
    (fun b u hc q => ⟨u, k b u (ch hc).1 (ch hc).2 q⟩) (fun b xs q => by rw [upd_ne (tr q).2.2]; exact q) (fun b u xs q => by rw [upd_ne (tr q).2.2]; exact q) (fun b ps q => ⟨#[], by rw [upd_ne (tr q).2.2, q]; simp⟩) (fun m hm => ?_) (fun b u q => ?_) I.bare
  · rcases List.mem_cons.mp hb with z | z
    · subst z; exact ⟨fe.2.2.2.1, fe.2.1, fe.2.2.2.2.1, fe.2.2.2.2.2⟩
    · have z := List.mem_singleton.mp z
      subst z; exact ⟨fi.2.2.2.1, fi.2.1, fi.2.2.2.2.1, fi.2.2.2.2.2⟩
  · obtain ⟨u, es, ep, hu, r⟩ := hm
    exact ⟨u, es, ep, k _ u (Ne.symm fe.2.1) (Ne.symm fi.2.1) hu, r⟩
  · by_cases hb : b = a
    · subst hb; rw [upd_same] at q; cases q; exact new
    · rw [upd_ne hb] at q
      refine (I.hok b u q).stay (fun c v hc z => k c v ?_ ?_ z) (fun c z => by rw [upd_ne (tr z).2.2]; exact z) fun c xs z => by rw [upd_ne (tr z).2.2]; exact z
      · rcases hc with z | z
        · rw [z]; exact (tr q).1
        · exact (tr z).1
      · rcases hc with z | z
        · rw [z]; exact (tr q).2.1
        · exact (tr z).2.1
theorem turn_enum {P : Program} {w : World} {K : PySem.W.Frag} {es : List Expr} {k} {pos : Pos} (l e it : Addr) (hne : e ≠ it) : Turn P w K (.Tuple es k pos) (Ite K l) [e, it] e (fun i h => ∃ old, IsEnum h e it (i : Int) old ∧ h.IsListIter it l i) where
  mem := by simp
  obj := fun i h st b hb => by
    obtain ⟨old, he, o, ho, c, d⟩ := st
    rcases List.mem_cons.mp hb with z | z
    · subst z
      exact ⟨_, he, fun v z => by cases z⟩
    · have z := List.mem_singleton.mp z
      subst z
      exact ⟨o, ho, fun v z => by rw [d] at z; cases z⟩
  keep := fun i h h' st k => by
    obtain ⟨old, he, hit⟩ := st
    exact ⟨old, k e (by simp) _ he, hit.at fun o q => k it (by simp) o q⟩
  item := by
    intro X hP hw hK hc i pins s σ H E I hf st hg
    subst hP hw hK
    obtain ⟨xs, x, hq, hx⟩ := hg
    obtain ⟨old, he, hit⟩ := st
    obtain ⟨its, rv, p, hz⟩ := I.list hq
    obtain ⟨u, hu, ru⟩ := rv.get hx
    have fe := hf e (by simp)
    have fi := hf it (by simp)
    refine wpAny_pyNext_enum_item he hit p.isList (x := u) (by simpa using hu) hne fun h₁ heo hit₁ ht₁ hz₁ hk₁ => ⟨_, rfl, ?_⟩
    refine wpAny_letOwnedTupleGo_enum heo fun h₂ he₂ hs₂ => ?_
    replace hs₂ : Heap.SameBut e h₁ h₂ := hs₂
    have heS : e < s.heap.objs.size := Heap.lt_size he
    have hit₂ : h₂.IsListIter it l (i + 1) := hit₁.extBut hs₂.extBut (Ne.symm hne)
    have tt : h₂.get? s.heap.objs.size = some { cls := .type "tuple", data := .seq #[.int i s.toks, u] } := (hs₂.2 _ (Nat.ne_of_gt heS)).trans ht₁
    have e1 : ((i + 1 : Nat) : Int) = (i : Int) + 1 := by push_cast; rfl
    refine ⟨.ref s.heap.objs.size, upd H s.heap.objs.size (.tup [.int (i : Int), x]), ?_, rfl, ⟨_, I.fresh, rfl, fun ys y hy hy' => ?_⟩, ⟨u, by rw [e1]; exact he₂, hit₂⟩, fun b hb => ?_⟩
    · refine I.turned2 (t' := s.toks + 1) (e := e) (it := it) (fun b o hbe hbi q => (hs₂.2 b hbe).trans (hk₁ b o hbe hbi q)) fe fi (Nat.le_refl _) ⟨_, he₂⟩ (let ⟨o, ho, _⟩ := hit₂; ⟨o, ho⟩) ?_
      exact ⟨(by show 2 ≤ sizeLine; decide), [.int i s.toks, u], .cons ⟨_, rfl⟩ (.cons ru .nil), _, tt, rfl, _, rfl⟩
    · have exs := I.list_inj hy hq
      subst exs
      rw [hx] at hy'
      cases hy'
      rfl
    · have hb' : b < s.heap.objs.size := by
        rcases List.mem_cons.mp hb with z | z
        · rw [z]; exact heS
        · rw [List.mem_singleton.mp z]
          obtain ⟨o, ho, _⟩ := hit
          exact Heap.lt_size ho
      rw [upd_ne (Nat.ne_of_lt hb')]
      exact (hf b hb).1
  done := by
    intro X hP hw hK hc i pins s σ H E I hf st hg
    subst hP hw hK
    obtain ⟨xs, hq, hx⟩ := hg
    obtain ⟨old, he, hit⟩ := st
    obtain ⟨its, rv, p, hz⟩ := I.list hq
    have fi := hf it (by simp)
    have hl := rv.length
    exact wpAny_pyNext_enum_end (I.ok.hd hc) he hit p.isList (by simp; omega) fun h' eb => ⟨rfl, I.turned (t' := s.toks) (fun b o hb e => eb b o hb e) fi.1 fi.2.1 fi.2.2.2.1 fi.2.2.2.2.1 fi.2.2.2.2.2⟩
  self := fun A i s Q E st h => by
    obtain ⟨old, he, hit⟩ := st
    exact wpAny_pyIter_enum he h
theorem bEnumerate : bootBuiltins "enumerate" = some (.type "enumerate") := by decide +kernel
section
variable {X : Cx}
def iEnum (K : PySem.W.Frag) (ta : TA) : TI := fun σ H R => ta σ H fun vs H1 => ∃ a, vs = [.ref a] ∧ (∃ xs, H1 a = some (.lst xs)) ∧ R (Ite K a) H1
theorem pi_enum {es : List Expr} {k} {tpos : Pos} {a : Expr} {ta : TA} {p pos : Pos} (hg : Gl X "enumerate") (hm : X.mg "enumerate" = none) (ha : PA X [a] ta) (hs : starEach [a] X.env = [(false, eval a X.env)] := by rfl) : PI X (.Tuple es k tpos) (.Call (.Name "enumerate" p) [a] [] pos) (iEnum X.K ta) := by
  intro pins s σ H R I h
  refine Call_ (ld_blt I hg hm bEnumerate (PyProof.Rows.callWith_type1 (thn (ha pos pins s σ H _ I h) fun us s1 ⟨vs, H1, I1, r1, q1⟩ => ?_) hs rfl))
  obtain ⟨l, e, ⟨xs, hl⟩, q⟩ := q1
  subst e
  obtain ⟨u, rfl, ru⟩ := vals1 r1
  cases ru
  obtain ⟨z, its, n, r, hll, hget⟩ := I1.lstM hl
  refine call_enumerate_1 hget fun h' he hit hsz hk => ?_
  refine wpAny_pyIter_enum he ?_
  refine ⟨s1.heap.objs.size + 1, [s1.heap.objs.size + 1, s1.heap.objs.size], _, _, H1, rfl, I1.kept (t' := s1.toks) hk, turn_enum l _ _ (Nat.succ_ne_self _), ⟨_, he, hit⟩, fun b hb => ?_, q⟩
  have hb' : s1.heap.objs.size ≤ b := by
    rcases List.mem_cons.mp hb with z | z
    · rw [z]; exact Nat.le_succ _
    · rw [List.mem_singleton.mp z]; exact Nat.le_refl _
  exact I1.fpOk hb' (I1.hok.fresh hb')
end
/-- over enumerate(list), the list as it is -/
theorem for_enum {K : PySem.W.Frag} {a : Addr} {xs : List V} {g : TG} {tb : TS} {D : Ends} {σ : St} {H : Hp} (Pv : Nat → St → Hp → Prop) (h0 : Pv 0 σ H) (hl : ∀ i σ H, i ≤ xs.length → Pv i σ H → SqL K H a xs)
    (hs : ∀ i x σ H b, xs[i]? = some x → Pv i σ H → H b = none → g (.ref b) σ (upd H b (.tup [.int (i : Int), x])) fun σ2 H2 => tb { D with nx := Pv (i + 1), ct := Pv (i + 1), bk := D.nx } σ2 H2) (hd : ∀ σ H, Pv xs.length σ H → D.nx σ H) :
    ∃ W : Nat → Nat → St → Hp → Prop, (∃ m, W 0 m σ H) ∧ ∀ i m σ H, W i m σ H →
      ((Ite K a).stop i H ∧ D.nx σ H) ∨ ((Ite K a).go i H ∧ ∃ N : St → Hp → Prop, (∀ σ' H', N σ' H' → ∃ m', m' < m ∧ W (i + 1) m' σ' H') ∧ ∀ x H', (Ite K a).yld i H x H' → g x σ H' fun σ2 H2 => tb { D with nx := N, ct := N, bk := D.nx } σ2 H2) := by
  refine ⟨fun i m σ H => m = xs.length - i ∧ i ≤ xs.length ∧ Pv i σ H, ⟨xs.length, by simp, Nat.zero_le _, h0⟩, ?_⟩
  rintro i m σ H ⟨rfl, hi, p⟩
  have q := hl i σ H hi p
  by_cases hlt : i < xs.length
  · have hx : xs[i]? = some xs[i] := List.getElem?_eq_getElem hlt
    refine .inr ⟨⟨xs, _, q, hx⟩, Pv (i + 1), fun σ' H' p' => ⟨xs.length - (i + 1), by omega, rfl, hlt, p'⟩, fun x H' y => ?_⟩
    obtain ⟨b, nb, rfl, hy⟩ := y
    rw [hy xs _ q hx]
    exact hs i _ σ H b hx p nb
  · have e : i = xs.length := by omega
    subst e
    exact .inl ⟨⟨xs, q, Nat.le_refl _⟩, hd σ H p⟩
end L2
namespace Wd
theorem lcp_succ {a b : W} {k x : Nat} (h : k ≤ lcp a b) (ha : a[k]? = some x) (hb : b[k]? = some x) : k + 1 ≤ lcp a b := by
  have la := (List.getElem?_eq_some_iff.mp ha).1
  have e : a.take (k + 1) = b.take (k + 1) := by
    rw [List.take_add_one, List.take_add_one, ha, hb]
    have := congrArg (List.take k) (lcp_take a b)
    rw [List.take_take, List.take_take, Nat.min_eq_left h] at this
    rw [this]
  have := le_lcp (List.take_prefix (k + 1) a) (e ▸ List.take_prefix (k + 1) b)
  rw [List.length_take] at this
  omega
theorem lcp_stop {a b : W} {k x y : Nat} (ha : a[k]? = some x) (hb : b[k]? = some y) (hne : x ≠ y) : lcp a b ≤ k := by
  rcases Nat.lt_or_ge k (lcp a b) with g | g
  · exfalso
    have := congrArg (fun l : W => l[k]?) (lcp_take a b)
    simp only [List.getElem?_take, if_pos g] at this
    rw [ha, hb] at this
    exact hne (Option.some.inj this)
  · exact g
/-- what each shares with the one ahead -/
def lcps (prev : W) : List W → List Nat
  | [] => []
  | s :: r => lcp prev s :: lcps s r
theorem lcps_len (prev : W) (ss : List W) : (lcps prev ss).length = ss.length := by
  induction ss generalizing prev with
  | nil => rfl
  | cons s r ih => rw [lcps, List.length_cons, List.length_cons, ih]
theorem lcps_zero (s : W) (ss : List W) : (lcps [] (s :: ss))[0]? = some 0 := by
  rw [lcps, lcp_nil_left]; rfl
theorem lcps_at {prev : W} {ss : List W} {k : Nat} {a b : W} (ha : ss[k]? = some a) (hb : ss[k + 1]? = some b) : (lcps prev ss)[k + 1]? = some (lcp a b) := by
  induction ss generalizing prev k with
  | nil => simp at ha
  | cons s r ih =>
    rw [lcps, List.getElem?_cons_succ]
    cases k with
    | zero =>
      have e : s = a := by simpa using ha
      subst e
      cases r with
      | nil => simp at hb
      | cons b' r =>
        have e : b' = b := by simpa using hb
        subst e
        rfl
    | succ k =>
      exact ih (by simpa using ha) (by simpa using hb)
theorem lcps_first {ss : List W} (h : 0 < ss.length) : (lcps [] ss)[0]? = some 0 := by
  cases ss with
  | nil => simp at h
  | cons s r => exact lcps_zero s r
/-- the places of all ends in their order -/
def Order (t : W) (ms : List Nat) : Prop := ms.Perm (List.range t.length) ∧ ms.Pairwise fun i j => t.drop i < t.drop j
theorem Order.len {t : W} {ms : List Nat} (h : Order t ms) : ms.length = t.length := by rw [h.1.length_eq, List.length_range]
theorem Order.lt {t : W} {ms : List Nat} (h : Order t ms) {k i : Nat} (e : ms[k]? = some i) : i < t.length := List.mem_range.mp (h.1.mem_iff.mp (List.mem_of_getElem? e))
theorem Order.ends {t : W} {ms : List Nat} (h : Order t ms) : (ms.map fun i => t.drop i).Pairwise (· < ·) := List.pairwise_map.mpr h.2
end Wd
namespace L2
open PySem PySem.Spec PyProof.Rows
theorem risingS_pw : ∀ (p : Str) (l : List Str), risingS p l = true → (p :: l).Pairwise fun a b => ¬ b.cps.toList < a.cps.toList
  | p, [], _ => List.pairwise_singleton _ _
  | p, x :: r, h => by
    have h' : (!ltCps x.cps.toList p.cps.toList && risingS x r) = true := h
    rw [Bool.and_eq_true, ltCps_eq] at h'
    have h1 : ¬ x.cps.toList < p.cps.toList := fun e => by rw [decide_eq_true e] at h'; exact absurd h'.1 (by decide)
    have ih := risingS_pw x r h'.2
    refine List.pairwise_cons.mpr ⟨fun y hy => ?_, ih⟩
    rcases List.mem_cons.mp hy with e | hy
    · rw [e]; exact h1
    · exact Wd.nlt_trans h1 ((List.pairwise_cons.mp ih).1 y hy)
theorem sortedS_pw : ∀ {l : List Str}, sortedS l = true → l.Pairwise fun a b => ¬ b.cps.toList < a.cps.toList
  | [], _ => List.Pairwise.nil
  | x :: r, h => risingS_pw x r h
end L2
namespace Wd
theorem blk_len2 (prev : W) (ss : List W) : (blk prev ss).length = (List.zipWith (fun (s : W) c => s.length - c) ss (lcps prev ss)).sum := by
  induction ss generalizing prev with
  | nil => rfl
  | cons s r ih => rw [blk, List.length_append, List.length_map, List.length_range, ih, lcps, List.zipWith_cons_cons, List.sum_cons]
theorem zip_at {ss : List W} {cs : List Nat} {k c : Nat} {s : W} (h1 : ss[k]? = some s) (h2 : cs[k]? = some c) : (List.zipWith (fun (s : W) c => s.length - c) ss cs)[k]? = some (s.length - c) := by
  rw [List.getElem?_zipWith, h1, h2]
theorem sum_take {l : List Nat} {k x : Nat} (h : l[k]? = some x) : (l.take (k + 1)).sum = (l.take k).sum + x := by
  rw [List.take_add_one, h, List.sum_append]; simp
theorem lcps_get {prev : W} {ss : List W} {k c : Nat} (h : (lcps prev ss)[k]? = some c) : ∃ s, ss[k]? = some s ∧ c ≤ s.length := by
  induction ss generalizing prev k with
  | nil => simp [lcps] at h
  | cons s r ih =>
    cases k with
    | zero =>
      rw [lcps] at h
      have e : lcp prev s = c := by simpa using h
      exact ⟨s, rfl, e ▸ lcp_le_right prev s⟩
    | succ k =>
      rw [lcps, List.getElem?_cons_succ] at h
      obtain ⟨s', h1, h2⟩ := ih h
      exact ⟨s', by simpa using h1, h2⟩
end Wd
namespace Wd
/-- a word of length n stands in both -/
def Common (a b : W) (n : Nat) : Prop := ∃ i j, i + n ≤ a.length ∧ j + n ≤ b.length ∧ (a.take (i + n)).drop i = (b.take (j + n)).drop j
theorem Common.less {a b : W} {n m : Nat} (h : Common a b n) (hm : m ≤ n) : Common a b m := by
  obtain ⟨i, j, h1, h2, e⟩ := h
  refine ⟨i, j, by omega, by omega, ?_⟩
  have := congrArg (List.take m) e
  rw [List.take_drop, List.take_drop, List.take_take, List.take_take, Nat.min_eq_left (by omega), Nat.min_eq_left (by omega)] at this
  exact this
end Wd

set_option autoImplicit false
namespace Wd
/-! where an end is less than all ahead of it: the falling parts -/
/-! borders, one letter after another -/
structure Kmp (t : W) (i L : Nat) (c : Nat) : Prop where
  le : L < i ∨ (i = 0 ∧ L = 0)
  bd : Bd (t.take i) L
  no : ∀ b, L < b → b < i → Bd (t.take i) b → t[b]? ≠ some c
end Wd

set_option autoImplicit false
namespace Wd
/-! steady words of a few letters, one after another -/
end Wd

set_option autoImplicit false
namespace Wd
/-! turns of a ring -/
def rot (a : W) (k : Nat) : W := a.drop k ++ a.take k
theorem rot_len (a : W) (k : Nat) : (rot a k).length = a.length := by
  unfold rot
  rw [List.length_append, List.length_drop, List.length_take]; omega
theorem rot_zero (a : W) : rot a 0 = a := by unfold rot; simp
theorem rot_back {a : W} {k : Nat} (h : k ≤ a.length) : rot (rot a k) (a.length - k) = a := by
  have hl : a.length - k = (a.drop k).length := by rw [List.length_drop]
  unfold rot
  rw [hl, List.drop_left, List.take_left, List.take_append_drop]
/-- the same ring -/
def Ring (a b : W) : Prop := (∃ k, k < a.length ∧ rot a k = b) ∨ (a = [] ∧ b = [])
theorem Ring.symm {a b : W} (h : Ring a b) : Ring b a := by
  rcases h with ⟨k, hk, rfl⟩ | ⟨rfl, rfl⟩
  · left
    rcases Nat.eq_zero_or_pos k with e | e
    · subst e
      exact ⟨0, by rw [rot_len]; omega, by rw [rot_zero, rot_zero]⟩
    · exact ⟨a.length - k, by rw [rot_len]; omega, rot_back (by omega)⟩
  · exact .inr ⟨rfl, rfl⟩
/-- the first place of a least turn among the first n -/
def Lt (a : W) (n m : Nat) : Prop := (∀ k, k < n → ¬ rot a k < rot a m) ∧ ∀ k, k < m → rot a m < rot a k
theorem Lt.step {a : W} {n m : Nat} (h : Lt a n m) (hm : m < n) (c : rot a n < rot a m) : Lt a (n + 1) n := by
  have lt : ∀ k, k < n → rot a n < rot a k := fun k hk => lt_of_lt_of_nlt c (h.1 k hk)
  refine ⟨fun k hk => ?_, lt⟩
  rcases Nat.eq_or_lt_of_le (Nat.le_of_lt_succ hk) with e | e
  · rw [e]; exact irr _
  · exact asy (lt k e)
theorem Lt.stay {a : W} {n m : Nat} (h : Lt a n m) (c : ¬ rot a n < rot a m) : Lt a (n + 1) m := by
  refine ⟨fun k hk => ?_, h.2⟩
  rcases Nat.eq_or_lt_of_le (Nat.le_of_lt_succ hk) with e | e
  · rw [e]; exact c
  · exact h.1 k e
theorem Lt.one (a : W) : Lt a 1 0 := ⟨fun k hk => by have e : k = 0 := by omega
                                                     rw [e]; exact irr _, fun k hk => by omega⟩
end Wd

set_option autoImplicit false
set_option maxRecDepth 100000
set_option linter.unusedVariables false
namespace PySem
/-! list(zip(a, b)): the pairs are kept, so each is a new one -/
theorem Eb.zip_no_len : typeLookup (.type "zip") "__len__" = pure none := by
  rw [typeLookup_type, builtinLookup_eq_fast]
  kernel_rfl
theorem Eb.zip_no_hint : typeLookup (.type "zip") "__length_hint__" = pure none := by
  rw [typeLookup_type, builtinLookup_eq_fast]
  kernel_rfl
abbrev ZipAs (h : Heap) (z TI TO : Addr) (f0 : Value) (fl : Bool) : Prop :=
  h.get? z = some { cls := .type "zip", dict := none, data := .fields #[f0, .bool fl, .bool false, .ref TI, .ref TO], slots := #[] }
section
variable {prog : Program} {w : World} {A : Around} {E : Value → Shared → Prop} {s : Shared}
theorem Eb.alive {α : Type} {a : Addr} {k : Option Obj → Sem α} {Q : α → Shared → Prop} (h : wpAny (model prog w) A (k (s.heap.get? a)) Q E s) : wpAny (model prog w) A (loadIfAlive a >>= k) Q E s := by
  intro Γ p hΓ
  have := h Γ p hΓ
  show Sem.wp _ _ (Sem.bind (.loadIfAlive a .pure) k) _ _ _ _
  simpa [Sem.bind] using this
/-- the last pair is still held: nothing is written into it -/
theorem Eb.not_free {z TI TO T : Addr} {fl : Bool} {o : Obj} {Q : Bool → Shared → Prop} (hz : ZipAs s.heap z TI TO (rawInt T) fl) (hT : s.heap.get? T = some o)
    (h : ∀ g, ZipAs g z TI TO (rawInt T) true → Heap.SameBut z s.heap g → Q false { s with heap := g }) : wpAny (model prog w) A (Builtin.SmallTypes.ownedTupleIsFree (.ref z)) Q E s := by
  unfold Builtin.SmallTypes.ownedTupleIsFree
  refine wpAny_bind (wpAny_field hz rfl (x := rawInt T) rfl ?_)
  show wpAny _ _ (loadIfAlive ((T : Int).toNat) >>= _) _ _ _
  refine Eb.alive ?_
  rw [Int.toNat_natCast, hT]
  simp only [Option.isNone_some, Bool.false_eq_true, if_false]
  refine wpAny_bind (wpAny_field hz rfl (x := .bool fl) rfl ?_)
  cases fl with
  | false =>
    rw [if_pos (by decide)]
    refine wpAny_bind (wpAny_setField_rec hz (by simp) fun g hg sg => wpAny_pure (h g hg sg))
  | true =>
    rw [if_neg (by decide)]
    exact wpAny_pure (h s.heap hz (Heap.SameBut.refl _ _))
theorem Eb.zip2_more {z TI TO i1 i2 l1 l2 T : Addr} {fl : Bool} {o : Obj} {k1 k2 : Nat} {xs ys : Array Value} {x y : Value} {Q : Value → Shared → Prop} (D : ZipApart z TI TO i1 i2 l1 l2) (hz : ZipAs s.heap z TI TO (rawInt T) fl) (hT : s.heap.get? T = some o)
    (hTI : IsPair s.heap TI (.ref i1) (.ref i2)) (h1 : s.heap.IsListIter i1 l1 k1) (h2 : s.heap.IsListIter i2 l2 k2) (m1 : s.heap.IsList l1 xs) (m2 : s.heap.IsList l2 ys) (hx : xs[k1]? = some x) (hy : ys[k2]? = some y)
    (hQ : ∀ g, ZipAs g z TI TO (rawInt T) true → g.IsListIter i1 l1 (k1 + 1) → g.IsListIter i2 l2 (k2 + 1) → IsPair g s.heap.objs.size x y → g.objs.size = s.heap.objs.size + 1 → (∀ c u, c ≠ z → c ≠ i1 → c ≠ i2 → s.heap.get? c = some u → g.get? c = some u) → Q (.ref s.heap.objs.size) { s with heap := g }) :
    wpAny (model prog w) A (Builtin.«zip.__next__» ⟨[.ref z], []⟩) (fun fin s' => ∃ v, fin = .done (.ret v) ∧ Q v s') E s := by
  show wpAny _ _ (field (.ref z) 2 >>= _) _ _ _
  refine wpAny_bind (wpAny_field hz rfl (x := .bool false) rfl ?_)
  show wpAny _ _ (field (.ref z) 3 >>= _) _ _ _
  refine wpAny_bind (wpAny_field hz rfl (x := .ref TI) rfl (wpAny_bind (wpAny_seqItems hTI rfl ?_)))
  show wpAny _ _ (Builtin.SmallTypes.ownedTupleIsFree (.ref z) >>= _) _ _ _
  refine wpAny_bind (Eb.not_free hz hT fun g1 hz1 s1 => ?_)
  simp only [Bool.false_eq_true, if_false]
  refine wpAny_bind ?_
  rw [← Array.forIn_toList]
  simp only [List.forIn_cons, List.forIn_nil]
  refine wpAny_bind (wpAny_bind (wpAny_holding ?_))
  show wpAny _ _ (Builtin.SmallTypes.nextOf (.ref i1) >>= _) _ _ _
  refine wpAny_bind (wpAny_nextOf_list_item (h1.extBut s1.extBut D.i1z) (m1.extBut s1.extBut D.l1z) hx fun g2 i2' s2 => wpAny_pure (wpAny_pure ?_))
  refine wpAny_bind (wpAny_bind (wpAny_holding ?_))
  show wpAny _ _ (Builtin.SmallTypes.nextOf (.ref i2) >>= _) _ _ _
  refine wpAny_bind (wpAny_nextOf_list_item ((h2.extBut s1.extBut D.i2z).extBut s2.extBut (Ne.symm D.i12)) ((m2.extBut s1.extBut D.l2z).extBut s2.extBut D.l2i1) hy fun g3 i3' s3 => wpAny_pure (wpAny_pure (wpAny_pure ?_)))
  refine wpAny_bind (wpAny_newTuple (wpAny_pure ⟨_, rfl, ?_⟩) (by show 2 ≤ sizeLine; decide))
  have hsz : g3.objs.size = s.heap.objs.size := by rw [s3.1, s2.1, s1.1]
  show Q (.ref g3.objs.size) { s with heap := g3.push { cls := .type "tuple", data := .seq #[x, y] } }
  have hz3 : ZipAs g3 z TI TO (rawInt T) true := s3.extBut _ _ (Ne.symm D.i2z) (s2.extBut _ _ (Ne.symm D.i1z) hz1)
  have hp : IsPair (g3.push { cls := .type "tuple", data := .seq #[x, y] }) g3.objs.size x y := Heap.get?_push_size _ rfl
  rw [hsz] at hp ⊢
  refine hQ _ (Heap.get?_push_of_some _ hz3) ((i2'.extBut s3.extBut D.i12).at fun u e => Heap.get?_push_of_some _ e) (i3'.at fun u e => Heap.get?_push_of_some _ e) hp (by rw [Heap.size_push, hsz]) fun c u c1 c2 c3 e => ?_
  exact Heap.get?_push_of_some _ (s3.extBut _ _ c3 (s2.extBut _ _ c2 (s1.extBut _ _ c1 e)))
theorem Eb.zip2_more_end {z TI TO i1 i2 l1 l2 T : Addr} {fl : Bool} {o : Obj} {k1 k2 : Nat} {xs ys : Array Value} {Q : Fin → Shared → Prop} (hh : A.handled = none) (D : ZipApart z TI TO i1 i2 l1 l2) (hz : ZipAs s.heap z TI TO (rawInt T) fl) (hT : s.heap.get? T = some o)
    (hTI : IsPair s.heap TI (.ref i1) (.ref i2)) (h1 : s.heap.IsListIter i1 l1 k1) (h2 : s.heap.IsListIter i2 l2 k2) (m1 : s.heap.IsList l1 xs) (m2 : s.heap.IsList l2 ys) (hend : xs[k1]? = none ∨ ys[k2]? = none)
    (hE : ∀ g e, (∀ c u, c ≠ z → c ≠ i1 → c ≠ i2 → s.heap.get? c = some u → g.get? c = some u) → (∃ u, g.get? e = some u ∧ u.cls = .type "StopIteration") → E (.ref e) { s with heap := g }) :
    wpAny (model prog w) A (Builtin.«zip.__next__» ⟨[.ref z], []⟩) Q E s := by
  show wpAny _ _ (field (.ref z) 2 >>= _) _ _ _
  refine wpAny_bind (wpAny_field hz rfl (x := .bool false) rfl ?_)
  show wpAny _ _ (field (.ref z) 3 >>= _) _ _ _
  refine wpAny_bind (wpAny_field hz rfl (x := .ref TI) rfl (wpAny_bind (wpAny_seqItems hTI rfl ?_)))
  show wpAny _ _ (Builtin.SmallTypes.ownedTupleIsFree (.ref z) >>= _) _ _ _
  refine wpAny_bind (Eb.not_free hz hT fun g1 hz1 s1 => ?_)
  simp only [Bool.false_eq_true, if_false]
  refine wpAny_bind ?_
  rw [← Array.forIn_toList]
  simp only [List.forIn_cons, List.forIn_nil]
  refine wpAny_bind (wpAny_bind (wpAny_holding ?_))
  show wpAny _ _ (Builtin.SmallTypes.nextOf (.ref i1) >>= _) _ _ _
  cases hx : xs[k1]? with
  | none => exact wpAny_bind (wpAny_nextOf_list_end hh (h1.extBut s1.extBut D.i1z) (m1.extBut s1.extBut D.l1z) hx fun g2 e s2 he => hE g2 e (fun c u c1 c2 c3 q => s2 _ _ c2 (s1.extBut _ _ c1 q)) he)
  | some x =>
    have hy : ys[k2]? = none := by rcases hend with h | h; (rw [hx] at h; cases h); exact h
    refine wpAny_bind (wpAny_nextOf_list_item (h1.extBut s1.extBut D.i1z) (m1.extBut s1.extBut D.l1z) hx fun g2 i2' s2 => wpAny_pure (wpAny_pure ?_))
    refine wpAny_bind (wpAny_bind (wpAny_holding ?_))
    show wpAny _ _ (Builtin.SmallTypes.nextOf (.ref i2) >>= _) _ _ _
    exact wpAny_bind (wpAny_nextOf_list_end hh ((h2.extBut s1.extBut D.i2z).extBut s2.extBut (Ne.symm D.i12)) ((m2.extBut s1.extBut D.l2z).extBut s2.extBut D.l2i1) hy fun g3 e s3 he => hE g3 e (fun c u c1 c2 c3 q => s3 _ _ c3 (s2.extBut _ _ c2 (s1.extBut _ _ c1 q))) he)
/-- a zip of two lists between two pairs that are kept -/
def Zip2St (z TI TO i1 i2 l1 l2 : Addr) (k : Nat) (h : Heap) : Prop :=
  (IsZip h z TI TO .none ∨ ∃ (T : Addr) (fl : Bool) (o : Obj), ZipAs h z TI TO (rawInt T) fl ∧ h.get? T = some o ∧ T ≠ z ∧ T ≠ TO ∧ T ≠ i1 ∧ T ≠ i2) ∧ IsPair h TI (.ref i1) (.ref i2) ∧ (∃ a b, IsPair h TO a b) ∧ h.IsListIter i1 l1 k ∧ h.IsListIter i2 l2 k
theorem Eb.pyNext_zip2 {z TI TO i1 i2 l1 l2 : Addr} {k : Nat} {xs ys : Array Value} {x y : Value} {Q : Option Value → Shared → Prop} (D : ZipApart z TI TO i1 i2 l1 l2) (hz : Zip2St z TI TO i1 i2 l1 l2 k s.heap) (m1 : s.heap.IsList l1 xs) (m2 : s.heap.IsList l2 ys) (hx : xs[k]? = some x) (hy : ys[k]? = some y)
    (hQ : ∀ g, Zip2St z TI TO i1 i2 l1 l2 (k + 1) g → IsPair g s.heap.objs.size x y → g.objs.size = s.heap.objs.size + 1 → (∀ c u, c ≠ z → c ≠ TO → c ≠ i1 → c ≠ i2 → s.heap.get? c = some u → g.get? c = some u) → Q (some (.ref s.heap.objs.size)) { s with heap := g }) :
    wpAny (model prog w) A (pyNext (.ref z)) Q E s := by
  obtain ⟨hz, hTI, ⟨a, b, hTO⟩, h1, h2⟩ := hz
  have lt : ∀ {c : Addr} {u : Obj}, s.heap.get? c = some u → s.heap.objs.size ≠ c := fun e => Nat.ne_of_gt (Heap.lt_size e)
  have l1' : s.heap.objs.size ≠ i1 := by obtain ⟨_, e, _⟩ := h1; exact lt e
  have l2' : s.heap.objs.size ≠ i2 := by obtain ⟨_, e, _⟩ := h2; exact lt e
  rcases hz with hz | ⟨T, fl, o, hz, hT, n1, n2, n3, n4⟩
  · refine wpAny_pyNext_zip_item D hz hTI hTO h1 h2 m1 m2 hx hy fun g a1 a2 a3 a4 a5 a6 a7 => hQ g ⟨.inr ⟨s.heap.objs.size, false, _, a1, a5, lt hz, lt hTO, l1', l2'⟩, ?_, ⟨_, _, a2⟩, a3, a4⟩ a5 a6 a7
    exact a7 _ _ D.TIz D.TITO D.TIi1 D.TIi2 hTI
  · have hTy : s.TypeIs (.ref z) "zip" := ⟨_, hz, rfl⟩
    unfold pyNext
    refine wpAny_bind (wpAny_attempt (wpAny_callSpecial?_slot (name := Str.ofString "__next__") hTy F.slot_zip_next ?_))
    refine wpAny_call_entry F.slot_zip_next hTy F.entry_zip_next (Eb.zip2_more D hz hT hTI h1 h2 m1 m2 hx hy fun g b1 b2 b3 b4 b5 b6 => wpAny_pure (hQ g ⟨.inr ⟨T, true, o, b1, ?_, n1, n2, n3, n4⟩, ?_, ⟨a, b, ?_⟩, b2, b3⟩ b4 b5 fun c u c1 _ c3 c4 e => b6 c u c1 c3 c4 e)) (F.args_zip_next_1 _)
    · exact b6 _ _ n1 n3 n4 hT
    · exact b6 _ _ D.TIz D.TIi1 D.TIi2 hTI
    · exact b6 _ _ D.TOz D.TOi1 D.TOi2 hTO
theorem Eb.pyNext_zip2_end {z TI TO i1 i2 l1 l2 : Addr} {k : Nat} {xs ys : Array Value} {Q : Option Value → Shared → Prop} (hh : A.handled = none) (D : ZipApart z TI TO i1 i2 l1 l2) (hz : Zip2St z TI TO i1 i2 l1 l2 k s.heap) (m1 : s.heap.IsList l1 xs) (m2 : s.heap.IsList l2 ys) (hend : xs[k]? = none ∨ ys[k]? = none)
    (hQ : ∀ g, (∀ c u, c ≠ z → c ≠ TO → c ≠ i1 → c ≠ i2 → s.heap.get? c = some u → g.get? c = some u) → Q none { s with heap := g }) : wpAny (model prog w) A (pyNext (.ref z)) Q E s := by
  obtain ⟨hz, hTI, ⟨a, b, hTO⟩, h1, h2⟩ := hz
  rcases hz with hz | ⟨T, fl, o, hz, hT, n1, n2, n3, n4⟩
  · exact wpAny_pyNext_zip_end hh D hz hTI hTO h1 h2 m1 m2 hend hQ
  · have hTy : s.TypeIs (.ref z) "zip" := ⟨_, hz, rfl⟩
    unfold pyNext
    refine wpAny_bind (wpAny_attempt (wpAny_callSpecial?_slot (name := Str.ofString "__next__") hTy F.slot_zip_next ?_))
    refine wpAny_call_entry F.slot_zip_next hTy F.entry_zip_next (Eb.zip2_more_end hh D hz hT hTI h1 h2 m1 m2 hend fun g e hk ⟨u, hu, hc⟩ => ?_) (F.args_zip_next_1 _)
    refine wpAny_bind (wpAny_isInstance (T := "StopIteration") (b := true) ⟨u, hu, hc⟩ isSubtype_stop (wpAny_pure (hQ _ fun c u c1 _ c3 c4 q => hk c u c1 c3 c4 q)))
/-- the pairs kept so far -/
def ZPairs (h : Heap) (S : Addr) (xs ys : Array Value) (k : Nat) (own : List Addr) (acc : Array Value) : Prop :=
  acc.size = k ∧ (∃ c : Nat, h.get? S = some { cls := .type "list", dict := none, data := .seq acc c, slots := #[] }) ∧ ∀ j, j < k → (∃ (T : Addr) (x y : Value), acc[j]? = some (.ref T) ∧ xs[j]? = some x ∧ ys[j]? = some y ∧ IsPair h T x y ∧ T ∉ own) ∧ ∀ j' T, j' < j → acc[j]? = some (.ref T) → acc[j']? ≠ some (.ref T)
theorem Eb.zip2_loop {R : Result → Shared → Prop} {z TI TO i1 i2 l1 l2 S : Addr} {xs ys : Array Value} {res : Value} (hh : A.handled = none) (D : ZipApart z TI TO i1 i2 l1 l2) (hn : min xs.size ys.size ≤ sizeLine) (hS : S ∉ [z, TI, TO, i1, i2, l1, l2]) (base : Heap) (bS : S < base.objs.size) :
    ∀ (m k : Nat) (s : Shared) (acc : Array Value), min xs.size ys.size - k = m → k ≤ min xs.size ys.size → Zip2St z TI TO i1 i2 l1 l2 k s.heap → s.heap.IsList l1 xs → s.heap.IsList l2 ys → ZPairs s.heap S xs ys k [S, z, TO, i1, i2] acc → base.objs.size ≤ s.heap.objs.size →
    (∀ j T, j < k → acc[j]? = some (.ref T) → base.objs.size ≤ T) →
    (∀ g acc', (∀ c u, c ∉ [S, z, TO, i1, i2] → s.heap.get? c = some u → g.get? c = some u) → ZPairs g S xs ys (min xs.size ys.size) [S, z, TO, i1, i2] acc' → (∀ j T, j < min xs.size ys.size → acc'[j]? = some (.ref T) → base.objs.size ≤ T) → R (.ok (.ret res)) { s with heap := g }) →
    codeAny (model prog w) A (.builtin "list.extend.loop" ⟨[.ref S, .ref z, res], []⟩) R s := by
  have hSs : S ≠ z ∧ S ≠ TI ∧ S ≠ TO ∧ S ≠ i1 ∧ S ≠ i2 ∧ S ≠ l1 ∧ S ≠ l2 := by
    simp only [List.mem_cons, List.not_mem_nil, or_false, not_or] at hS; exact hS
  obtain ⟨n1, n2, n3, n4, n5, n6, n7⟩ := hSs
  intro m
  induction m with
  | zero =>
    intro k s acc hm hk hz m1 m2 hP hb hT hR
    have e : k = min xs.size ys.size := by omega
    subst e
    refine codeAny_builtin F.entry_extend_loop ?_
    rw [Around.under_plainId F.plain_extend_loop _]
    show wpAny _ A.in1 (pyNext (.ref z) >>= _) _ _ s
    refine wpAny_bind (Eb.pyNext_zip2_end (A := A.in1) hh D hz m1 m2 ?_ fun g hk => wpAny_pure (hR g acc (fun c u hc e => hk c u ?_ ?_ ?_ ?_ e) ⟨hP.1, ?_, fun j hj => ?_⟩ hT))
    · rcases Nat.le_total xs.size ys.size with h | h
      · exact .inl (Array.getElem?_eq_none (by rw [Nat.min_eq_left h]; exact Nat.le_refl _))
      · exact .inr (Array.getElem?_eq_none (by rw [Nat.min_eq_right h]; exact Nat.le_refl _))
    · exact fun e => hc (by simp [e])
    · exact fun e => hc (by simp [e])
    · exact fun e => hc (by simp [e])
    · exact fun e => hc (by simp [e])
    · obtain ⟨c, h⟩ := hP.2.1
      exact ⟨c, hk _ _ n1 n3 n4 n5 h⟩
    · obtain ⟨⟨T, x, y, h1, h2, h3, h4, h5⟩, h6⟩ := hP.2.2 j hj
      have h5' := h5
      simp only [List.mem_cons, List.not_mem_nil, or_false, not_or] at h5'
      exact ⟨⟨T, x, y, h1, h2, h3, hk _ _ h5'.2.1 h5'.2.2.1 h5'.2.2.2.1 h5'.2.2.2.2 h4, h5⟩, h6⟩
  | succ m ih =>
    intro k s acc hm hk hz m1 m2 hP hb hT hR
    have hlt : k < min xs.size ys.size := by omega
    have hx : xs[k]? = some xs[k] := Array.getElem?_eq_getElem (by omega)
    have hy : ys[k]? = some ys[k] := Array.getElem?_eq_getElem (by omega)
    obtain ⟨c, hSc⟩ := hP.2.1
    refine codeAny_builtin F.entry_extend_loop ?_
    rw [Around.under_plainId F.plain_extend_loop _]
    show wpAny _ A.in1 (pyNext (.ref z) >>= _) _ _ s
    refine wpAny_bind (Eb.pyNext_zip2 (A := A.in1) D hz m1 m2 hx hy fun g hz' hp hs hk' => ?_)
    have hSg := hk' _ _ n1 n3 n4 n5 hSc
    have lS : S < s.heap.objs.size := Heap.lt_size hSc
    have up : ∀ q u, q ≠ S → g.get? q = some u → (g.update S (Obj.mapSeq (·.push (Value.ref s.heap.objs.size)))).get? q = some u := fun q u hq e => (Heap.get?_update_other _ _ (Ne.symm hq)).trans e
    have hz'' : Zip2St z TI TO i1 i2 l1 l2 (k + 1) (g.update S (Obj.mapSeq (·.push (Value.ref s.heap.objs.size)))) := by
      obtain ⟨w1, w2, ⟨a, b, w3⟩, w4, w5⟩ := hz'
      refine ⟨?_, up _ _ (Ne.symm n2) w2, ⟨a, b, up _ _ (Ne.symm n3) w3⟩, w4.at fun u e => up _ u (Ne.symm n4) e, w5.at fun u e => up _ u (Ne.symm n5) e⟩
      rcases w1 with w1 | ⟨T, fl, o, w1, w6, w7⟩
      · exact .inl (up _ _ (Ne.symm n1) w1)
      · by_cases e : T = S
        · subst e
          exact .inr ⟨T, fl, _, up _ _ (Ne.symm n1) w1, Heap.get?_update_self _ hSg rfl, w7⟩
        · exact .inr ⟨T, fl, o, up _ _ (Ne.symm n1) w1, up _ _ e w6, w7⟩
    have ne : ∀ {q : Addr} {u : Obj}, s.heap.get? q = some u → s.heap.objs.size ≠ q := fun e => Nat.ne_of_gt (Heap.lt_size e)
    have nTo : s.heap.objs.size ≠ TO := by obtain ⟨_, _, ⟨a, b, h⟩, _⟩ := hz; exact ne h
    have nz : s.heap.objs.size ≠ z := by
      obtain ⟨h, _⟩ := hz
      rcases h with h | ⟨_, _, _, h, _⟩
      · exact ne h
      · exact ne h
    have ni1 : s.heap.objs.size ≠ i1 := by obtain ⟨_, _, _, ⟨_, h, _⟩, _⟩ := hz; exact ne h
    have ni2 : s.heap.objs.size ≠ i2 := by obtain ⟨_, _, _, _, ⟨_, h, _⟩⟩ := hz; exact ne h
    show wpAny _ A.in1 (updateSeq S (·.push (.ref s.heap.objs.size)) >>= _) _ _ _
    refine wpAny_bind (wpAny_updateSeq hSg rfl (wpAny_pure ⟨plainId_quiet F.plain_extend_loop _, ih (k + 1) _ (acc.push (.ref s.heap.objs.size)) (by omega) hlt hz'' ?_ ?_ ⟨by rw [Array.size_push, hP.1], ⟨_, Heap.get?_update_self _ hSg rfl⟩, fun j hj => ?_⟩ ?_ (fun j T hj e => ?_) fun g' acc' hk'' hP' hT' => ?_⟩) (by rw [hP.1]; omega) (by show (acc.push _).size ≤ sizeLine + 1; rw [Array.size_push, hP.1]; omega))
    · exact m1.at fun u e => up _ u (Ne.symm n6) (hk' _ _ D.l1z D.l1TO D.l1i1 D.l1i2 e)
    · exact m2.at fun u e => up _ u (Ne.symm n7) (hk' _ _ D.l2z D.l2TO D.l2i1 D.l2i2 e)
    · have old : ∀ j', j' < k → (acc.push (.ref s.heap.objs.size))[j']? = acc[j']? := fun j' hj' => by
        rw [Array.getElem?_push, if_neg (by rw [hP.1]; omega)]
      rcases Nat.lt_or_ge j k with hjk | hjk
      · obtain ⟨⟨T, x, y, h1, h2, h3, h4, h5⟩, h6⟩ := hP.2.2 j hjk
        have h5' := h5
        simp only [List.mem_cons, List.not_mem_nil, or_false, not_or] at h5'
        refine ⟨⟨T, x, y, ?_, h2, h3, up _ _ h5'.1 (hk' _ _ h5'.2.1 h5'.2.2.1 h5'.2.2.2.1 h5'.2.2.2.2 h4), h5⟩, fun j' T' hj' e => ?_⟩
        · rw [old j hjk]; exact h1
        · rw [old j hjk] at e
          rw [old j' (by omega)]
          exact h6 j' T' hj' e
      · have ej : j = k := by omega
        subst ej
        refine ⟨⟨s.heap.objs.size, _, _, ?_, hx, hy, up _ _ (Nat.ne_of_gt lS) hp, ?_⟩, fun j' T' hj' e e' => ?_⟩
        · rw [Array.getElem?_push, if_pos (by rw [hP.1])]
        · simp only [List.mem_cons, List.not_mem_nil, or_false, not_or]
          exact ⟨Nat.ne_of_gt lS, nz, nTo, ni1, ni2⟩
        · rw [Array.getElem?_push, if_pos (by rw [hP.1])] at e
          rw [old j' hj'] at e'
          obtain ⟨⟨T, x, y, h1, _, _, h4, _⟩, _⟩ := hP.2.2 j' hj'
          rw [h1] at e'
          have e1 : T = T' := by injection e' with e'; injection e'
          have e2 : s.heap.objs.size = T' := by injection e with e; injection e
          rw [e1, ← e2] at h4
          exact absurd (Heap.lt_size h4) (Nat.lt_irrefl _)
    · rw [Heap.size_update, hs]; omega
    · rw [Array.getElem?_push] at e
      split at e
      · cases e; exact hb
      · rename_i hne
        rw [hP.1] at hne
        exact hT j T (by omega) e
    · refine hR g' acc' (fun q u hq e => hk'' q u hq (up q u (fun x => hq (by simp [x])) (hk' q u ?_ ?_ ?_ ?_ e))) hP' hT'
      · exact fun x => hq (by simp [x])
      · exact fun x => hq (by simp [x])
      · exact fun x => hq (by simp [x])
      · exact fun x => hq (by simp [x])
theorem Eb.extend_zip2 {R : Result → Shared → Prop} {z TI TO i1 i2 l1 l2 S : Addr} {xs ys : Array Value} {res : Value} {c₀ : Nat} (hh : A.handled = none) (D : ZipApart z TI TO i1 i2 l1 l2) (hn : min xs.size ys.size ≤ sizeLine) (hS : S ∉ [z, TI, TO, i1, i2, l1, l2])
    (hz0 : IsZip s.heap z TI TO .none) (hz : Zip2St z TI TO i1 i2 l1 l2 0 s.heap) (m1 : s.heap.IsList l1 xs) (m2 : s.heap.IsList l2 ys) (hSg : s.heap.get? S = some { cls := .type "list", data := .seq #[] c₀ })
    (hR : ∀ g acc', (∀ c u, c ∉ [S, z, TO, i1, i2] → s.heap.get? c = some u → g.get? c = some u) → ZPairs g S xs ys (min xs.size ys.size) [S, z, TO, i1, i2] acc' → (∀ j T, j < min xs.size ys.size → acc'[j]? = some (.ref T) → s.heap.objs.size ≤ T) → R (.ok (.ret res)) { s with heap := g }) :
    wpAny (model prog w) A.in1 (Builtin.List.listExtendWith (.ref S) (.ref z) res)
      (fun fin s' => match fin with | .done f => R (.ok f) s' | .again c' => c'.quiet = true ∧ codeAny (model prog w) A c' R s') (fun e s' => R (.error e) s') s := by
  have hSs : S ≠ z ∧ S ≠ TI ∧ S ≠ TO ∧ S ≠ i1 ∧ S ≠ i2 ∧ S ≠ l1 ∧ S ≠ l2 := by
    simp only [List.mem_cons, List.not_mem_nil, or_false, not_or] at hS; exact hS
  obtain ⟨n1, n2, n3, n4, n5, n6, n7⟩ := hSs
  have hTy : s.TypeIs (.ref z) "zip" := ⟨_, hz0, rfl⟩
  unfold Builtin.List.listExtendWith
  refine wpAny_bind (wpAny_typeOf hTy ?_)
  have b1 : Builtin.List.listSameRef (.ref S) (.ref z) = false := by simp [Builtin.List.listSameRef, n1]
  have b2 : (Value.type "zip" == Value.type "list") = false := by decide
  have b3 : (Value.type "zip" == Value.type "tuple") = false := by decide
  simp only [b1, b2, b3, Bool.or_false, Bool.false_eq_true, if_false]
  refine wpAny_bind (wpAny_pyIter_zip hz0 (wpAny_bind (wpAny_holding ?_)))
  unfold Builtin.List.listLengthHint
  refine wpAny_bind (wpAny_specialOf hTy Eb.zip_no_len ?_)
  show wpAny _ A.in1 (specialOf (Value.ref z) (Str.ofString "__length_hint__") >>= _) _ _ _
  refine wpAny_bind (wpAny_specialOf hTy Eb.zip_no_hint (wpAny_pure ?_))
  show wpAny _ A.in1 (rule "list.extend.makes-room" >>= fun _ => Builtin.List.listTouch (.ref S) >>= fun _ => again (.builtin "list.extend.loop" ⟨[.ref S, .ref z, res], []⟩)) _ _ _
  refine wpAny_bind (wpAny_rule (wpAny_bind ?_))
  show wpAny _ A.in1 (updateSeq S (·.push .none) >>= fun _ => updateSeq S (·.pop)) _ _ _
  refine wpAny_bind (wpAny_updateSeq hSg rfl ?_)
  have hS2 := Heap.get?_update_self (Obj.mapSeq (·.push Value.none)) hSg rfl
  refine wpAny_updateSeq (hz := by seq_fits) hS2 rfl ?_
  have hS3 := Heap.get?_update_self (Obj.mapSeq (·.pop)) hS2 rfl
  have up : ∀ q u, q ≠ S → s.heap.get? q = some u → ((s.heap.update S (Obj.mapSeq (·.push Value.none))).update S (Obj.mapSeq (·.pop))).get? q = some u :=
    fun q u hq e => (Heap.get?_update_other _ _ (Ne.symm hq)).trans ((Heap.get?_update_other _ _ (Ne.symm hq)).trans e)
  have sz : ((s.heap.update S (Obj.mapSeq (·.push Value.none))).update S (Obj.mapSeq (·.pop))).objs.size = s.heap.objs.size := by rw [Heap.size_update, Heap.size_update]
  refine wpAny_pure ⟨plainId_quiet F.plain_extend_loop _, Eb.zip2_loop hh D hn hS s.heap (Heap.lt_size hSg) (min xs.size ys.size) 0 _ #[] rfl (Nat.zero_le _) ?_ ?_ ?_ ⟨rfl, ⟨_, hS3⟩, fun j hj => absurd hj (Nat.not_lt_zero _)⟩ (Nat.le_of_eq sz.symm) (fun j T hj => absurd hj (Nat.not_lt_zero _)) fun g acc' hk hP hT => ?_⟩
  · obtain ⟨w1, w2, ⟨a, b, w3⟩, w4, w5⟩ := hz
    exact ⟨.inl (up _ _ (Ne.symm n1) hz0), up _ _ (Ne.symm n2) w2, ⟨a, b, up _ _ (Ne.symm n3) w3⟩, w4.at fun u e => up _ u (Ne.symm n4) e, w5.at fun u e => up _ u (Ne.symm n5) e⟩
  · exact m1.at fun u e => up _ u (Ne.symm n6) e
  · exact m2.at fun u e => up _ u (Ne.symm n7) e
  · exact hR g acc' (fun q u hq e => hk q u hq (up q u (fun x => hq (by simp [x])) e)) hP hT
theorem Eb.call_list_zip2 {Q : Value → Shared → Prop} {z TI TO i1 i2 l1 l2 : Addr} {xs ys : Array Value} (hh : A.handled = none) (D : ZipApart z TI TO i1 i2 l1 l2) (hn : min xs.size ys.size ≤ sizeLine) (hlt : ∀ b ∈ [z, TI, TO, i1, i2, l1, l2], b < s.heap.objs.size)
    (hz0 : IsZip s.heap z TI TO .none) (hz : Zip2St z TI TO i1 i2 l1 l2 0 s.heap) (m1 : s.heap.IsList l1 xs) (m2 : s.heap.IsList l2 ys)
    (hQ : ∀ g acc', (∀ c u, c ∉ [z, TO, i1, i2] → s.heap.get? c = some u → g.get? c = some u) → ZPairs g s.heap.objs.size xs ys (min xs.size ys.size) [s.heap.objs.size, z, TO, i1, i2] acc' → (∀ j T, j < min xs.size ys.size → acc'[j]? = some (.ref T) → s.heap.objs.size + 1 ≤ T) → Q (.ref s.heap.objs.size) { s with heap := g }) :
    wpAny (model prog w) A (call (.type "list") [.ref z]) Q E s := by
  refine callType_codes (Q₁ := fun obj s₁ => obj = .ref s.heap.objs.size ∧ s₁ = { s with heap := s.heap.push { cls := .type "list", data := .seq #[] } }) F.called_list (F.typeCall_list_1 _) F.entry_list_init (code_list_new _ ⟨rfl, rfl⟩) fun obj s₁ ⟨e1, e2⟩ => ?_
  subst e1; subst e2
  have hS : (s.heap.push { cls := .type "list", data := .seq #[] }).get? s.heap.objs.size = some { cls := .type "list", data := .seq #[] } := Heap.get?_push_size _ rfl
  have hSn : s.heap.objs.size ∉ [z, TI, TO, i1, i2, l1, l2] := fun hm => Nat.lt_irrefl _ (hlt _ hm)
  refine ⟨⟨_, hS, rfl⟩, F.args_list_init_2 _ _, ?_⟩
  show wpAny _ A.in1.in1 (do let old ← Builtin.List.listItems (.ref s.heap.objs.size); Builtin.List.listUpdate (.ref s.heap.objs.size) (fun _ => #[]); letGo old.toList.reverse; Builtin.List.listExtendWith (.ref s.heap.objs.size) (.ref z) .none) _ _ _
  refine wpAny_bind ?_
  unfold Builtin.List.listItems
  refine wpAny_bind (wpAny_seqItems hS rfl (wpAny_pure ?_))
  show wpAny _ A.in1.in1 (updateSeq s.heap.objs.size (fun _ => #[]) >>= fun _ => letGo (#[] : Array Value).toList.reverse >>= fun _ => Builtin.List.listExtendWith (.ref s.heap.objs.size) (.ref z) .none) _ _ _
  refine wpAny_bind (wpAny_updateSeq hS rfl (wpAny_bind (wpAny_letGo ?_)))
  have hS2 := Heap.get?_update_self (Obj.mapSeq (fun _ => (#[] : Array Value))) hS rfl
  have up : ∀ q u, s.heap.get? q = some u → ((s.heap.push { cls := .type "list", data := .seq #[] }).update s.heap.objs.size (Obj.mapSeq (fun _ => (#[] : Array Value)))).get? q = some u :=
    fun q u e => (Heap.get?_update_other _ _ (Nat.ne_of_gt (Heap.lt_size e))).trans (Heap.get?_push_of_some _ e)
  refine Eb.extend_zip2 (A := A.in1) hh D hn hSn (up _ _ hz0) ?_ (m1.at fun u e => up _ u e) (m2.at fun u e => up _ u e) hS2 fun g acc' hk hP hT => ⟨rfl, hQ g acc' (fun q u hq e => hk q u (fun hm => ?_) (up q u e)) hP fun j T hj e => ?_⟩
  · obtain ⟨w1, w2, ⟨a, b, w3⟩, w4, w5⟩ := hz
    exact ⟨.inl (up _ _ hz0), up _ _ w2, ⟨a, b, up _ _ w3⟩, w4.at fun u e => up _ u e, w5.at fun u e => up _ u e⟩
  · rcases List.mem_cons.mp hm with x | x
    · rw [x] at e; exact absurd (Heap.lt_size e) (Nat.lt_irrefl _)
    · exact hq x
  · have := hT j T hj e
    rwa [Heap.size_update, Heap.size_push] at this
end
end PySem

set_option autoImplicit false
namespace Wd
/-! the word of a number, the number of a word -/
theorem zw_cons (s : W) (r : List W) (c : Nat) (cs : List Nat) : List.zipWith (fun (s : W) c => s.length - c) (s :: r) (c :: cs) = (s.length - c) :: List.zipWith (fun (s : W) c => s.length - c) r cs := rfl
theorem blk_at {prev : W} {ss : List W} {k n c : Nat} {s : W} (h1 : ss[k]? = some s) (h2 : (lcps prev ss)[k]? = some c) (h3 : ((List.zipWith (fun (s : W) c => s.length - c) ss (lcps prev ss)).take k).sum ≤ n)
    (h4 : n < ((List.zipWith (fun (s : W) c => s.length - c) ss (lcps prev ss)).take k).sum + (s.length - c)) : (blk prev ss)[n]? = some (s.take (c + (n - ((List.zipWith (fun (s : W) c => s.length - c) ss (lcps prev ss)).take k).sum) + 1)) := by
  induction ss generalizing prev k n with
  | nil => simp at h1
  | cons a r ih =>
    rw [lcps, zw_cons] at h3 h4 ⊢
    rw [blk]
    cases k with
    | zero =>
      have e1 : a = s := by simpa using h1
      have e2 : lcp prev a = c := by rw [lcps] at h2; simpa using h2
      subst e1; subst e2
      simp only [List.take_zero, List.sum_nil, Nat.zero_add, Nat.sub_zero] at h4 ⊢
      rw [List.getElem?_append_left (by rw [List.length_map, List.length_range]; exact h4), List.getElem?_map, List.getElem?_range h4]
      rfl
    | succ k =>
      rw [List.take_succ_cons, List.sum_cons] at h3 h4 ⊢
      rw [lcps, List.getElem?_cons_succ] at h2
      rw [List.getElem?_cons_succ] at h1
      rw [List.getElem?_append_right (by rw [List.length_map, List.length_range]; omega), List.length_map, List.length_range]
      rw [ih (n := n - (a.length - lcp prev a)) h1 h2 (by omega) (by omega)]
      congr 3
      omega
/-- the ends in order, each less than the next one, from nothing on -/
theorem Order.ends0 {t : W} {ms : List Nat} (h : Order t ms) : (([] : W) :: ms.map fun i => t.drop i).Pairwise (· < ·) := by
  refine List.pairwise_cons.mpr ⟨fun a ha => ?_, h.ends⟩
  obtain ⟨i, hi, rfl⟩ := List.mem_map.mp ha
  have := List.mem_range.mp (h.1.mem_iff.mp hi)
  cases e : t.drop i with
  | nil => have := congrArg List.length e; rw [List.length_drop, List.length_nil] at this; omega
  | cons x r => exact List.nil_lt_cons x r
/-- a word where it stands first in the order -/
theorem blk_first {prev : W} {ss : List W} {k : Nat} {s u : W} {c : Nat} (h1 : ss[k]? = some s) (h2 : (lcps prev ss)[k]? = some c) (hu : u <+: s) (hp : ¬ u <+: prev) (hno : ∀ j a, j < k → ss[j]? = some a → ¬ u <+: a) : c < u.length ∧
    (blk prev ss)[((List.zipWith (fun (s : W) c => s.length - c) ss (lcps prev ss)).take k).sum + u.length - c - 1]? = some u := by
  have hc : c < u.length := by
    rcases Nat.lt_or_ge c u.length with g | g
    · exact g
    · exfalso
      have e : u = s.take u.length := List.prefix_iff_eq_take.mp hu
      cases k with
      | zero =>
        cases ss with
        | nil => simp at h1
        | cons a r =>
          have e1 : a = s := by simpa using h1
          have e2 : lcp prev a = c := by rw [lcps] at h2; simpa using h2
          subst e1; subst e2
          exact hp (e ▸ pre_of_le (by rw [lcp_comm]; exact g))
      | succ k =>
        have hk : k + 1 < ss.length := (List.getElem?_eq_some_iff.mp h1).1
        have ha : ss[k]? = some ss[k] := List.getElem?_eq_getElem (by omega)
        have e2 := lcps_at (prev := prev) ha h1
        rw [h2] at e2
        have e3 : c = lcp ss[k] s := Option.some.inj e2
        exact hno k _ (by omega) ha (e ▸ pre_of_le (by rw [lcp_comm, ← e3]; exact g))
  refine ⟨hc, ?_⟩
  have hl := hu.length_le
  rw [blk_at (n := _ + u.length - c - 1) h1 h2 (by omega) (by omega)]
  rw [show c + (((List.zipWith (fun (s : W) c => s.length - c) ss (lcps prev ss)).take k).sum + u.length - c - 1 - ((List.zipWith (fun (s : W) c => s.length - c) ss (lcps prev ss)).take k).sum) + 1 = u.length by omega]
  exact congrArg some (List.prefix_iff_eq_take.mp hu).symm
/-! what stands at two places -/
theorem cut_take (t : W) (i n : Nat) : (t.take (i + n)).drop i = (t.drop i).take n := by rw [List.drop_take, show i + n - i = n by omega]
theorem Order.get {t : W} {ms : List Nat} (h : Order t ms) {i : Nat} (hi : i < t.length) : ∃ k : Nat, ms[k]? = some i := List.mem_iff_getElem?.mp (h.1.mem_iff.mpr (List.mem_range.mpr hi))
/-! what stands in two texts, written one behind the other with a sign between -/
theorem Order.range {t : W} {ms : List Nat} (h : Order t ms) {k1 k2 k a b c : Nat} {u : W} (h1 : ms[k1]? = some a) (h2 : ms[k2]? = some b) (hk : ms[k]? = some c) (g1 : k1 ≤ k) (g2 : k ≤ k2) (ua : u <+: t.drop a) (ub : u <+: t.drop b) : u <+: t.drop c := by
  have hp := List.pairwise_iff_getElem.mp h.2
  obtain ⟨l1, e1⟩ := List.getElem?_eq_some_iff.mp h1
  obtain ⟨l2, e2⟩ := List.getElem?_eq_some_iff.mp h2
  obtain ⟨l3, e3⟩ := List.getElem?_eq_some_iff.mp hk
  refine between ua ub ?_ ?_
  · rcases Nat.eq_or_lt_of_le g1 with e | e
    · subst e; rw [← e1, ← e3]; exact irr _
    · have := hp k1 k l1 l3 e; rw [e1, e3] at this; exact asy this
  · rcases Nat.eq_or_lt_of_le g2 with e | e
    · subst e; rw [← e2, ← e3]; exact irr _
    · have := hp k k2 l3 l2 e; rw [e2, e3] at this; exact asy this
theorem Order.uniq {t : W} {ms ms' : List Nat} (h : Order t ms) (h' : Order t ms') : ms = ms' := by
  have e : (ms.map fun i => t.drop i) = ms'.map fun i => t.drop i := sorted_unique h.ends h'.ends fun u => by
    constructor
    · intro hu
      obtain ⟨i, hi, rfl⟩ := List.mem_map.mp hu
      exact List.mem_map.mpr ⟨i, h'.1.mem_iff.mpr (h.1.mem_iff.mp hi), rfl⟩
    · intro hu
      obtain ⟨i, hi, rfl⟩ := List.mem_map.mp hu
      exact List.mem_map.mpr ⟨i, h.1.mem_iff.mpr (h'.1.mem_iff.mp hi), rfl⟩
  have back : ∀ {l : List Nat}, Order t l → (l.map fun i => t.drop i).map (fun u => t.length - u.length) = l := fun {l} hl => by
    rw [List.map_map]
    conv => rhs; rw [← List.map_id l]
    refine List.map_congr_left fun i hi => ?_
    have := List.mem_range.mp (hl.1.mem_iff.mp hi)
    show t.length - (t.drop i).length = i
    rw [List.length_drop]; omega
  rw [← back h, ← back h', e]
theorem cast_sum (l : List Nat) : (l.map fun (n : Nat) => (n : Int)).sum = ((l.sum : Nat) : Int) := by
  induction l with
  | nil => rfl
  | cons a r ih => rw [List.map_cons, List.sum_cons, List.sum_cons, ih]; omega
end Wd

set_option autoImplicit false
set_option maxRecDepth 100000
set_option maxHeartbeats 4000000
set_option linter.unusedVariables false
namespace L2
section
open PySem PySem.Builtin PySem.Builtin.Str
theorem preSum_take (ns : List Int) : ∀ k, k ≤ ns.length → preSum (fun i => ns.getD i 0) k = (ns.take k).sum
  | 0, _ => by rw [List.take_zero]; rfl
  | k + 1, h => by
    have ih := preSum_take ns k (by omega)
    have e : ns[k]? = some ns[k] := List.getElem?_eq_getElem (by omega)
    rw [List.take_add_one, List.sum_append, ← ih, e]
    show preSum _ k + ns.getD k 0 = _
    rw [List.getD_eq_getElem?_getD, e]
    simp
theorem sub_cps (x y : Str) (i : Nat) : Builtin.Str.subAt x y i = true ↔ (x.cps.toList.drop i).take y.length = y.cps.toList := by
  unfold Builtin.Str.subAt
  rw [beq_iff_eq]
  constructor
  · intro h
    have := congrArg Array.toList h
    simpa using this
  · intro h
    apply Array.toList_inj.mp
    simpa using h
end
open PySem PySem.Spec PyProof.Rows
theorem starts_cps (x y : Str) (k : Nat) : Txt.startswith3 x y ((k : Nat) : Int) = decide (k + y.length ≤ x.length ∧ (x.cps.toList.drop k).take y.length = y.cps.toList) := by
  unfold Txt.startswith3
  have e : fromIndex x.length (k : Int) = k := by unfold fromIndex; rw [if_neg (by omega)]; omega
  rw [e, Bool.eq_iff_iff, Bool.and_eq_true, decide_eq_true_eq, decide_eq_true_eq, sub_cps]
theorem bSum : bootBuiltins "sum" = some (.builtin "sum") := by decide +kernel
theorem bZip : bootBuiltins "zip" = some (.type "zip") := by decide +kernel
section
variable {X : Cx}
/-! text.startswith(word, place) -/
theorem mt_startswith : MtR X "str.startswith" (fun x vs H Q => ∃ (z y : Str) (i : Int), x = .str z ∧ vs = [.str y, .int i] ∧ Q (.bl (Txt.startswith3 z y i)) H) := by
  intro pins s σ H x vs v us Q I rx rv h
  obtain ⟨z, y, i, rfl, rfl, q⟩ := h
  obtain ⟨t, rfl⟩ := rx
  obtain ⟨u1, u2, rfl, ⟨t1, rfl⟩, ⟨t2, rfl⟩⟩ := rv.two
  exact SC.startswith3 ⟨.bl _, H, I, rfl, q⟩
/-! text.rstrip(signs), text.index(sign) -/
/-! all([..]) of truths -/
/-! sum([..]) of whole numbers -/
theorem call_sum_ints (hc : X.calm = true) : CallR X (.builtin "sum") (fun xs H Q => ∃ (p : Addr) (ns : List Int), xs = [.ref p] ∧ SqL X.K H p (ns.map V.int) ∧ Q (.int ns.sum) H) := by
  intro pins s σ H xs us Q I r h
  obtain ⟨p, ns, rfl, hq, q⟩ := h
  obtain ⟨u, rfl, rx⟩ := vals1 r
  cases rx
  obtain ⟨its, r', pl, hz⟩ := I.list hq
  have hlen := r'.length
  rw [List.length_map] at hlen
  have hpl : p < s.heap.objs.size := let ⟨o, ho, _⟩ := pl.isList; Heap.lt_size ho
  refine call_sum_walkAnyS (wpAny_pyIter_list pl.isList ?_)
  refine ⟨s.heap.objs.size, _, _, _, its.toArray.size, _, _, fun i => ns.getD i 0, rfl, (Walks.list (A := X.A.in1) (I.ok.hd hc) s.heap.objs.size p (Nat.ne_of_lt hpl) its.toArray).toS, ⟨⟨_, Heap.get?_push_size _ rfl, rfl, rfl⟩, pl.isList.push _⟩, fun b hb => ?_, fun i v hv => ?_, fun s' t' hm => ?_⟩
  · show b < (s.heap.push _).objs.size
    rw [Heap.size_push]
    rcases List.mem_cons.mp hb with e | e
    · rw [e]; exact Nat.lt_succ_self _
    · rw [List.mem_singleton.mp e]; exact Nat.lt_succ_of_lt hpl
  · have hv' : its[i]? = some v := by simpa using hv
    have hi : i < its.length := (List.getElem?_eq_some_iff.mp hv').1
    obtain ⟨b, hb⟩ : ∃ b, ns[i]? = some b := ⟨_, List.getElem?_eq_getElem (by omega)⟩
    obtain ⟨u, hu, ru⟩ := r'.get (i := i) (x := .int b) (by rw [List.getElem?_map, hb]; rfl)
    rw [hv'] at hu
    cases hu
    obtain ⟨t, rfl⟩ := ru
    exact ⟨t, by show _ = Value.int (ns.getD i 0) t; rw [List.getD_eq_getElem?_getD, hb]; rfl⟩
  · rw [Moved.eq_with hm]
    refine ⟨.int ns.sum, H, I.kept (t' := s'.toks) fun b o e => hm.heap b o (fun hm => ?_) (Heap.get?_push_of_some _ e), ⟨t', ?_⟩, q⟩
    · rw [List.mem_singleton.mp hm] at e
      exact absurd (Heap.lt_size e) (Nat.lt_irrefl _)
    · rw [List.size_toArray, ← hlen, preSum_take ns _ (Nat.le_refl _), List.take_length]
end
/-! what hands out tuples that are made on the spot -/
section
variable {X : Cx}
/-! enumerate(text) -/
end
end L2

set_option autoImplicit false
set_option maxRecDepth 100000
set_option maxHeartbeats 4000000
set_option linter.unusedVariables false
namespace L2
open PySem PySem.Spec PyProof.Rows
theorem vals_get : ∀ {xs : List V} {us : List Value}, xs.length = us.length → (∀ (i : Nat) x u, xs[i]? = some x → us[i]? = some u → RelV x u) → Vals xs us
  | [], [], _, _ => .nil
  | [], _ :: _, h, _ => by simp at h
  | _ :: _, [], h, _ => by simp at h
  | x :: xs, u :: us, h, g => .cons (g 0 x u rfl rfl) (vals_get (by simpa using h) fun i y v h1 h2 => g (i + 1) y v (by simpa using h1) (by simpa using h2))
/-- several new objects at once -/
theorem Inv.laidMany {X : Cx} {pins : List (Addr × Obj)} {σ : St} {H H' : Hp} {s : Shared} {h' : Heap} {t' : Nat} (I : Inv X pins σ H s) (k : ∀ b u, s.heap.get? b = some u → h'.get? b = some u) (old : ∀ b, b < s.heap.objs.size → H' b = H b)
    (new : ∀ b o, s.heap.objs.size ≤ b → H' b = some o → ObjOk X.prog X.w H' h' b o) : Inv X pins σ H' { s with heap := h', toks := t' } := by
  have lt : ∀ {b : Addr} {u : HO}, H b = some u → b < s.heap.objs.size := fun {b u} q => by
    rcases Nat.lt_or_ge b s.heap.objs.size with g | g
    · exact g
    · rw [I.hok.fresh g] at q; cases q
  have st : ∀ {b : Addr} {u : HO}, H b = some u → H' b = some u := fun q => by rw [old _ (lt q)]; exact q
  refine I.step (g' := s.gens) (d' := s.drawn) (ch := []) (fun b hb => absurd hb (by simp)) (fun b u _ _ hc q _ => k b u q) (fun b u _ _ hc q _ => ⟨u.slots, k b u q⟩) (fun b u hc q n => by rw [old b (Heap.lt_size q)]; exact n)
    (fun b u hc q => ⟨u, k b u q⟩) (fun b xs q => st q) (fun b u xs q => st q) (fun b ps q => ⟨#[], by rw [st q]; simp⟩) (fun m hm => ?_) (fun b u q => ?_) I.bare
  · obtain ⟨u, es, ep, hu, r⟩ := hm
    exact ⟨u, es, ep, k _ u hu, r⟩
  · rcases Nat.lt_or_ge b s.heap.objs.size with g | g
    · rw [old b g] at q
      exact (I.hok b u q).stay (fun c v hc z => k c v z) (fun c z => st z) fun c xs z => st z
    · exact new b u g q
section
variable {X : Cx}
/-! list(zip(a, b)), two lists -/
def tListZip (K : PySem.W.Frag) (ta : TA) : TE := fun σ H Q => ta σ H fun vs H1 => ∃ a b xs ys, vs = [.ref a, .ref b] ∧ SqL K H1 a xs ∧ SqL K H1 b ys ∧ ∀ (D : Addr) (T : Nat → Addr) (H2 : Hp), Same H1 H2 → H1 D = none → (∀ i x y, xs[i]? = some x → ys[i]? = some y → H1 (T i) = none ∧ H2 (T i) = some (.tup [x, y])) →
  H2 D = some (.lst ((List.range (min xs.length ys.length)).map fun i => .ref (T i))) → Q (.ref D) H2
theorem pe_list_zip {a b : Expr} {ta : TA} {p1 p2 pos pos2 : Pos} (hc : X.calm = true) (hg1 : Gl X "list") (hg2 : Gl X "zip") (hm1 : X.mg "list" = none) (hm2 : X.mg "zip" = none) (ha : PA X [a, b] ta)
    (hs : starEach [a, b] X.env = [(false, eval a X.env), (false, eval b X.env)] := by rfl) (hs2 : starEach [b] X.env = [(false, eval b X.env)] := by rfl)
    (hs3 : starEach [Expr.Call (.Name "zip" p2) [a, b] [] pos2] X.env = [(false, eval (Expr.Call (.Name "zip" p2) [a, b] [] pos2) X.env)] := by rfl) :
    PE X (.Call (.Name "list" p1) [.Call (.Name "zip" p2) [a, b] [] pos2] [] pos) (tListZip X.K ta) := by
  intro pins s σ H Q I h
  refine wpAny_Call_Name_kw (ld_blt I hg1 hm1 bList ?_)
  refine PyProof.Rows.callWith_type1 ?_ hs3 rfl
  rw [hs3]
  show wpAny _ _ (spliced ((false, eval (Expr.Call (.Name "zip" p2) [a, b] [] pos2) X.env) :: [])) _ _ s
  refine Calls.spliced_cons (Call_ (ld_blt I hg2 hm2 bZip (PyProof.Rows.callWith_type1 (thn (ha pos2 pins s σ H _ I h) fun us s1 ⟨vs, H1, I1, r1, q1⟩ => ?_) (by rw [hs, hs2]) (by rw [hs2]; rfl))))
  obtain ⟨l1, l2, xs, ys, e, hx, hy, q⟩ := q1
  subst e
  obtain ⟨u1, u2, rfl, e1, e2⟩ := r1.two
  cases e1; cases e2
  obtain ⟨xv, rx, px, zx⟩ := I1.list hx
  obtain ⟨yv, ry, py, zy⟩ := I1.list hy
  have lx := rx.length
  have ly := ry.length
  have lt : ∀ {l : Addr} {v : Array Value}, s1.heap.IsList l v → l < s1.heap.objs.size := fun h => let ⟨o, ho, _⟩ := h; Heap.lt_size ho
  refine call_zip_2 px.isList py.isList fun g b1 b2 b3 b4 b5 b6 b7 => Calls.spliced_nil ?_
  have D := zipApart_new (lt px.isList) (lt py.isList)
  refine Eb.call_list_zip2 (s := { s1 with heap := g }) (I1.ok.hd hc) D (by simp; omega) (fun b hb => ?_) b1 ⟨.inl b1, b2, ⟨_, _, b3⟩, b4, b5⟩ (px.isList.at fun o e => b7 _ o e) (py.isList.at fun o e => b7 _ o e) fun g2 acc hk hP hT => ?_
  · show b < g.objs.size
    have h1 := lt px.isList
    have h2 := lt py.isList
    rw [b6]
    simp only [List.mem_cons, List.not_mem_nil, or_false] at hb
    rcases hb with z | z | z | z | z | z | z <;> rw [z] <;> first | exact Nat.lt_add_of_pos_right (by decide) | exact Nat.add_lt_add_left (by decide) _ | exact Nat.lt_of_lt_of_le h1 (Nat.le_add_right _ _) | exact Nat.lt_of_lt_of_le h2 (Nat.le_add_right _ _)
  -- the tracked heap behind it
  have n5 : s1.heap.objs.size < g.objs.size := by rw [b6]; omega
  obtain ⟨hsz, ⟨c, hD⟩, hpr⟩ := hP
  have hn : min xv.toArray.size yv.toArray.size = min xs.length ys.length := by rw [List.size_toArray, List.size_toArray, lx, ly]
  rw [hn] at hsz hpr hT
  generalize hnn : min xs.length ys.length = n at hsz hpr hT
  have pr : ∀ i, i < n → ∃ t, acc[i]? = some (.ref t) := fun i hi => let ⟨⟨t, _, _, h, _⟩, _⟩ := hpr i hi; ⟨t, h⟩
  let T : Nat → Addr := fun i => match acc[i]? with | some (.ref t) => t | _ => 0
  have hTa : ∀ i, i < n → acc[i]? = some (.ref (T i)) := fun i hi => by
    obtain ⟨t, ht⟩ := pr i hi
    show acc[i]? = some (.ref (match acc[i]? with | some (.ref t) => t | _ => 0))
    rw [ht]
  have inj : ∀ i j, i < n → j < n → T i = T j → i = j := fun i j hi hj e => by
    rcases Nat.lt_trichotomy i j with h | h | h
    · exact absurd (by rw [hTa i hi, e]) ((hpr j hj).2 i (T j) h (hTa j hj))
    · exact h
    · exact absurd (by rw [hTa j hj, ← e]) ((hpr i hi).2 j (T i) h (hTa i hi))
  have hTge : ∀ i, i < n → g.objs.size + 1 ≤ T i := fun i hi => hT i (T i) hi (hTa i hi)
  let H2 : Hp := fun b => if b = g.objs.size then some (.lst ((List.range n).map fun i => .ref (T i))) else if b < s1.heap.objs.size then H1 b else
    match (List.range n).find? (fun i => T i == b) with | some i => some (.tup [xs.getD i .non, ys.getD i .non]) | none => none
  have keep : ∀ b u, s1.heap.get? b = some u → g2.get? b = some u := fun b u e => by
    have hb := Heap.lt_size e
    refine hk b u (fun hm => ?_) (b7 b u e)
    simp only [List.mem_cons, List.not_mem_nil, or_false] at hm
    rcases hm with z | z | z | z <;> rw [z] at hb <;> first | exact absurd hb (Nat.lt_irrefl _) | exact absurd hb (Nat.not_lt.mpr (Nat.le_add_right _ _))
  have hold : ∀ b, b < s1.heap.objs.size → H2 b = H1 b := fun b hb => by
    show (if b = g.objs.size then _ else if b < s1.heap.objs.size then H1 b else _) = _
    rw [if_neg (by omega), if_pos hb]
  have I2 : Inv X pins σ H2 { s1 with heap := g2, toks := s1.toks } := I1.laidMany keep hold fun b o hb e => by
    by_cases hbD : b = g.objs.size
    · have e2 : H2 b = some (.lst ((List.range n).map fun i => .ref (T i))) := by
        show (if b = g.objs.size then _ else _) = _
        rw [if_pos hbD]
      rw [e2] at e
      cases e
      subst hbD
      refine ⟨by rw [List.length_map, List.length_range]; omega, acc.toList, c, ?_, by simpa using hD⟩
      refine vals_get (by rw [List.length_map, List.length_range, Array.length_toList, hsz]) fun i x u h1 h2 => ?_
      rw [List.getElem?_map] at h1
      have hi : i < n := by
        have := (List.getElem?_eq_some_iff.mp h2).1
        rw [Array.length_toList] at this; omega
      rw [List.getElem?_range hi] at h1
      rw [Array.getElem?_toList, hTa i hi] at h2
      cases h1; cases h2
      rfl
    · have e2 : H2 b = (match (List.range n).find? (fun i => T i == b) with | some i => some (.tup [xs.getD i .non, ys.getD i .non]) | none => none) := by
        show (if b = g.objs.size then _ else if b < s1.heap.objs.size then H1 b else _) = _
        rw [if_neg hbD, if_neg (by omega)]
      rw [e2] at e
      cases hf : (List.range n).find? (fun i => T i == b) with
      | none => rw [hf] at e; cases e
      | some i =>
        rw [hf] at e
        cases e
        have hi : i < n := List.mem_range.mp (List.mem_of_find?_eq_some hf)
        have hTb : T i = b := by simpa using List.find?_some hf
        obtain ⟨⟨t, x, y, h1, h2, h3, h4, _⟩, _⟩ := hpr i hi
        rw [hTa i hi] at h1
        have et : T i = t := by injection h1 with h1; injection h1
        rw [← et, hTb] at h4
        have gx : xs[i]? = some (xs.getD i .non) := by
          rw [List.getD_eq_getElem?_getD, List.getElem?_eq_getElem (by omega)]; rfl
        have gy : ys[i]? = some (ys.getD i .non) := by
          rw [List.getD_eq_getElem?_getD, List.getElem?_eq_getElem (by omega)]; rfl
        obtain ⟨ux, hux, rux⟩ := rx.get gx
        obtain ⟨uy, huy, ruy⟩ := ry.get gy
        have ex : ux = x := by
          have h2' : xv[i]? = some x := by simpa using h2
          rw [hux] at h2'; exact Option.some.inj h2'
        have ey : uy = y := by
          have h3' : yv[i]? = some y := by simpa using h3
          rw [huy] at h3'; exact Option.some.inj h3'
        subst ex; subst ey
        exact ⟨(by show 2 ≤ sizeLine; decide), [ux, uy], .cons rux (.cons ruy .nil), _, h4, rfl, _, rfl⟩
  refine ⟨.ref g.objs.size, H2, I2, rfl, q g.objs.size T H2 (fun b o e => ?_) (I1.hok.fresh (by omega)) (fun i x y h1 h2 => ?_) ?_⟩
  · have : b < s1.heap.objs.size := by
      rcases Nat.lt_or_ge b s1.heap.objs.size with z | z
      · exact z
      · rw [I1.hok.fresh z] at e; cases e
    rw [hold b this]; exact e
  · have hi : i < n := by
      have l1 := (List.getElem?_eq_some_iff.mp h1).1
      have l2 := (List.getElem?_eq_some_iff.mp h2).1
      omega
    have hge := hTge i hi
    refine ⟨I1.hok.fresh (by omega), ?_⟩
    show (if T i = g.objs.size then _ else if T i < s1.heap.objs.size then H1 (T i) else _) = _
    rw [if_neg (Nat.ne_of_gt (Nat.lt_of_succ_le hge)), if_neg (Nat.not_lt.mpr (Nat.le_of_lt (Nat.lt_trans n5 (Nat.lt_of_succ_le hge))))]
    cases hf : (List.range n).find? (fun j => T j == T i) with
    | none =>
      have := List.find?_eq_none.mp hf i (List.mem_range.mpr hi)
      simp at this
    | some j =>
      have hj : j < n := List.mem_range.mp (List.mem_of_find?_eq_some hf)
      have hTj : T j = T i := by simpa using List.find?_some hf
      have ej := inj j i hj hi hTj
      subst ej
      show some (HO.tup [xs.getD j .non, ys.getD j .non]) = _
      rw [List.getD_eq_getElem?_getD, List.getD_eq_getElem?_getD, h1, h2]
      rfl
  · show (if g.objs.size = g.objs.size then _ else _) = _
    rw [if_pos rfl, hnn]
end
end L2

set_option autoImplicit false
set_option maxRecDepth 100000
set_option maxHeartbeats 4000000
set_option linter.unusedVariables false
namespace L2
open PySem PySem.Spec PyProof.Rows
/-! [.. for x, y in ..]: two names for what comes -/
structure CompOk2 (X : Cx) (x y : Str) (N : List Str) (js : List Nat) (scope : Scope) (cl : List (Str × Addr)) : Prop where
  clos : closureFor scope X.env = pure cl
  nocell : ∀ z ∈ scope.names, z.2 ≠ .cell
  kind : scope.kind = .function
  names : ∀ z ∈ scope.names, z.2 = .local → scope.names.lookup z.1 = some .local
  loc1 : scope.names.lookup x = some .local
  loc2 : scope.names.lookup y = some .local
  nd : (x :: y :: N).Nodup
  sub : Subs X.env.cells cl
  has : ((scope.names.filter fun z => z.2 == .free).all fun z => (cl.lookup z.1).isSome) = true
  cap : Caps X scope cl N js
def CompW2 (K : PySem.W.Frag) (J : It) (js : List Nat) (tf : TT) (te : TE) (σ : St) (H1 : Hp) (Q : VK) : Prop := ∀ D, H1 D = none → ∃ W : Nat → Nat → Hp → Prop, (∃ m, W 0 m (upd H1 D (.lst []))) ∧ ∀ i m H, W i m H →
  (J.stop i H ∧ Q (.ref D) H) ∨ (J.go i H ∧ ∀ v H', J.yld i H v H' → ∃ b p q, v = .ref b ∧ SqT K H' b [p, q] ∧ tf (some p :: some q :: capS σ js) H' fun c H2 => if c = true then
    te (some p :: some q :: capS σ js) H2 fun y H3 => ∃ ys m', H3 D = some (.lst ys) ∧ ys.length < sizeLine ∧ m' < m ∧ W (i + 1) m' (upd H3 D (.lst (ys ++ [y]))) else ∃ m', m' < m ∧ W (i + 1) m' H2)
def tComp2 (K : PySem.W.Frag) (wi : TI) (js : List Nat) (tf : TT) (te : TE) (σ : St) (H : Hp) (Q : VK) : Prop := wi σ H fun J H1 => CompW2 K J js tf te σ H1 Q
section
variable {X : Cx} {x y : Str} {N : List Str} {js : List Nat} {scope : Scope} {cl : List (Str × Addr)} {elt iter : Expr} {ifs : List Expr} {px py tp pos : Pos} {kk : Nat} {tf : TT} {te : TE}
theorem comp_inv2 {pins : List (Addr × Obj)} {σ : St} {H3 : Hp} {s3 : Shared} {fp : List Addr} {h₁ : Heap} {tk : Nat} {m : Str → Option Value} (O : CompOk2 X x y N js scope cl) (I3 : Inv X pins σ H3 s3) (f3 : ∀ b ∈ fp, FpOk X pins H3 b) (hlt : ∀ b ∈ fp, b < s3.heap.objs.size)
    (hns : h₁.Ns s3.heap.objs.size m) (hk₁ : ∀ b o, s3.heap.get? b = some o → h₁.get? b = some o) :
    Inv (compCx X (x :: y :: N) scope cl s3.heap.objs.size s3 H3 fp) [] (none :: none :: capS σ js) H3 { s3 with heap := h₁, toks := tk } := by
  have cellUp : ∀ {z : Str} {c : Addr}, cl.lookup z = some c → X.env.cells.lookup z = some c := fun h => O.sub.get h
  have cellK : ∀ {c : Addr} {v : Option Value}, s3.heap.IsCell c v → h₁.IsCell c v := fun ⟨o, ho, r⟩ => ⟨o, hk₁ _ _ ho, r⟩
  refine ⟨⟨I3.mod, O.kind, I3.ok.glob, I3.ok.blt, Nat.le_refl _, fun y z c h1 h2 => I3.ok.inj y z c (cellUp h1) (cellUp h2), fun y hy => ?_, fun y c h _ => (by cases h), I3.ok.hd, I3.ok.frames, .inl rfl, fun b hb => ⟨Nat.ne_of_lt (hlt b hb), fun y c h => (f3 b hb).2.2.2.2.1 y c (cellUp h)⟩,
      I3.bs, Nat.le_trans I3.ok.bsz I3.sz, fun b o e hb => ?_, fun b hb hs => ?_, I3.stack, I3.stkFree⟩, rfl, I3.bare, Un.kept hk₁, ⟨m, hns, fun i z v h1 h2 h3 => ?_⟩, fun z c h => ?_, I3.hok.fresh (Nat.le_refl _), fun z c h => I3.freeC z c (cellUp h), fun p hp => absurd (show p ∈ ([] : List (Addr × Obj)) from hp) (by simp), I3.hok.kept hk₁, ?_⟩
  · have hm : (y, NameKind.free) ∈ scope.names := relabel_back O.nocell hy
    have q := List.all_eq_true.mp O.has (y, NameKind.free) (List.mem_filter.mpr ⟨hm, rfl⟩)
    exact Option.isSome_iff_exists.mp q
  · rcases (f3 b hb).2.2.2.1 with z | z
    · exact I3.ok.noex b o e z
    · exact absurd (Nat.lt_of_lt_of_le (Heap.lt_size (I3.ok.bs b o e).1) z) (Nat.lt_irrefl _)
  · rcases List.mem_cons.mp (I3.stkSub b hs) with z | z
    · exact (f3 b hb).2.1 z
    · exact (f3 b hb).2.2.1 z
  · rcases i with _ | _ | j
    · cases h2
    · cases h2
    · have h1' : N[j]? = some z := h1
      have h2' : (capS σ js)[j]? = some (some v) := h2
      obtain ⟨i, e, hN, hk, hf, hs⟩ := O.cap.get h1'
      unfold capS at h2'
      rw [List.getElem?_map, e] at h2'
      have h2'' : (σ[i]?).join = some v := Option.some.inj h2'
      have hσ : σ[i]? = some (some v) := by
        cases q : σ[i]? with
        | none => rw [q] at h2''; cases h2''
        | some o => rw [q] at h2''; rw [show o = some v from h2'']
      obtain ⟨m', _, hl⟩ := I3.loc
      obtain ⟨u, ru, lk⟩ := hl i z v hN hσ (.inr (.inl hk))
      refine ⟨u, ru, ?_⟩
      rcases lk with ⟨k, _⟩ | ⟨_, c, hc, hcell⟩
      · rw [hk] at k; cases k
      · obtain ⟨c', hc'⟩ := Option.isSome_iff_exists.mp hs
        have ec : c' = c := Option.some.inj ((cellUp hc').symm.trans hc)
        subst ec
        exact .inr ⟨.inl (relabel_free I3.ok.kind hk hf), c', hc', cellK hcell⟩
  · obtain ⟨v, q⟩ := I3.cell z c (cellUp h)
    exact ⟨v, cellK q⟩
  · show (none :: none :: capS σ js).length = (x :: y :: N).length
    unfold capS
    rw [List.length_cons, List.length_cons, List.length_cons, List.length_cons, List.length_map, O.cap.len]
theorem comp_loop2 {pins : List (Addr × Obj)} {σ : St} {H3 : Hp} {s3 : Shared} {it D : Addr} {fp : List Addr} {tn : Nat → Heap → Prop} {J : It} {Q : VK} {R : Result → Shared → Prop} {h₁ : Heap} {tk m0 : Nat} {m : Str → Option Value} {W : Nat → Nat → Hp → Prop}
    (O : CompOk2 X x y N js scope cl) (hc : X.calm = true) (hF : ∀ C s H fp, PF (compCx X (x :: y :: N) scope cl C s H fp) ifs tf) (hE : ∀ C s H fp, PE (compCx X (x :: y :: N) scope cl C s H fp) elt te)
    (I3 : Inv X pins σ H3 s3) (T : Turn X.prog X.w X.K (.Tuple [.Name x px, .Name y py] kk tp) J fp it tn) (st3 : tn 0 s3.heap) (f3 : ∀ b ∈ fp, FpOk X pins H3 b)
    (hns : h₁.Ns s3.heap.objs.size m) (hk₁ : ∀ b o, s3.heap.get? b = some o → h₁.get? b = some o)
    (w0 : W 0 m0 H3) (turn : ∀ i m H, W i m H →
      (J.stop i H ∧ Q (.ref D) H) ∨ (J.go i H ∧ ∀ v H', J.yld i H v H' → ∃ b p q, v = .ref b ∧ SqT X.K H' b [p, q] ∧ tf (some p :: some q :: capS σ js) H' fun c H2 => if c = true then
        te (some p :: some q :: capS σ js) H2 fun y H3 => ∃ ys m', H3 D = some (.lst ys) ∧ ys.length < sizeLine ∧ m' < m ∧ W (i + 1) m' (upd H3 D (.lst (ys ++ [y]))) else ∃ m', m' < m ∧ W (i + 1) m' H2))
    (hR : ∀ H' s' m', Inv X pins σ H' s' → s'.heap.Ns s3.heap.objs.size m' → FpOk X pins H' s3.heap.objs.size → Q (.ref D) H' → R (.ok .next) s') :
    codeAny (model X.prog X.w) X.A (.compStart (.ListComp elt [⟨.Tuple [.Name x px, .Name y py] kk tp, iter, ifs, 0⟩] scope pos) 0 (.ref it) (.ref D) (compEnvC scope cl s3.heap.objs.size X.env)) R { s3 with heap := h₁, toks := tk } := by
  have hlt : ∀ b ∈ fp, b < s3.heap.objs.size := fun b hb => let ⟨o, e, _⟩ := T.obj _ _ st3 b hb; Heap.lt_size e
  have J4 := comp_inv2 (tk := tk) O I3 f3 hlt hns hk₁
  have st4 : tn 0 h₁ := T.keep _ _ _ st3 fun b _ o e => hk₁ b o e
  have stat : ∀ {H' : Hp}, (∀ b ∈ fp, H' b = none) → ∀ b ∈ fp, FpOk (compCx X (x :: y :: N) scope cl s3.heap.objs.size s3 H3 fp) [] H' b := fun hn b hb =>
    ⟨hn b hb, Nat.ne_of_lt (hlt b hb), J4.ok.exfs b hb, .inl hb, fun y c h => (f3 b hb).2.2.2.2.1 y c (O.sub.get h), fun p hp => absurd (show p ∈ ([] : List (Addr × Obj)) from hp) (by simp)⟩
  have loop : ∀ s4 : Shared, s4 = { s3 with heap := h₁, toks := tk } → codeAny (model X.prog X.w) X.A (.compLoop (.ListComp elt [⟨.Tuple [.Name x px, .Name y py] kk tp, iter, ifs, 0⟩] scope pos) 0 (.ref it) (.ref D) (compEnvC scope cl s3.heap.objs.size X.env)) R s4 := by
    rintro s4 rfl
    refine codeAny_compLoop_own (fun n s' => ∃ i o o' H', Inv (compCx X (x :: y :: N) scope cl s3.heap.objs.size s3 H3 fp) [] (o :: o' :: capS σ js) H' s' ∧ tn i s'.heap ∧ (∀ b ∈ fp, H' b = none) ∧ W i n H') ?_ m0 ⟨0, none, none, H3, J4, st4, fun b hb => (f3 b hb).1, w0⟩
    rintro n s5 ⟨i, o, o', H5, J5, st5, fr5, w5⟩
    rcases turn i n H5 w5 with ⟨stop, qn⟩ | ⟨go, step⟩
    · refine wpAny_mono (T.done (compCx X (x :: y :: N) scope cl s3.heap.objs.size s3 H3 fp) rfl rfl rfl hc i [] s5 _ H5 _ J5 (stat fr5) st5 stop) (fun r s6 ⟨hr, J6⟩ => ?_) fun _ _ z => z
      subst hr
      obtain ⟨m6, hn6, _⟩ := id J6.loc
      have IX : Inv X pins σ H5 s6 := I3.call' (ch := fp) J6.os J6.base J6.hok J6.bare fun b hb => let z := f3 b hb; ⟨z.2.2.2.1, z.2.1, z.2.2.2.2.1, z.2.2.2.2.2⟩
      exact hR H5 s6 m6 IX hn6 (I3.fpOk (Nat.le_refl _) J6.free) qn
    · refine wpAny_mono (T.item (compCx X (x :: y :: N) scope cl s3.heap.objs.size s3 H3 fp) rfl rfl rfl hc i [] s5 _ H5 _ J5 (stat fr5) st5 go) (fun r s6 ⟨u, hr, h6⟩ => ?_) fun _ _ z => z
      subst hr
      refine wpAny_mono h6 (fun _ s7 ⟨v, H7, J7, r7, y7, st7, fr7⟩ => ?_) fun _ _ z => z
      have J7' := J7.pinned (stat fr7) (T.obj _ _ st7)
      have pinned : ∀ {σ8 : St} {H8 : Hp} {s8 : Shared}, Inv (compCx X (x :: y :: N) scope cl s3.heap.objs.size s3 H3 fp) ([] ++ pinsAt fp s7.heap) σ8 H8 s8 → tn (i + 1) s8.heap ∧ ∀ b ∈ fp, H8 b = none := fun {σ8 H8 s8} J8 => by
        refine ⟨T.keep _ _ _ st7 fun b hb o e => (J8.pin (b, o) (List.mem_append_right _ (List.mem_append_right _ (mem_pinsAt hb e)))).1, fun b hb => ?_⟩
        obtain ⟨o, e, d⟩ := T.obj _ _ st7 b hb
        exact (J8.pin (b, o) (List.mem_append_right _ (List.mem_append_right _ (mem_pinsAt hb e)))).2.1
      obtain ⟨bt, p, q, hv, hT, hstep⟩ := step v H7 y7
      refine wpAny_mono (pg_tup (X := compCx X (x :: y :: N) scope cl s3.heap.objs.size s3 H3 fp) (n := 2) hc (pgs_cons (pg_name (i := 0) (pos := px) O.nd rfl (.inl (lookup_relabel_local O.loc1)) (.inr (lookup_relabel_local O.loc1))) (pgs_cons (pg_name (i := 1) (pos := py) O.nd rfl (.inl (lookup_relabel_local O.loc2)) (.inr (lookup_relabel_local O.loc2))) pgs_nil)) rfl rfl _ s7 _ H7 v u
        (fun σ8 H8 => σ8 = some p :: some q :: capS σ js ∧ H8 = H7) J7' r7 ⟨bt, [p, q], hv, hT, rfl, p, [q], rfl, q, [], rfl, rfl, rfl, rfl⟩) (fun _ s8 ⟨σ8, H8, J8, e8, e8'⟩ => ?_) fun _ _ z => z.elim
      subst e8; subst e8'
      refine wpAny_mono (hF _ _ _ _ _ s8 _ H8 _ J8 hstep) (fun ok s9 ⟨H9, J9, q9⟩ => ?_) fun _ _ z => z.elim
      cases ok with
      | false =>
        obtain ⟨m', hm, w9⟩ := q9
        rw [if_neg (by simp)]
        exact ⟨m', hm, i + 1, some p, some q, H9, J9.unpinned, (pinned J9).1, (pinned J9).2, w9⟩
      | true =>
        rw [if_pos rfl] at q9 ⊢
        refine wpAny_mono (hE _ _ _ _ _ s9 _ H9 _ J9 q9) (fun z s10 ⟨yv, H10, J10, r10, ys, m', hD, hz, hm, w10⟩ => ?_) fun _ _ z => z.elim
        refine wpAny_mono (mt_append (X := compCx X (x :: y :: N) scope cl s3.heap.objs.size s3 H3 fp) _ s10 _ H10 (.ref D) [yv] (.ref D) [z] (fun _ H' => H' = upd H10 D (.lst (ys ++ [yv]))) J10 rfl (.cons r10 .nil) ⟨D, ys, yv, rfl, rfl, hD, hz, rfl⟩) (fun _ s11 ⟨_, H11, J11, _, e11⟩ => ?_) fun _ _ z => z.elim
        subst e11
        exact ⟨m', hm, i + 1, some p, some q, _, J11.unpinned, (pinned J11).1, (pinned J11).2, w10⟩
  exact codeAny_compStart_list (loop _ rfl) (T.self _ 0 _ _ _ st4 (loop _ rfl))
theorem pe_comp2 {wi : TI} (O : CompOk2 X x y N js scope cl) (hc : X.calm = true) (hi : PI X (.Tuple [.Name x px, .Name y py] kk tp) iter wi) (hF : ∀ C s H fp, PF (compCx X (x :: y :: N) scope cl C s H fp) ifs tf) (hE : ∀ C s H fp, PE (compCx X (x :: y :: N) scope cl C s H fp) elt te)
    (hs : ∀ z, foldedSetIterable iter X.env z = pure z := by intro _; rfl) : PE X (.ListComp elt [⟨.Tuple [.Name x px, .Name y py] kk tp, iter, ifs, 0⟩] scope pos) (tComp2 X.K wi js tf te) := by
  intro pins s σ H Q I h
  rw [eval_ListComp]
  refine wpAny_comprehension_free (use := none) rfl hs O.clos O.kind O.names (wpAny_mono (hi pins s σ H _ I h) (fun xv s₁ h₁ => wpAny_mono h₁ (fun itv s₂ h₂ => ?_) fun _ _ e => e) fun _ _ e => e)
  obtain ⟨it, fp, tn, J, H2, e, I2, T, st2, f2, q⟩ := h₂
  subst e
  refine wpAny_newObj_type (wpAny_newFunctionEnv O.nocell (by intro y hy; simp at hy) (fun h₁ hns hsb => ?_) O.kind)
  obtain ⟨W, ⟨m0, w0⟩, turn⟩ := q s₂.heap.objs.size I2.fresh
  have I3 : Inv X pins σ (upd H2 s₂.heap.objs.size (.lst [])) { s₂ with heap := s₂.heap.push { cls := .type "list", data := .seq ([] : List Value).toArray }, toks := s₂.toks } := I2.lnew .nil (by simp)
  have old : ∀ b ∈ fp, b < s₂.heap.objs.size := fun b hb => let ⟨o, e, _⟩ := T.obj _ _ st2 b hb; Heap.lt_size e
  refine comp_loop2 (D := s₂.heap.objs.size) (W := W) (m0 := m0) (Q := Q) O hc hF hE I3 T (T.keep _ _ _ st2 fun b _ o e => Heap.get?_push_of_some _ e) (fun b hb => ?_) hns (fun b o e => hsb.extBut b o (Nat.ne_of_lt (Heap.lt_size e)) (Heap.get?_push_of_some _ e)) w0 turn fun H' s' m' I' hn' fC q' => ?_
  · refine ⟨?_, (f2 b hb).2⟩
    rw [upd_ne (Nat.ne_of_lt (old b hb))]
    exact (f2 b hb).1
  · refine ⟨m', hn', fun h' hs' => ⟨.ref s₂.heap.objs.size, H', ?_, rfl, q'⟩⟩
    exact I'.turned (t' := s'.toks) (fun b o hb e => hs'.extBut b o hb e) fC.1 fC.2.1 fC.2.2.2.1 fC.2.2.2.2.1 fC.2.2.2.2.2
end
end L2
namespace L2
open PySem PySem.Spec PyProof.Rows
theorem comp2_f {K : PySem.W.Frag} {J : It} {f : Nat → V} {n : Nat} {te : TE} {js : List Nat} {σ : St} {H1 : Hp} {Q : VK} (bt : Nat → Addr) (p q : Nat → V) (hgo : ∀ i H, i < n → Same H1 H → J.go i H) (hyl : ∀ i H v H', i < n → Same H1 H → J.yld i H v H' → H' = H ∧ v = .ref (bt i)) (hst : ∀ H, Same H1 H → J.stop n H) (hn : n ≤ sizeLine)
    (ht : ∀ i, i < n → H1 (bt i) = some (.tup [p i, q i]))
    (hte : ∀ i, i < n → ∀ H2 (R : VK), Same H1 H2 → (∀ H3, Same H2 H3 → R (f i) H3) → te (some (p i) :: some (q i) :: capS σ js) H2 R)
    (hQ : ∀ D H', H1 D = none → Same H1 H' → H' D = some (.lst ((List.range n).map f)) → Q (.ref D) H') : CompW2 K J js (fun (_ : St) H Q => Q true H) te σ H1 Q := by
  intro D hD
  refine ⟨fun i m H => i ≤ n ∧ m = n - i ∧ Same H1 H ∧ H D = some (.lst ((List.range i).map f)), ⟨n, Nat.zero_le _, rfl, same_new hD _, upd_same⟩, ?_⟩
  rintro i m H ⟨hi, rfl, g, hl⟩
  by_cases hlt : i < n
  · refine .inr ⟨hgo i H hlt g, fun v H' y => ?_⟩
    obtain ⟨e, ev⟩ := hyl i H v H' hlt g y
    subst e ev
    refine ⟨_, p i, q i, rfl, SqT.of (g _ _ (ht i hlt)), iteT (hte i hlt _ _ g fun H3 g3 => ⟨_, n - (i + 1), g3 _ _ hl, ?_, by omega, hlt, rfl, ?_, ?_⟩)⟩
    · rw [List.length_map, List.length_range]; omega
    · intro b o e
      rw [upd_ne (ne_of_none e hD)]
      exact g3 _ _ (g _ _ e)
    · rw [upd_same, List.range_succ, List.map_append]; rfl
  · have e : i = n := by omega
    subst e
    exact .inl ⟨hst H g, hQ D H hD g hl⟩
/-- the walk over a list that stays as it is -/
theorem itl_go {K : PySem.W.Frag} {a : Addr} {xs : List V} {H1 : Hp} (h : H1 a = some (.lst xs)) : ∀ i H, i < xs.length → Same H1 H → (Itl K a).go i H := fun i H hi g => ⟨xs, xs[i], SqL.of (g _ _ h), List.getElem?_eq_getElem hi⟩
theorem itl_yl {K : PySem.W.Frag} {a : Addr} {xs : List V} {H1 : Hp} (h : H1 a = some (.lst xs)) {x : Nat → V} (hx : ∀ i v, xs[i]? = some v → v = x i) : ∀ i H v H', i < xs.length → Same H1 H → (Itl K a).yld i H v H' → H' = H ∧ v = x i := fun i H v H' hi g y => ⟨y.1, hx i v (y.2 xs (SqL.of (g _ _ h)))⟩
theorem itl_st {K : PySem.W.Frag} {a : Addr} {xs : List V} {H1 : Hp} (h : H1 a = some (.lst xs)) : ∀ H, Same H1 H → (Itl K a).stop xs.length H := fun H g => ⟨xs, SqL.of (g _ _ h), Nat.le_refl _⟩
theorem and_ev {t u : TT} {σ : St} {H : Hp} {Q : Bool → Hp → Prop} (a b : Bool) (ht : ∀ R : Bool → Hp → Prop, R a H → t σ H R) (hu : a = true → ∀ R : Bool → Hp → Prop, R b H → u σ H R) (h : Q (a && b) H) : tAnd t u σ H Q := by
  refine ht _ ?_
  cases a with
  | false => exact iteF h
  | true => exact iteT (hu rfl _ (by simpa using h))
theorem or_ev {t u : TT} {σ : St} {H : Hp} {Q : Bool → Hp → Prop} (a b : Bool) (ht : ∀ R : Bool → Hp → Prop, R a H → t σ H R) (hu : a = false → ∀ R : Bool → Hp → Prop, R b H → u σ H R) (h : Q (a || b) H) : tOr t u σ H Q := by
  refine ht _ ?_
  cases a with
  | false => exact iteF (hu rfl _ (by simpa using h))
  | true => exact iteT h
end L2

set_option autoImplicit false
set_option maxRecDepth 100000
set_option maxHeartbeats 4000000
set_option linter.unusedVariables false
namespace L2
open PySem PySem.Spec PyProof.Rows
section
variable {X : Cx} {K0 : PySem.W.Frag}
/-! the same rules with the module's facts by their own name, for a comprehension's block -/
end
end L2
namespace L2
theorem seq_if {c : TT} {a b r : TS} {D : Ends} {σ : St} {H : Hp} (h : c σ H fun k H1 => if k = true then a { D with nx := r D } σ H1 else b { D with nx := r D } σ H1) : tSeq (tIfS c a b) r D σ H := h
end L2

set_option autoImplicit false
set_option maxRecDepth 100000
set_option linter.unusedVariables false
namespace PySem
open PyProof.Rows
/-! set(list) of texts: how it is laid (led, plain no more) and what it holds -/
def Eb.strIn : Value → Str
  | .str x _ => x
  | _ => ⟨#[]⟩
theorem Eb.stand_led (t : SetTable) (n : Nat) : (t.orStandIn n).led = t.led ∧ (t.plain = false → (t.orStandIn n).plain = false) := by
  unfold SetTable.orStandIn
  split
  · exact ⟨rfl, fun z => z⟩
  · exact ⟨rfl, fun _ => rfl⟩
theorem Eb.lay_led (t : SetTable) (es : Array (Int × Value)) (h : Int) (x : Value) : (layNew t es h x).2.1.led = t.led ∧ (t.plain = false → (layNew t es h x).2.1.plain = false) := by
  unfold layNew
  split
  · exact Eb.stand_led (t.put _).1 _
  · exact ⟨rfl, fun _ => rfl⟩
theorem Eb.relay_led (t : SetTable) (es : Array (Int × Value)) (n : Nat) : (relayAll t es n).2.1.led = t.led ∧ (t.plain = false → (relayAll t es n).2.1.plain = false) := by
  unfold relayAll
  split
  · rename_i t' order e
    have e' : t'.led = t.led ∧ t'.plain = t.plain := by
      simp only [SetTable.relaid, SetTable.laid, Option.bind_eq_bind, Option.bind_eq_some_iff] at e
      obtain ⟨o, _, e2⟩ := e
      cases e2
      exact ⟨rfl, rfl⟩
    dsimp only
    split
    · exact ⟨e'.1, fun h => e'.2.trans h⟩
    · exact ⟨rfl, fun _ => rfl⟩
  · exact ⟨rfl, fun _ => rfl⟩
/-- a set of texts -/
structure Eb.TxSet (prog : Program) (w : World) (h : Heap) (S : Addr) (led : Bool) (es : Array (Int × Value)) (ep : Nat) (t : SetTable) : Prop where
  at' : h.get? S = some { cls := .type "set", dict := none, data := .set es ep t, slots := #[] }
  els : ElemsOf (PySem.strKind prog w) es.toList
  nd : (es.toList.map fun e => Eb.strIn e.2).Nodup
  bnd : es.size < scanBound
  fit : t.fits es.size = true
  led' : t.led = led
  pl : es.size ≠ 0 → t.plain = false
theorem Eb.TxSet.keep {prog : Program} {w : World} {h g : Heap} {S : Addr} {led : Bool} {es : Array (Int × Value)} {ep : Nat} {t : SetTable} (T : Eb.TxSet prog w h S led es ep t) (k : ∀ o, h.get? S = some o → g.get? S = some o) : Eb.TxSet prog w g S led es ep t :=
  ⟨k _ T.at', T.els, T.nd, T.bnd, T.fit, T.led', T.pl⟩
theorem Eb.strIn_of {prog : Program} {w : World} {k : Str} {v : Value} (h : (PySem.strKind prog w).is k v = true) : Eb.strIn v = k ∧ ∃ u, v = .str k u := by
  obtain ⟨u, rfl⟩ := Value.isStrOf_shape h
  exact ⟨rfl, u, rfl⟩
section
variable {prog : Program} {w : World} {A : Around} {E : Value → Shared → Prop} {s : Shared}
theorem Eb.set_put {S : Addr} {led : Bool} {es : Array (Int × Value)} {ep : Nat} {t : SetTable} {y : Str} {u : Tok} {Q : Bool → Shared → Prop} (T : Eb.TxSet prog w s.heap S led es ep t) (room : es.size + 1 < scanBound)
    (h : ∀ g es' ep' t' b, Heap.SameBut S s.heap g → Eb.TxSet prog w g S led es' ep' t' → es'.size ≤ es.size + 1 → (∀ k, (∃ e ∈ es'.toList, Eb.strIn e.2 = k) ↔ ((∃ e ∈ es.toList, Eb.strIn e.2 = k) ∨ k = y)) → Q b { s with heap := g }) :
    wpAny (model prog w) A (setAddHashed S (.str y u) ((PySem.strKind prog w).hash y)) Q E s := by
  have hk := strKind_is prog w y u
  obtain ⟨hat, hels, hnd, hbd, hft, hled, hpl⟩ := id T
  unfold setAddHashed setAddHashedIn
  refine wpAny_holding (wpAny_bind (wpAny_setState_of hat rfl hft ?_))
  dsimp only
  rw [byScan_of (x := .str y u) rfl hbd hels]
  simp only [↓reduceIte]
  unfold setAddByScan
  refine wpAny_bind (wpAny_bind (wpAny_rule (wpAny_bind (wpAny_setScan_of hk hat rfl hft hels ?_))))
  cases hr : List.findIdx? (fun e => (PySem.strKind prog w).is y e.2) es.toList with
  | some j =>
    dsimp only
    obtain ⟨hj, hpj, _⟩ := List.findIdx?_eq_some_iff_getElem.mp hr
    refine wpAny_pure (wpAny_pure ?_)
    have e : s = { s with heap := s.heap } := by cases s; rfl
    rw [e]
    refine h s.heap es ep t _ (Heap.SameBut.refl S s.heap) T (Nat.le_succ _) fun k => ⟨.inl, fun z => z.elim id fun z => ?_⟩
    exact ⟨es.toList[j], List.getElem_mem hj, by rw [z]; exact (Eb.strIn_of hpj).1⟩
  | none =>
    dsimp only
    have hno : ∀ e ∈ es.toList, Eb.strIn e.2 ≠ y := fun e he z => by
      have h1 := List.findIdx?_eq_none_iff.mp hr e he
      obtain ⟨⟨k, hk2, _⟩, _⟩ := hels e he
      rw [(Eb.strIn_of hk2).1] at z
      rw [← z, hk2] at h1
      cases h1
    obtain ⟨l1, l2⟩ := Eb.lay_led t es ((PySem.strKind prog w).hash y) (.str y u)
    have hpm := layNew_perm t es ((PySem.strKind prog w).hash y) (.str y u)
    have hfi := layNew_fits t es ((PySem.strKind prog w).hash y) (.str y u)
    generalize layNew t es ((PySem.strKind prog w).hash y) (.str y u) = L at l1 l2 hpm hfi ⊢
    obtain ⟨e1, t1, dm, gv⟩ := L
    dsimp only at l1 l2 hpm hfi ⊢
    rw [Array.toList_push] at hpm
    have hel1 : ElemsOf (PySem.strKind prog w) e1.toList := (hels.push hk rfl).perm hpm
    have hsz : e1.size = es.size + 1 := by rw [← Array.length_toList, hpm.length_eq, List.length_append, Array.length_toList]; rfl
    have hmem : ∀ l : List (Int × Value), l.Perm e1.toList → ∀ k, (∃ e ∈ l, Eb.strIn e.2 = k) ↔ ((∃ e ∈ es.toList, Eb.strIn e.2 = k) ∨ k = y) := fun l hl k => by
      constructor
      · rintro ⟨e, he, z⟩
        rcases List.mem_append.mp (hpm.mem_iff.mp (hl.mem_iff.mp he)) with q | q
        · exact .inl ⟨e, q, z⟩
        · rw [List.mem_singleton.mp q] at z
          exact .inr z.symm
      · rintro (⟨e, he, z⟩ | z)
        · exact ⟨e, hl.mem_iff.mpr (hpm.mem_iff.mpr (List.mem_append_left _ he)), z⟩
        · exact ⟨(_, .str y u), hl.mem_iff.mpr (hpm.mem_iff.mpr (List.mem_append_right _ (List.mem_singleton.mpr rfl))), z.symm⟩
    have hnd1 : (e1.toList.map fun e => Eb.strIn e.2).Nodup := by
      rw [(hpm.map _).nodup_iff, List.map_append, List.nodup_append]
      refine ⟨hnd, by simp, fun a ha b hb => ?_⟩
      obtain ⟨e, he, z⟩ := List.mem_map.mp ha
      simp only [List.map_cons, List.map_nil, List.mem_singleton] at hb
      rw [← z, hb]
      exact hno e he
    have hgw : ∀ (b : Bool) {s₁ : Shared} {Q' : Unit → Shared → Prop}, Q' () s₁ → wpAny (model prog w) A (match b with | true => rule "set.scan.the-table-gave-way" | false => pure ()) Q' E s₁ :=
      fun b s₁ Q' hq => by cases b <;> first | exact wpAny_pure hq | exact wpAny_rule hq
    have hbd1 : e1.size < scanBound := by rw [hsz]; exact room
    have tail : ∀ (gw : Bool → Sem Unit) (t2 : SetTable), (∀ (b : Bool) (s₁ : Shared) (Q' : Unit → Shared → Prop), Q' () s₁ → wpAny (model prog w) A (gw b) Q' E s₁) → t2.fits e1.size = true → t2.led = led → t2.plain = false → ∀ R : Option Bool → Shared → Prop, (∀ g es' ep' t', Heap.SameBut S s.heap g → Eb.TxSet prog w g S led es' ep' t' → es'.size ≤ es.size + 1 → es'.toList.Perm e1.toList → R (some true) { s with heap := g }) →
        wpAny (model prog w) A (do
          storeSet S e1 t2
          if (!dm && t2.tooFull) = true then do
            gw (relayAll t2 e1 (SetTable.grown e1.size)).2.2
            storeSet S (relayAll t2 e1 (SetTable.grown e1.size)).1 (relayAll t2 e1 (SetTable.grown e1.size)).2.1
            pure (some true)
          else pure (some true)) R E s := fun gw t2 hgw f1 f2 f3 R hR => by
      have ho1 : (s.heap.update S (Obj.putSet e1 t2)).get? S = some { cls := .type "set", dict := none, data := .set e1 (ep + 1) t2, slots := #[] } := by
        have := Heap.get?_update_self (Obj.putSet e1 t2) hat (by rw [putSet_of e1 t2 rfl]; rfl)
        rw [putSet_of e1 t2 rfl] at this
        exact this
      have sb1 := Heap.SameBut.update s.heap S (Obj.putSet e1 t2)
      refine wpAny_bind (wpAny_storeSet_of hat rfl ?_ (fits_of_scanBound hbd1))
      by_cases hfull : (!dm && t2.tooFull) = true
      · rw [if_pos hfull]
        obtain ⟨m1, m2⟩ := Eb.relay_led t2 e1 (SetTable.grown e1.size)
        have hp2 := relayAll_perm t2 e1 (SetTable.grown e1.size)
        have hf2 := relayAll_fits t2 e1 (SetTable.grown e1.size)
        generalize relayAll t2 e1 (SetTable.grown e1.size) = L at m1 m2 hp2 hf2 ⊢
        obtain ⟨e2, t3, gv2⟩ := L
        dsimp only at m1 m2 hp2 hf2 ⊢
        have hsz2 : e2.size = e1.size := by rw [← Array.length_toList, hp2.length_eq, Array.length_toList]
        have hbd2 : e2.size < scanBound := by rw [hsz2]; exact hbd1
        refine wpAny_bind (hgw _ _ _ ?_)
        refine wpAny_bind (wpAny_storeSet_of ho1 rfl ?_ (fits_of_scanBound hbd2))
        have ho2 : ((s.heap.update S (Obj.putSet e1 t2)).update S (Obj.putSet e2 t3)).get? S = some { cls := .type "set", dict := none, data := .set e2 (ep + 1 + 1) t3, slots := #[] } := by
          have := Heap.get?_update_self (Obj.putSet e2 t3) ho1 (by rw [putSet_of e2 t3 rfl]; rfl)
          rw [putSet_of e2 t3 rfl] at this
          exact this
        exact wpAny_pure (hR _ e2 _ t3 (sb1.trans (Heap.SameBut.update _ S _)) ⟨ho2, hel1.perm hp2, by rw [(hp2.map _).nodup_iff]; exact hnd1, hbd2, hf2, m1.trans f2, fun _ => m2 f3⟩ (by omega) hp2)
      · rw [if_neg hfull]
        exact wpAny_pure (hR _ e1 _ t2 sb1 ⟨ho1, hel1, hnd1, hbd1, f1, f2, fun _ => f3⟩ (by omega) (.refl _))
    refine wpAny_bind (hgw _ ?_)
    have fin : ∀ g es' ep' t', Heap.SameBut S s.heap g → Eb.TxSet prog w g S led es' ep' t' → es'.size ≤ es.size + 1 → es'.toList.Perm e1.toList → wpAny (model prog w) A (pure true) Q E { s with heap := g } := fun g es' ep' t' a1 a2 a3 a4 => wpAny_pure (h g es' ep' t' _ a1 a2 a3 (hmem _ a4))
    split
    · refine wpAny_bind ?_
      rw [hashByValue_scannable (x := .str y u) 8 rfl]
      refine wpAny_pure ?_
      refine tail _ _ ?_ (SetTable.fits_plain_off hfi) (l1.trans hled) rfl _ fin
      intro b s₁ Q' hq; cases b <;> first | exact wpAny_pure hq | exact wpAny_rule hq
    · refine wpAny_bind (wpAny_pure ?_)
      rename_i hp
      refine tail _ _ ?_ hfi (l1.trans hled) (by simpa using hp) _ fin
      intro b s₁ Q' hq; cases b <;> first | exact wpAny_pure hq | exact wpAny_rule hq
end
/-- the set holds the first i of the texts -/
def Eb.SetUp (prog : Program) (w : World) (h : Heap) (S : Addr) (led : Bool) (ys : List Str) (i : Nat) : Prop := ∃ es ep t, Eb.TxSet prog w h S led es ep t ∧ es.size ≤ i ∧ ∀ k, (∃ e ∈ es.toList, Eb.strIn e.2 = k) ↔ k ∈ ys.take i
section
variable {prog : Program} {w : World} {A : Around} {R : Result → Shared → Prop} {I l S : Addr} {items : Array Value} {ys : List Str} {led : Bool}
theorem Eb.set_fill (hh : A.handled = none) (hne : l ≠ I) (hSf : S ∉ [I, l]) (hv : ∀ (i : Nat) (v : Value), items[i]? = some v → ∃ y t, ys[i]? = some y ∧ v = .str y t) (hb : items.size + 1 < scanBound) :
    ∀ (m i : Nat) (s : Shared), items.size - i = m → i ≤ items.size → s.heap.IsListIter I l i → s.heap.IsList l items → Eb.SetUp prog w s.heap S led ys i →
      (∀ g tk, (∀ b o, b ∉ [S, I] → s.heap.get? b = some o → g.get? b = some o) → Eb.SetUp prog w g S led ys items.size → R (.ok (.ret .none)) { s with heap := g, toks := tk }) →
      codeAny (model prog w) A (.builtin "set.update.loop" ⟨[.ref S, .ref I], []⟩) R s := by
  have n1 : S ≠ I := fun e => hSf (by simp [e])
  have n2 : S ≠ l := fun e => hSf (by simp [e])
  intro m
  induction m with
  | zero =>
    intro i s hm hi hit hl hS hR
    have ei : i = items.size := by omega
    subst ei
    refine codeAny_builtin PyProof.Rows.F.entry_set_update_loop ?_
    rw [Around.under_plainId PyProof.Rows.F.plain_set_update_loop _]
    show wpAny _ A.in1 (pyNext (.ref I) >>= _) _ _ s
    refine wpAny_bind (wpAny_pyNext_list_end (A := A.in1) hh hit hl (by simp) fun g he => ?_)
    show wpAny _ A.in1 (ret Value.none) _ _ _
    obtain ⟨es, ep, t, T, h1, h2⟩ := hS
    exact wpAny_pure (hR g s.toks (fun b o hb e => he b o (fun x => hb (by simp [x])) e) ⟨es, ep, t, T.keep fun o e => he S o n1 e, h1, h2⟩)
  | succ m ih =>
    intro i s hm hi hit hl hS hR
    have hlt : i < items.size := by omega
    have hx : items[i]? = some items[i] := Array.getElem?_eq_getElem hlt
    obtain ⟨y, t, hy, ev⟩ := hv i _ hx
    rw [ev] at hx
    refine codeAny_builtin PyProof.Rows.F.entry_set_update_loop ?_
    rw [Around.under_plainId PyProof.Rows.F.plain_set_update_loop _]
    show wpAny _ A.in1 (pyNext (.ref I) >>= _) _ _ s
    refine wpAny_bind (wpAny_pyNext_list_item (A := A.in1) hit hl hx fun g hit' sb => ?_)
    obtain ⟨es, ep, tb, T, h1, h2⟩ := hS
    have T' : Eb.TxSet prog w g S led es ep tb := T.keep fun o e => sb.extBut _ _ n1 e
    show wpAny _ A.in1 (holding [Value.str y t] (setAdd S (.str y t)) >>= _) _ _ _
    refine wpAny_bind (wpAny_holding ?_)
    unfold setAdd
    refine wpAny_holding (wpAny_bind ((PySem.strKind prog w).pyHash (k := y) (strKind_is _ _ _ _) ?_))
    refine Eb.set_put (s := { s with heap := g, toks := s.toks + 1 }) T' (by omega) fun g2 es' ep' t' b sb2 T2 a3 a4 => ?_
    replace sb2 : Heap.SameBut S g g2 := sb2
    have et : ys.take (i + 1) = ys.take i ++ [y] := by rw [List.take_add_one, hy]; rfl
    refine wpAny_pure ⟨plainId_quiet PyProof.Rows.F.plain_set_update_loop _, ih (i + 1) _ (by omega) hlt (hit'.at fun o e => sb2.extBut _ _ (Ne.symm n1) e) ((hl.extBut sb.extBut hne).at fun o e => sb2.extBut _ _ (Ne.symm n2) e) ⟨es', ep', t', T2, by omega, fun k => ?_⟩ fun g3 tk hk hH => ?_⟩
    · rw [a4, h2, et, List.mem_append, List.mem_singleton]
    · exact hR g3 tk (fun b o hb e => hk b o hb (sb2.extBut _ _ (fun x => hb (by simp [x])) (sb.extBut _ _ (fun x => hb (by simp [x])) e))) hH
end
section
variable {prog : Program} {w : World} {A : Around} {E : Value → Shared → Prop} {s : Shared}
abbrev Eb.byTx (w : World) : Bool := w.params.followText "set-order"
def Eb.newSetObj (w : World) : Obj := { cls := .type "set", dict := none, data := .set #[] 0 (.fresh 0 0 (!Eb.byTx w)) }
theorem Eb.set_new (a : Value) {Q₁ : Value → Shared → Prop} (h : Q₁ (.ref s.heap.objs.size) { s with heap := s.heap.push (Eb.newSetObj w) }) :
    codeAny (model prog w) A (.call (.builtin "set.__new__") ⟨[.type "set", a], []⟩) (wants Q₁ E) s := by
  refine codeAny_of_tree ?_
  show wpAny _ A.in1 (checkBuiltinCall "set.__new__" ⟨[.type "set", a], []⟩ >>= fun _ => again (.builtin "set.__new__" ⟨[.type "set", a], []⟩)) _ _ s
  refine wpAny_bind (wpAny_of_eq (F.newCall_set_1 a) (wpAny_pure ⟨plainId_quiet F.plain_set_new _, codeAny_builtin F.entry_set_new ?_⟩))
  rw [Around.under_plainId F.plain_set_new _]
  unfold Builtin.«set.__new__» Builtin.Frozenset.newClass
  have k0 := sub_set_self
  obtain ⟨hp, g, d, tk, os⟩ := s
  dsimp only
  wp_walk
  refine wpAny_askSetting (wpAny_pure ?_)
  dsimp only
  simp only [newObj]
  exact wpAny_bind (wpAny_alloc (wpAny_pure (wpAny_pure h)))
set_option maxHeartbeats 3200000 in
theorem Eb.call_set_txs {l : Addr} {items : Array Value} {ys : List Str} {Q : Value → Shared → Prop} (hh : A.handled = none) (hl : s.heap.IsList l items) (hv : ∀ (i : Nat) (v : Value), items[i]? = some v → ∃ y t, ys[i]? = some y ∧ v = .str y t) (hb : items.size + 1 < scanBound)
    (h : ∀ g tk, Eb.SetUp prog w g s.heap.objs.size (!Eb.byTx w) ys items.size → (∀ b o, b < s.heap.objs.size → s.heap.get? b = some o → g.get? b = some o) → Q (.ref s.heap.objs.size) { s with heap := g, toks := tk }) :
    wpAny (model prog w) A (call (.type "set") [.ref l]) Q E s := by
  obtain ⟨c, tl, hmro⟩ := F.called_set.mro
  have k1 := F.called_set.made
  have k2 := F.called_set.sub
  have k3 := F.called_set.notType
  have k4 := F.called_set.canCreate
  have k5 := F.typeCall_set_1 (.ref l)
  refine wpAny_call (codeAny_of_tree ?_)
  show wpAny _ _ (callAny (.type "set") _) _ _ _
  refine wpAny_pure ⟨Code.quiet_builtin _ (by decide +kernel), codeAny_builtin F.entry_type_call ?_⟩
  rw [Around.under_plain (weight_type_call_type "set" [.ref l] []) rfl]
  repeat (any_goals (first | assumption | wp_step))
  refine codeAny_mono (Eb.set_new (.ref l) (E := E) (Q₁ := fun obj s₁ => obj = .ref s.heap.objs.size ∧ s₁ = { s with heap := s.heap.push (Eb.newSetObj w) }) ⟨rfl, rfl⟩) fun r s₁ q1 => ?_
  cases r with
  | error e => exact q1
  | ok fl =>
    cases fl with
    | ret obj =>
      obtain ⟨e1, e2⟩ := q1
      subst e1; subst e2
      have hS : (s.heap.push (Eb.newSetObj w)).get? s.heap.objs.size = some { cls := .type "set", dict := none, data := .set #[] 0 (.fresh 0 0 (!Eb.byTx w)) } := Heap.get?_push_size _ rfl
      have hT : Shared.TypeIs { s with heap := s.heap.push (Eb.newSetObj w) } (.ref s.heap.objs.size) "set" := ⟨_, hS, rfl⟩
      have k6 := F.called_set.init.lookup
      have k7 := F.called_set.init.bind (.ref s.heap.objs.size)
      repeat (any_goals (first | assumption | wp_step))
      refine codeAny_mono (codeAny_call_builtin (R := wants (fun r s₂ => r = .none ∧ ∃ g tk, s₂ = { s with heap := g, toks := tk } ∧ Eb.SetUp prog w g s.heap.objs.size (!Eb.byTx w) ys items.size ∧ (∀ b o, b < s.heap.objs.size → s.heap.get? b = some o → g.get? b = some o)) E) F.called_set.init.plain F.entry_set_init (check_set_init_1 hT ?_)) fun r₂ s₂ q2 => ?_
      · obtain ⟨⟨oc, od, odt, osl⟩, hol, hcl, nl, hdl⟩ := hl
        simp only at hcl hdl
        subst hcl; subst hdl
        have hol2 : (s.heap.push (Eb.newSetObj w)).get? l = some { cls := .type "list", dict := od, data := .seq items nl, slots := osl } := Heap.get?_push_of_some _ hol
        have j1 := F.sub_list_set
        have j2 := F.sub_list_frozenset
        have j3 : (Value.type "list" == Value.type "dict") = false := by decide
        have hl1 : (s.heap.push (Eb.newSetObj w)).IsList l items := ⟨_, hol2, rfl, nl, rfl⟩
        have lS : l < s.heap.objs.size := Heap.lt_size hol
        unfold Builtin.«set.__init__» noKeywords Builtin.Frozenset.updateFrom
        generalize hPI : pyIter = PI
        wp_walk
        subst hPI
        refine wpAny_pyIter_list hl1 (wpAny_bind (wpAny_runValue ?_))
        have hp : (s.heap.push (Eb.newSetObj w)).objs.size = s.heap.objs.size + 1 := Heap.size_push ..
        refine Eb.set_fill (ys := ys) (items := items) (S := s.heap.objs.size) (l := l) (led := !Eb.byTx w) (by simp [hh]) (by rw [hp]; exact Nat.ne_of_lt (Nat.lt_succ_of_lt lS)) (by
          rw [hp]; intro hm
          rcases List.mem_cons.mp hm with e | e
          · exact absurd e (Nat.ne_of_lt (Nat.lt_succ_self _))
          · exact absurd (List.mem_singleton.mp e) (Nat.ne_of_gt lS)) hv hb items.size 0 _ (by omega) (Nat.zero_le _) ⟨_, Heap.get?_push_size _ rfl, rfl, rfl⟩ (hl1.push _) ⟨#[], 0, _, ⟨Heap.get?_push_of_some _ hS, fun e he => by simp at he, by simp, by unfold scanBound; decide, rfl, rfl, fun z => absurd rfl z⟩, Nat.le_refl _, by simp⟩ fun g tk hk hH => ?_
        · show wpAny _ _ _ _ _ _
          refine wpAny_pure ?_
          show wpAny _ _ (ret Value.none) _ _ _
          refine wpAny_pure ⟨rfl, g, tk, rfl, hH, fun b o hb e => hk b o ?_ (Heap.get?_push_of_some _ (Heap.get?_push_of_some _ e))⟩
          rw [hp]; intro hm
          rcases List.mem_cons.mp hm with e | e
          · exact absurd e (Nat.ne_of_lt hb)
          · exact absurd (List.mem_singleton.mp e) (Nat.ne_of_lt (Nat.lt_succ_of_lt hb))
      · cases r₂ with
        | error e => exact q2
        | ok fl₂ =>
          cases fl₂ with
          | ret r =>
            obtain ⟨e1, g, tk, e2, hH, hk⟩ := q2
            subst e1; subst e2
            repeat (any_goals (first | assumption | wp_step))
            exact h _ _ hH hk
          | _ => exact q2.elim
    | _ => exact q1.elim
end
end PySem

set_option autoImplicit false
set_option maxRecDepth 100000
set_option linter.unusedVariables false
namespace PySem
/-! walking a set of texts -/
theorem Eb.erase_perm {α : Type} : ∀ (l : List α) (i : Nat) (h : i < l.length), (l[i] :: l.eraseIdx i).Perm l
  | x :: l, 0, _ => .refl _
  | x :: l, i + 1, h => by
    have h' : i < l.length := by simpa using h
    exact (List.Perm.swap _ _ _).trans ((Eb.erase_perm l i h').cons x)
theorem Eb.pick_perm {α : Type} (next : Nat → Nat) : ∀ (fuel k : Nat) (left : List α) (out : Array α), fuel = left.length → (pickOrder.go next fuel k left out).toList.Perm (out.toList ++ left)
  | 0, k, left, out, h => by
    have : left = [] := List.length_eq_zero_iff.mp h.symm
    subst this
    simp [pickOrder.go]
  | fuel + 1, k, left, out, h => by
    have hp : 0 < left.length := by omega
    have hm := Nat.mod_lt (next k) hp
    have e : left[next k % left.length]? = some (left[next k % left.length]) := List.getElem?_eq_getElem hm
    unfold pickOrder.go
    rw [e]
    refine (Eb.pick_perm next fuel (k + 1) _ _ (by rw [List.length_eraseIdx]; simp [hm]; omega)).trans ?_
    rw [Array.toList_push, List.append_assoc]
    refine List.Perm.append_left _ ?_
    exact Eb.erase_perm _ _ hm
theorem Eb.pickOrder_perm {α : Type} (next : Nat → Nat) (xs : Array α) : (pickOrder next xs).toList.Perm xs.toList := by
  have := Eb.pick_perm next xs.size 0 xs.toList #[] (by simp)
  simpa [pickOrder] using this
section
variable {prog : Program} {w : World} {A : Around} {E : Value → Shared → Prop} {s : Shared}
theorem Eb.wp_choose {src : Source} {n : Nat} {Q : Nat → Shared → Prop} (hn : n ≠ 0) (h : ∀ i d, i < n → Q i { s with drawn := d }) : wpAny (model prog w) A (choose src n) Q E s := fun Γ p _ => by
  unfold choose
  rw [Sem.wp_choose]
  exact ⟨hn, h _ _ (Nat.mod_lt _ (Nat.pos_of_ne_zero hn))⟩
theorem Eb.draw_perm {α : Type} : ∀ (n : Nat) (xs : List α) (s : Shared) (Q : List α → Shared → Prop), xs.length = n → (∀ d ys, ys.Perm xs → Q ys { s with drawn := d }) → wpAny (model prog w) A (drawOrder n xs) Q E s
  | 0, xs, s, Q, hn, h => by
    have : xs = [] := List.length_eq_zero_iff.mp hn
    subst this
    unfold drawOrder
    exact wpAny_pure (h s.drawn [] (.refl _))
  | n + 1, x :: xs, s, Q, hn, h => by
    unfold drawOrder
    refine wpAny_bind (Eb.wp_choose (by simp) fun i d hi => ?_)
    have e : (x :: xs)[i]? = some ((x :: xs)[i]) := List.getElem?_eq_getElem hi
    rw [e]
    refine wpAny_bind (Eb.draw_perm n _ _ _ (by rw [List.length_eraseIdx, if_pos hi]; simpa using hn) fun d' ys hy => wpAny_pure (h d' _ ?_))
    exact (hy.cons _).trans (Eb.erase_perm _ _ hi)
end
theorem Eb.slot_si_next : Slot "set_iterator" "__next__" "set_iterator.__next__" :=
  .of (owner := "set_iterator") (n := "__next__") (by rw [typeLookup_type, builtinLookup_eq_fast]; kernel_rfl) (by decide +kernel) (by decide +kernel) (by decide +kernel) (by first | exact .inl (by decide +kernel) | exact .inr (by decide +kernel)) (by rw [isSubtype_type]; kernel_rfl)
theorem Eb.slot_si_iter : Slot "set_iterator" "__iter__" "set_iterator.__iter__" :=
  .of (owner := "set_iterator") (n := "__iter__") (by rw [typeLookup_type, builtinLookup_eq_fast]; kernel_rfl) (by decide +kernel) (by decide +kernel) (by decide +kernel) (by first | exact .inl (by decide +kernel) | exact .inr (by decide +kernel)) (by rw [isSubtype_type]; kernel_rfl)
theorem Eb.owner_si : Manifest.owners.lookup (String.ofList "set_iterator".toList.reverse.reverse) = some Manifest.sig_set_iterator := by kernel_rfl
theorem Eb.args_si_next (a : Value) : argsOk "set_iterator.__next__" ⟨[a], []⟩ := by
  unfold argsOk
  rw [signature?_of (id := "set_iterator.__next__") (n := "__next__".toList.reverse) (o := "set_iterator".toList.reverse) (by kernel_rfl) Eb.owner_si]
  kernel_rfl
theorem Eb.args_si_iter (a : Value) : argsOk "set_iterator.__iter__" ⟨[a], []⟩ := by
  unfold argsOk
  rw [signature?_of (id := "set_iterator.__iter__") (n := "__iter__".toList.reverse) (o := "set_iterator".toList.reverse) (by kernel_rfl) Eb.owner_si]
  kernel_rfl
theorem Eb.entry_si_next : entryFor table "set_iterator.__next__" = some Builtin.«set_iterator.__next__» := entryFor_of_tree (by kernel_rfl)
theorem Eb.entry_si_iter : entryFor table "set_iterator.__iter__" = some Builtin.«dict_keyiterator.__iter__» :=
  entryFor_alias (id' := "dict_keyiterator.__iter__") (by kernel_rfl) (by first | rfl | decide +kernel | (unfold String.splitOn; simp +decide [String.splitOnAux])) (by decide +kernel) (by kernel_rfl)
theorem Eb.entry_set_iter : entryFor table "set.__iter__" = some Builtin.«frozenset.__iter__» :=
  entryFor_alias (id' := "frozenset.__iter__") (by kernel_rfl) (by first | rfl | decide +kernel | (unfold String.splitOn; simp +decide [String.splitOnAux])) (by decide +kernel) (by kernel_rfl)
/-- an iterator over the set at S, i given -/
def Eb.setIt (f : Value) (i : Nat) (S : Addr) (n ep : Nat) : Obj := { cls := .type "set_iterator", data := .fields #[f, rawInt (i : Int), .ref S, rawInt (n : Int), rawInt (ep : Int)] }
section
variable {prog : Program} {w : World} {A : Around} {E : Value → Shared → Prop} {s : Shared} {S : Addr} {led : Bool} {es : Array (Int × Value)} {ep : Nat} {t : SetTable}
theorem Eb.TxSet.typeIs (T : Eb.TxSet prog w s.heap S led es ep t) : s.TypeIs (.ref S) "set" := ⟨_, T.at', rfl⟩
theorem Eb.set_iter (T : Eb.TxSet prog w s.heap S (!Eb.byTx w) es ep t) {Q : Value → Shared → Prop}
    (h0 : (Eb.byTx w = true ∨ es.size ≤ 1) → Q (.ref s.heap.objs.size) { s with heap := s.heap.push (Eb.setIt (rawInt 0) 0 S es.size ep) })
    (h1 : Eb.byTx w = false → ∀ d (ps : List Nat), ps.Perm (List.range es.size) → Q (.ref (s.heap.objs.size + 1)) { s with heap := (s.heap.push { cls := .type "tuple", data := .seq (ps.map fun (i : Nat) => rawInt i).toArray }).push (Eb.setIt (.ref s.heap.objs.size) 0 S es.size ep), drawn := d }) :
    wpAny (model prog w) A (pyIter (.ref S)) Q E s := by
  have hT := T.typeIs
  refine wpAny_pyIter_slot hT F.slot_set_iter (wpAny_call_entry F.slot_set_iter hT Eb.entry_set_iter ?_ (F.args_set_iter_1 _))
  unfold Builtin.«frozenset.__iter__»
  refine wpAny_bind (wpAny_of_eq (a := S) rfl ?_)
  unfold Builtin.Frozenset.sizeOf
  refine wpAny_bind (wpAny_bind (wpAny_setEntries_of T.at' rfl T.fit (wpAny_pure ?_)))
  unfold setDrawn
  refine wpAny_bind (wpAny_bind (wpAny_setState_of T.at' rfl T.fit ?_))
  dsimp only
  unfold setsByText
  refine wpAny_bind (wpAny_bind (wpAny_askSetting (wpAny_pure ?_)))
  refine wpAny_pure ?_
  show wpAny _ _ (if (!Eb.byTx w && (!t.plain && decide (es.size > 1))) = true then _ else _) _ _ _
  have fin : ∀ (f : Value) (s1 : Shared), s1.heap.get? S = s.heap.get? S → Q (.ref s1.heap.objs.size) { s1 with heap := s1.heap.push (Eb.setIt f 0 S es.size ep) } → wpAny (model prog w) A.in1 (setEpoch S >>= fun e => newFields "set_iterator" [f, rawInt 0, .ref S, rawInt es.size, rawInt e] >>= fun x => ret x) (fun fin s' => ∃ r, fin = .done (.ret r) ∧ ∃ T' r', s'.TypeIs r T' ∧ typeLookup (.type T') "__next__" = pure (some r') ∧ Q r s') E s1 := fun f s1 e q => by
    refine wpAny_bind (wpAny_setEpoch_of (e.trans T.at') rfl T.fit ?_)
    refine wpAny_bind (wpAny_newObj_type ?_ (by show 5 ≤ _; rw [sizeLine_eq]; omega))
    exact wpAny_pure ⟨_, rfl, "set_iterator", _, ⟨_, Heap.get?_push_size _ rfl, rfl⟩, Eb.slot_si_next.lookup, q⟩
  cases hb : Eb.byTx w with
  | true =>
    simp only [Bool.not_true, Bool.false_and, Bool.false_eq_true, if_false]
    refine wpAny_bind (wpAny_pure ?_)
    exact fin _ s rfl (h0 (.inl hb))
  | false =>
    cases hd : (!t.plain && decide (es.size > 1)) with
    | false =>
      simp only [Bool.not_false, Bool.and_false, Bool.false_eq_true, if_false]
      refine wpAny_bind (wpAny_pure ?_)
      refine fin _ s rfl (h0 (.inr ?_))
      rcases Nat.lt_or_ge 1 es.size with g | g
      · rw [T.pl (by omega), decide_eq_true g] at hd
        cases hd
      · exact g
    | true =>
      simp only [Bool.not_false, Bool.and_true, if_true]
      refine wpAny_bind (Eb.draw_perm _ _ _ _ List.length_range fun d ys hy => ?_)
      have hl : (ys.map fun (i : Nat) => rawInt i).length ≤ sizeLine := by rw [List.length_map, hy.length_eq, List.length_range]; exact fits_of_scanBound T.bnd
      refine wpAny_bind (wpAny_newTuple ?_ hl)
      refine fin _ _ (Heap.get?_push_ne _ _ _ (Nat.ne_of_lt (Heap.lt_size T.at'))) ?_
      have := h1 hb d ys hy
      rw [← Heap.size_push s.heap { cls := .type "tuple", data := .seq (ys.map fun (i : Nat) => rawInt i).toArray }] at this
      exact this
theorem Eb.si_drawn {I P : Addr} {led : Bool} {i p : Nat} {ps : Array Value} {c : Nat} {e : Int × Value} {Q : Option Value → Shared → Prop} (hit : s.heap.get? I = some (Eb.setIt (.ref P) i S es.size ep)) (T : Eb.TxSet prog w s.heap S led es ep t)
    (hP : s.heap.get? P = some { cls := .type "tuple", data := .seq ps c }) (hp : ps[i]? = some (rawInt (p : Int))) (he : es[p]? = some e)
    (hQ : ∀ g, g.get? I = some (Eb.setIt (.ref P) (i + 1) S es.size ep) → Heap.SameBut I s.heap g → Q (some e.2) { s with heap := g }) : wpAny (model prog w) A (pyNext (.ref I)) Q E s := by
  have hT : s.TypeIs (.ref I) "set_iterator" := ⟨_, hit, rfl⟩
  unfold pyNext
  refine wpAny_bind (wpAny_attempt (wpAny_callSpecial?_slot (name := Str.ofString "__next__") hT Eb.slot_si_next (wpAny_call_entry Eb.slot_si_next hT Eb.entry_si_next ?_ (Eb.args_si_next _))))
  unfold Builtin.«set_iterator.__next__»
  refine wpAny_bind (wpAny_of_eq (a := (Value.ref I, [])) rfl ?_)
  try dsimp only
  refine wpAny_bind (wpAny_fieldsOf hit rfl ?_)
  dsimp only [Eb.setIt, rawInt]
  refine wpAny_bind (wpAny_setEntries_of T.at' rfl T.fit ?_)
  rw [if_neg (by simp)]
  refine wpAny_bind (wpAny_seqItems hP rfl ?_)
  dsimp only
  rw [show ((i : Nat) : Int).toNat = i from rfl, hp]
  dsimp only [rawInt]
  unfold setNextDrawn
  refine wpAny_bind (wpAny_bind (wpAny_setState_of T.at' rfl T.fit ?_))
  dsimp only
  rw [if_neg (by simp), show ((p : Nat) : Int).toNat = p from rfl, he]
  dsimp only
  refine wpAny_pure ?_
  refine wpAny_bind (wpAny_setField_rec hit (by simp) fun g hg sg => wpAny_pure ⟨_, rfl, wpAny_pure (hQ g hg sg)⟩)
theorem Eb.si_drawn_end {I P : Addr} {led : Bool} {i : Nat} {ps : Array Value} {c : Nat} {Q : Option Value → Shared → Prop} (hh : A.handled = none) (hit : s.heap.get? I = some (Eb.setIt (.ref P) i S es.size ep)) (T : Eb.TxSet prog w s.heap S led es ep t)
    (hP : s.heap.get? P = some { cls := .type "tuple", data := .seq ps c }) (hp : ps[i]? = none) (hQ : ∀ g, Heap.ExtBut I s.heap g → Q none { s with heap := g }) : wpAny (model prog w) A (pyNext (.ref I)) Q E s := by
  have hT : s.TypeIs (.ref I) "set_iterator" := ⟨_, hit, rfl⟩
  unfold pyNext
  refine wpAny_bind (wpAny_attempt (wpAny_callSpecial?_slot (name := Str.ofString "__next__") hT Eb.slot_si_next (wpAny_call_entry Eb.slot_si_next hT Eb.entry_si_next ?_ (Eb.args_si_next _))))
  unfold Builtin.«set_iterator.__next__»
  refine wpAny_bind (wpAny_of_eq (a := (Value.ref I, [])) rfl ?_)
  try dsimp only
  refine wpAny_bind (wpAny_fieldsOf hit rfl ?_)
  dsimp only [Eb.setIt, rawInt]
  refine wpAny_bind (wpAny_setEntries_of T.at' rfl T.fit ?_)
  rw [if_neg (by simp)]
  refine wpAny_bind (wpAny_seqItems hP rfl ?_)
  dsimp only
  rw [show ((i : Nat) : Int).toNat = i from rfl, hp]
  dsimp only [rawInt]
  refine wpAny_bind (wpAny_setField_rec hit (by simp) fun g1 hg1 s1 => ?_)
  refine wpAny_bind (wpAny_setField_rec hg1 (by simp) fun g2 hg2 s2 => ?_)
  refine wpAny_bind ?_
  simp only [newExc, newTuple]
  refine wpAny_bind (wpAny_newObj_type (wpAny_bind (m := firstArgMember _ _) (wpAny_of_eq (a := Value.none) (by first | rfl | (simp only [firstArgMember]; rfl)) (wpAny_newObj_type ?_ (by size_fits)))) (by size_fits))
  simp only [raiseNew]
  refine wpAny_bind (wpAny_handled ?_)
  rw [show A.in1.handled = none from hh]
  refine wpAny_bind (wpAny_pure (wpAny_throw (wpAny_bind ?_)))
  refine wpAny_isInstance (T := "StopIteration") (b := true) ⟨_, Heap.get?_push_size _ rfl, rfl⟩ isSubtype_stop (wpAny_pure (hQ _ ?_))
  exact fun b o hb e => Heap.get?_push_of_some _ (Heap.get?_push_of_some _ (s2.extBut b o hb (s1.extBut b o hb e)))
/-- the places not drawn: by the text, or one element at most -/
def Eb.plainOrder (w : World) (S : Addr) (es : Array (Int × Value)) (ep : Nat) : Array (Int × Value) := if Eb.byTx w = true then pickOrder (w.params.setOrder S ep) es else es
/-- the slot that is looked at next -/
def Eb.slotAt (w : World) (t : SetTable) (i : Nat) : Nat := if Eb.byTx w = true then 0 else if i = 0 then 0 else t.place.getD 0 0 + 1
theorem Eb.below0 (xs : Array Nat) (h : xs.size ≤ 1) : SetTable.below xs 0 = 0 := by
  unfold SetTable.below
  obtain h0 | h1 : xs.size = 0 ∨ xs.size = 1 := by omega
  · rw [h0]; rfl
  · rw [h1]
    simp [SetTable.below.go]
theorem Eb.below1 (xs : Array Nat) (h : xs.size = 1) : SetTable.below xs (xs.getD 0 0 + 1) = 1 := by
  unfold SetTable.below
  rw [h]
  obtain ⟨x, hx⟩ : ∃ x, xs[0]? = some x := ⟨_, Array.getElem?_eq_getElem (by omega)⟩
  simp [SetTable.below.go, hx]
theorem Eb.next_slot (T : Eb.TxSet prog w s.heap S (!Eb.byTx w) es ep t) (hs : Eb.byTx w = true ∨ es.size ≤ 1) {i : Nat} (hi : i ≤ es.size) {Q : Option (Value × Nat) → Shared → Prop}
    (h : Q (((Eb.plainOrder w S es ep)[i]?).map fun e => (e.2, Eb.slotAt w t (i + 1))) s) : wpAny (model prog w) A (setNext S (Eb.slotAt w t i) i ep) Q E s := by
  unfold setNext
  refine wpAny_bind (wpAny_setState_of T.at' rfl T.fit ?_)
  dsimp only
  unfold setsByText
  refine wpAny_bind (wpAny_bind (wpAny_askSetting (wpAny_pure ?_)))
  show wpAny _ _ (if Eb.byTx w = true then _ else _) _ _ _
  unfold Eb.plainOrder Eb.slotAt at *
  cases hb : Eb.byTx w with
  | true =>
    simp only [hb, if_true] at h ⊢
    rw [if_neg (by simp)]
    unfold setWalk
    refine wpAny_bind (wpAny_bind (wpAny_setState_of T.at' rfl T.fit ?_))
    dsimp only
    unfold setsByText
    refine wpAny_bind (wpAny_bind (wpAny_askSetting (wpAny_pure ?_)))
    show wpAny _ _ (if Eb.byTx w = true then _ else _) _ _ _
    rw [if_pos hb]
    refine wpAny_bind (wpAny_askSetting (wpAny_pure ?_))
    exact wpAny_pure h
  | false =>
    have hs1 : es.size ≤ 1 := hs.resolve_left (by rw [hb]; decide)
    have hl : t.led = true := by rw [T.led', hb]; rfl
    have hps : t.place.size = es.size := by
      have := T.fit
      simp only [SetTable.fits, Bool.and_eq_true, beq_iff_eq] at this
      exact this.1
    simp only [hb, Bool.false_eq_true, if_false] at h ⊢
    have hd : (!t.plain && decide (es.size > 1)) = false := by rw [decide_eq_false (by omega), Bool.and_false]
    show wpAny _ _ (if (!t.plain && decide (es.size > 1)) = true then _ else _) _ _ _
    rw [hd, if_neg (by decide)]
    show wpAny _ _ ((if (!t.led && !es.isEmpty) = true then _ else _) >>= _) _ _ _
    rw [hl, if_neg (by simp)]
    refine wpAny_bind (wpAny_pure ?_)
    refine wpAny_pure ?_
    obtain h0 | h1 : es.size = 0 ∨ es.size = 1 := by omega
    · have i0 : i = 0 := by omega
      subst i0
      rw [if_pos rfl, Eb.below0 _ (by omega)]
      have e1 : es[0]? = none := Array.getElem?_eq_none (by omega)
      rw [e1] at h ⊢
      exact h
    · obtain ⟨e, he⟩ : ∃ e, es[0]? = some e := ⟨_, Array.getElem?_eq_getElem (by omega)⟩
      obtain ⟨j, hj⟩ : ∃ e, t.place[0]? = some e := ⟨_, Array.getElem?_eq_getElem (by omega)⟩
      have hg : t.place.getD 0 0 = j := by rw [Array.getD_eq_getD_getElem?, hj]; rfl
      obtain i0 | i1 : i = 0 ∨ i = 1 := by omega
      · subst i0
        rw [if_pos rfl, Eb.below0 _ (by omega), he, hj]
        rw [he, hg] at h
        exact h
      · subst i1
        rw [if_neg (by decide), Eb.below1 _ (by omega)]
        have e1 : es[1]? = none := Array.getElem?_eq_none (by omega)
        rw [e1] at h ⊢
        exact h
theorem Eb.plainOrder_perm (w : World) (S : Addr) (es : Array (Int × Value)) (ep : Nat) : (Eb.plainOrder w S es ep).toList.Perm es.toList := by
  unfold Eb.plainOrder
  split
  · exact Eb.pickOrder_perm _ _
  · exact .refl _
theorem Eb.si_plain {I : Addr} {i : Nat} {e : Int × Value} {Q : Option Value → Shared → Prop} (hs : Eb.byTx w = true ∨ es.size ≤ 1) (hit : s.heap.get? I = some (Eb.setIt (rawInt (Eb.slotAt w t i : Nat)) i S es.size ep)) (T : Eb.TxSet prog w s.heap S (!Eb.byTx w) es ep t)
    (he : (Eb.plainOrder w S es ep)[i]? = some e) (hi : i < es.size)
    (hQ : ∀ g, g.get? I = some (Eb.setIt (rawInt (Eb.slotAt w t (i + 1) : Nat)) (i + 1) S es.size ep) → Heap.SameBut I s.heap g → Q (some e.2) { s with heap := g }) : wpAny (model prog w) A (pyNext (.ref I)) Q E s := by
  have hT : s.TypeIs (.ref I) "set_iterator" := ⟨_, hit, rfl⟩
  unfold pyNext
  refine wpAny_bind (wpAny_attempt (wpAny_callSpecial?_slot (name := Str.ofString "__next__") hT Eb.slot_si_next (wpAny_call_entry Eb.slot_si_next hT Eb.entry_si_next ?_ (Eb.args_si_next _))))
  unfold Builtin.«set_iterator.__next__»
  refine wpAny_bind (wpAny_of_eq (a := (Value.ref I, [])) rfl ?_)
  try dsimp only
  refine wpAny_bind (wpAny_fieldsOf hit rfl ?_)
  dsimp only [Eb.setIt, rawInt]
  refine wpAny_bind (wpAny_setEntries_of T.at' rfl T.fit ?_)
  rw [if_neg (by simp)]
  refine wpAny_bind (Eb.next_slot T hs (Nat.le_of_lt hi) ?_)
  rw [he]
  dsimp only [Option.map_some]
  refine wpAny_bind (wpAny_setField_rec hit (by simp) fun g1 hg1 s1 => ?_)
  refine wpAny_bind (wpAny_setField_rec hg1 (by simp) fun g2 hg2 s2 => ?_)
  exact wpAny_pure ⟨_, rfl, wpAny_pure (hQ g2 hg2 (s1.trans s2))⟩
theorem Eb.si_plain_end {I : Addr} {Q : Option Value → Shared → Prop} (hh : A.handled = none) (hs : Eb.byTx w = true ∨ es.size ≤ 1) (hit : s.heap.get? I = some (Eb.setIt (rawInt (Eb.slotAt w t es.size : Nat)) es.size S es.size ep)) (T : Eb.TxSet prog w s.heap S (!Eb.byTx w) es ep t)
    (hQ : ∀ g, Heap.ExtBut I s.heap g → Q none { s with heap := g }) : wpAny (model prog w) A (pyNext (.ref I)) Q E s := by
  have hT : s.TypeIs (.ref I) "set_iterator" := ⟨_, hit, rfl⟩
  unfold pyNext
  refine wpAny_bind (wpAny_attempt (wpAny_callSpecial?_slot (name := Str.ofString "__next__") hT Eb.slot_si_next (wpAny_call_entry Eb.slot_si_next hT Eb.entry_si_next ?_ (Eb.args_si_next _))))
  unfold Builtin.«set_iterator.__next__»
  refine wpAny_bind (wpAny_of_eq (a := (Value.ref I, [])) rfl ?_)
  try dsimp only
  refine wpAny_bind (wpAny_fieldsOf hit rfl ?_)
  dsimp only [Eb.setIt, rawInt]
  refine wpAny_bind (wpAny_setEntries_of T.at' rfl T.fit ?_)
  rw [if_neg (by simp)]
  refine wpAny_bind (Eb.next_slot T hs (Nat.le_refl _) ?_)
  have hn : (Eb.plainOrder w S es ep)[es.size]? = none := Array.getElem?_eq_none (by
    have := (Eb.plainOrder_perm w S es ep).length_eq
    rw [Array.length_toList, Array.length_toList] at this
    omega)
  rw [hn]
  dsimp only [Option.map_none]
  refine wpAny_bind (wpAny_setField_rec hit (by simp) fun g1 hg1 s1 => ?_)
  refine wpAny_bind ?_
  simp only [newExc, newTuple]
  refine wpAny_bind (wpAny_newObj_type (wpAny_bind (m := firstArgMember _ _) (wpAny_of_eq (a := Value.none) (by first | rfl | (simp only [firstArgMember]; rfl)) (wpAny_newObj_type ?_ (by size_fits)))) (by size_fits))
  simp only [raiseNew]
  refine wpAny_bind (wpAny_handled ?_)
  rw [show A.in1.handled = none from hh]
  refine wpAny_bind (wpAny_pure (wpAny_throw (wpAny_bind ?_)))
  refine wpAny_isInstance (T := "StopIteration") (b := true) ⟨_, Heap.get?_push_size _ rfl, rfl⟩ isSubtype_stop (wpAny_pure (hQ _ ?_))
  exact fun b o hb e => Heap.get?_push_of_some _ (Heap.get?_push_of_some _ (s1.extBut b o hb e))
theorem Eb.si_iter {I : Addr} {f : Value} {i n : Nat} {Q : Value → Shared → Prop} (hit : s.heap.get? I = some (Eb.setIt f i S n ep)) (h : Q (.ref I) s) : wpAny (model prog w) A (pyIter (.ref I)) Q E s := by
  have hT : s.TypeIs (.ref I) "set_iterator" := ⟨_, hit, rfl⟩
  refine wpAny_pyIter_slot hT Eb.slot_si_iter (wpAny_call_entry Eb.slot_si_iter hT Eb.entry_si_iter ?_ (Eb.args_si_iter _))
  show wpAny _ _ (ret (.ref I)) _ _ s
  exact wpAny_pure ⟨_, rfl, "set_iterator", _, hT, Eb.slot_si_next.lookup, h⟩
theorem Eb.walks_plain (hh : A.handled = none) (I : Addr) (hIS : S ≠ I) (hs : Eb.byTx w = true ∨ es.size ≤ 1) :
    Walks prog w A I [I, S] [I] es.size (fun i v => ((Eb.plainOrder w S es ep).toList.map fun e => e.2)[i]? = some v) (fun i h => i ≤ es.size ∧ h.get? I = some (Eb.setIt (rawInt (Eb.slotAt w t i : Nat)) i S es.size ep) ∧ Eb.TxSet prog w h S (!Eb.byTx w) es ep t) where
  sub := fun b hb => by rw [List.mem_singleton.mp hb]; simp
  frame := fun _ _ _ st hk => ⟨st.1, hk I (by simp) _ st.2.1, st.2.2.keep (hk S (by simp))⟩
  item := fun i s Q E hi st hQ => by
    have hz : (Eb.plainOrder w S es ep).size = es.size := by
      have := (Eb.plainOrder_perm w S es ep).length_eq
      rwa [Array.length_toList, Array.length_toList] at this
    obtain ⟨e, he⟩ : ∃ e, (Eb.plainOrder w S es ep)[i]? = some e := ⟨_, Array.getElem?_eq_getElem (by omega)⟩
    refine Eb.si_plain hs st.2.1 st.2.2 he hi fun g hg sg => hQ _ g s.toks ?_ ⟨hi, hg, st.2.2.keep fun o eo => sg.extBut _ _ hIS eo⟩ fun b o hb eo => sg.extBut b o (fun z => hb (by simp [z])) eo
    rw [List.getElem?_map, Array.getElem?_toList, he]; rfl
  done := fun s Q E st hQ => Eb.si_plain_end hh hs st.2.1 st.2.2 fun g he => hQ g s.toks fun b o hb eo => he b o (fun z => hb (by simp [z])) eo
  self := fun _ _ _ _ st hQ => Eb.si_iter st.2.1 hQ
theorem Eb.walks_drawn (hh : A.handled = none) (I P : Addr) (hIS : S ≠ I) (hIP : P ≠ I) (ps : List Nat) (hps : ps.Perm (List.range es.size)) :
    Walks prog w A I [I, S, P] [I] es.size (fun i v => (ps.map fun p => ((es.toList.map fun e => e.2).getD p .none))[i]? = some v) (fun i h => i ≤ es.size ∧ h.get? I = some (Eb.setIt (.ref P) i S es.size ep) ∧ Eb.TxSet prog w h S led es ep t ∧ h.get? P = some { cls := .type "tuple", data := .seq (ps.map fun (i : Nat) => rawInt i).toArray }) where
  sub := fun b hb => by rw [List.mem_singleton.mp hb]; simp
  frame := fun _ _ _ st hk => ⟨st.1, hk I (by simp) _ st.2.1, st.2.2.1.keep (hk S (by simp)), hk P (by simp) _ st.2.2.2⟩
  item := fun i s Q E hi st hQ => by
    have hz : ps.length = es.size := by rw [hps.length_eq, List.length_range]
    obtain ⟨p, hp⟩ : ∃ p, ps[i]? = some p := ⟨_, List.getElem?_eq_getElem (by omega)⟩
    have hpl : p < es.size := List.mem_range.mp (hps.mem_iff.mp (List.mem_of_getElem? hp))
    obtain ⟨e, he⟩ : ∃ e, es[p]? = some e := ⟨_, Array.getElem?_eq_getElem hpl⟩
    refine Eb.si_drawn (p := p) st.2.1 st.2.2.1 st.2.2.2 (by simp [hp]) he fun g hg sg => hQ _ g s.toks ?_ ⟨hi, hg, st.2.2.1.keep fun o eo => sg.extBut _ _ hIS eo, sg.extBut _ _ hIP st.2.2.2⟩ fun b o hb eo => sg.extBut b o (fun z => hb (by simp [z])) eo
    rw [List.getElem?_map, hp, Option.map_some, List.getD_eq_getElem?_getD, List.getElem?_map, Array.getElem?_toList, he]; rfl
  done := fun s Q E st hQ => by
    have hz : ps.length = es.size := by rw [hps.length_eq, List.length_range]
    exact Eb.si_drawn_end hh st.2.1 st.2.2.1 st.2.2.2 (by simp [hz]) fun g he => hQ g s.toks fun b o hb eo => he b o (fun z => hb (by simp [z])) eo
  self := fun _ _ _ _ st hQ => Eb.si_iter st.2.1 hQ
end
section
variable {prog : Program} {w : World} {A : Around} {E : Value → Shared → Prop} {s : Shared} {S : Addr} {es : Array (Int × Value)} {ep : Nat} {t : SetTable}
theorem Eb.items_list {vs : List Value} {acc : Array Value} {n : Nat} (h : ItemsOf (fun i v => vs[i]? = some v) acc n) (hn : vs.length = n) : acc.toList = vs := by
  refine List.ext_getElem? fun i => ?_
  rw [Array.getElem?_toList]
  rcases Nat.lt_or_ge i n with g | g
  · have e : acc[i]? = some (acc[i]'(by rw [h.1]; exact g)) := Array.getElem?_eq_getElem _
    rw [e]
    exact (h.2 _ _ e).symm
  · rw [Array.getElem?_eq_none (by rw [h.1]; exact g), List.getElem?_eq_none (by rw [hn]; exact g)]
theorem Eb.one_fits' : 1 ≤ sizeLine := by rw [sizeLine_eq]; decide
theorem Eb.range_map_perm {α : Type} {ps : List Nat} (l : List α) (d : α) (h : ps.Perm (List.range l.length)) : (ps.map fun p => l.getD p d).Perm l := by
  refine (h.map _).trans ?_
  have : (List.range l.length).map (fun p => l.getD p d) = l := by
    refine List.ext_getElem? fun i => ?_
    rw [List.getElem?_map]
    rcases Nat.lt_or_ge i l.length with g | g
    · rw [List.getElem?_range g, Option.map_some, List.getD_eq_getElem?_getD, List.getElem?_eq_getElem g]; rfl
    · rw [List.getElem?_eq_none (by rw [List.length_range]; exact g), List.getElem?_eq_none g]; rfl
  rw [this]
theorem Eb.extend_set {R : Result → Shared → Prop} {L : Addr} {res : Value} {c₀ : Nat} (hh : A.handled = none) (hLS : L ≠ S) (T : Eb.TxSet prog w s.heap S (!Eb.byTx w) es ep t) (hL : s.heap.get? L = some { cls := .type "list", data := .seq #[] c₀ })
    (hR : ∀ g d tk acc' c', (∀ b o, b ≠ L → s.heap.get? b = some o → g.get? b = some o) → g.get? L = some { cls := .type "list", dict := none, data := .seq acc' c', slots := #[] } → acc'.toList.Perm (es.toList.map fun e => e.2) → R (.ok (.ret res)) { s with heap := g, drawn := d, toks := tk }) :
    wpAny (model prog w) A.in1 (Builtin.List.listExtendWith (.ref L) (.ref S) res)
      (fun fin s' => match fin with | .done f => R (.ok f) s' | .again c' => c'.quiet = true ∧ codeAny (model prog w) A c' R s') (fun e s' => R (.error e) s') s := by
  have hTy := T.typeIs
  have hz : es.size ≤ sizeLine := fits_of_scanBound T.bnd
  have hLlt := Heap.lt_size hL
  have hSlt := Heap.lt_size T.at'
  unfold Builtin.List.listExtendWith
  refine wpAny_bind (wpAny_typeOf hTy ?_)
  have b1 : Builtin.List.listSameRef (.ref L) (.ref S) = false := by simp [Builtin.List.listSameRef, hLS]
  have b2 : (Value.type "set" == Value.type "list") = false := by decide
  have b3 : (Value.type "set" == Value.type "tuple") = false := by decide
  simp only [b1, b2, b3, Bool.or_false, Bool.false_eq_true, if_false]
  refine wpAny_bind (wpAny_mono (Q := fun v s2 => ∃ (I : Addr) (fp : List Addr) (P : Nat → Value → Prop) (St : Nat → Heap → Prop) (h2 : Heap) (d : Drawn), v = .ref I ∧ s2 = { s with heap := h2, drawn := d } ∧ Walks prog w A.in1 I fp [I] es.size P St ∧ L ∉ fp ∧ St 0 h2 ∧ s.heap.objs.size ≤ I ∧
    (∀ acc, ItemsOf P acc es.size → acc.toList.Perm (es.toList.map fun e => e.2)) ∧ (∀ b o, s.heap.get? b = some o → h2.get? b = some o)) (E := fun e s' => R (.error e) s') (Eb.set_iter T (fun c => ?_) fun c d ps hps => ?_) ?_ fun _ _ z => z)
  · refine ⟨_, [s.heap.objs.size, S], _, _, _, s.drawn, rfl, rfl, Eb.walks_plain (t := t) (A := A.in1) hh _ (Nat.ne_of_lt hSlt) c, ?_, ⟨Nat.zero_le _, ?_, T.keep fun o e => Heap.get?_push_of_some _ e⟩, Nat.le_refl _, fun acc hacc => ?_, fun b o e => Heap.get?_push_of_some _ e⟩
    · intro hm
      rcases List.mem_cons.mp hm with z | z
      · exact absurd z (Nat.ne_of_lt hLlt)
      · exact hLS (List.mem_singleton.mp z)
    · have e0 : Eb.slotAt w t 0 = 0 := by unfold Eb.slotAt; split <;> rfl
      rw [e0]
      exact Heap.get?_push_size _ rfl
    · rw [Eb.items_list hacc (by rw [List.length_map, (Eb.plainOrder_perm w S es ep).length_eq, Array.length_toList])]
      exact (Eb.plainOrder_perm w S es ep).map _
  · have hsz : (s.heap.push { cls := .type "tuple", data := .seq (ps.map fun (i : Nat) => rawInt i).toArray }).objs.size = s.heap.objs.size + 1 := Heap.size_push ..
    refine ⟨_, [s.heap.objs.size + 1, S, s.heap.objs.size], _, _, _, d, rfl, rfl, Eb.walks_drawn (t := t) (led := !Eb.byTx w) (ep := ep) (A := A.in1) hh _ s.heap.objs.size (Nat.ne_of_lt (Nat.lt_succ_of_lt hSlt)) (Nat.ne_of_lt (Nat.lt_succ_self _)) ps hps, ?_, ⟨Nat.zero_le _, ?_, T.keep fun o e => Heap.get?_push_of_some _ (Heap.get?_push_of_some _ e), Heap.get?_push_of_some _ (Heap.get?_push_size _ rfl)⟩, Nat.le_succ _, fun acc hacc => ?_, fun b o e => Heap.get?_push_of_some _ (Heap.get?_push_of_some _ e)⟩
    · intro hm
      rcases List.mem_cons.mp hm with z | z
      · exact absurd z (Nat.ne_of_lt (Nat.lt_succ_of_lt hLlt))
      rcases List.mem_cons.mp z with z | z
      · exact hLS z
      · exact absurd (List.mem_singleton.mp z) (Nat.ne_of_lt hLlt)
    · show Heap.get? _ (s.heap.objs.size + 1) = _
      rw [← hsz]
      exact Heap.get?_push_size _ rfl
    · rw [Eb.items_list hacc (by rw [List.length_map, hps.length_eq, List.length_range])]
      exact Eb.range_map_perm _ _ (by rw [List.length_map, Array.length_toList]; exact hps)
  · rintro v s2 ⟨I, fp, P, St, h2, d, rfl, rfl, W, hLf, hst, hI, hacc, hkeep⟩
    refine wpAny_bind (wpAny_holding ?_)
    have hTy2 : Shared.TypeIs { s with heap := h2, drawn := d } (.ref S) "set" := ⟨_, hkeep _ _ T.at', rfl⟩
    have hL2 := hkeep _ _ hL
    unfold Builtin.List.listLengthHint
    refine wpAny_bind (wpAny_specialOf hTy2 F.slot_set_len.lookup ?_)
    generalize hid : ("set.__len__" : String) = id0
    wp_delta
    rw [show splitId id0 = some ("set", "__len__") from by subst hid; decide +kernel]
    subst hid
    refine wpAny_bind (wpAny_isInstance (b := true) hTy2 (by rw [isSubtype_type]; kernel_rfl) ?_)
    refine wpAny_ite_split (fun h0 => absurd h0 (by decide)) fun _ => ?_
    refine wpAny_ite_split (fun _ => ?_) fun h0 => absurd (by decide +kernel) h0
    refine wpAny_bind (wpAny_typeOf hTy2 (wpAny_pure ?_))
    refine wpAny_ite_split (fun _ => ?_) fun h0 => absurd (by decide +kernel) h0
    refine wpAny_bind (wpAny_rule (wpAny_bind ?_))
    have n1 : ∀ b o, s.heap.get? b = some o → b ≠ I := fun b o e => Nat.ne_of_lt (Nat.lt_of_lt_of_le (Heap.lt_size e) hI)
    show wpAny _ _ (updateSeq L (·.push .none) >>= fun _ => updateSeq L (·.pop)) _ _ { s with heap := h2, drawn := d }
    refine wpAny_bind (wpAny_updateSeq (hz := Nat.zero_le _) (_hz' := Nat.le_add_left 1 _) hL2 rfl ?_)
    have hS2 := Heap.get?_update_self (Obj.mapSeq (·.push Value.none)) hL2 rfl
    refine wpAny_updateSeq (hz := Eb.one_fits') (_hz' := Nat.zero_le _) hS2 rfl ?_
    have hS3 := Heap.get?_update_self (Obj.mapSeq (·.pop)) hS2 rfl
    have up : ∀ b o, b ≠ L → h2.get? b = some o → ((h2.update L (Obj.mapSeq (·.push Value.none))).update L (Obj.mapSeq (·.pop))).get? b = some o := fun b o hb e => (Heap.get?_update_other _ _ (Ne.symm hb)).trans ((Heap.get?_update_other _ _ (Ne.symm hb)).trans e)
    refine wpAny_pure ⟨plainId_quiet F.plain_extend_loop _, codeAny_extend_loopS W.toS hz L hLf res es.size 0 _ #[] _ rfl (Nat.zero_le _) ?_ hS3 (ItemsOf.nil _) fun s' acc' c' hm hS' ha => ?_⟩
    · exact W.frame 0 h2 _ hst fun b hb o e => up b o (fun z => hLf (z ▸ hb)) e
    · rw [Moved.eq_with hm]
      refine hR s'.heap d s'.toks acc' c' (fun b o hb e => hm.heap b o (fun hc => ?_) (up b o hb (hkeep b o e))) hS' (hacc acc' ha)
      rcases List.mem_cons.mp hc with z | z
      · exact hb z
      · exact n1 b o e (List.mem_singleton.mp z)
theorem Eb.collect_set (hh : A.handled = none) (T : Eb.TxSet prog w s.heap S (!Eb.byTx w) es ep t) {Q : List Value → Shared → Prop}
    (h : ∀ g d tk vs, s.heap.objs.size ≤ g.objs.size → (∀ b o, s.heap.get? b = some o → g.get? b = some o) → vs.Perm (es.toList.map fun e => e.2) → Q vs { s with heap := g, drawn := d, toks := tk }) :
    wpAny (model prog w) A (collect (.ref S)) Q E s := by
  unfold collect
  refine wpAny_bind (wpAny_runValue (codeAny_builtin F.entry_proto_collect ?_))
  rw [Around.under_plainId F.plain_proto_collect _]
  show wpAny _ A.in1 (newList [] >>= fun l => again (.builtin "list.__iadd__" ⟨[l, .ref S], []⟩)) _ _ s
  refine wpAny_bind (wpAny_newObj_type ?_)
  refine wpAny_pure ⟨plainId_quiet F.plain_list_iadd _, codeAny_builtin F.entry_list_iadd ?_⟩
  rw [Around.under_plainId F.plain_list_iadd _]
  have hS₁ : (s.heap.push { cls := .type "list", data := .seq ([] : List Value).toArray }).get? s.heap.objs.size = some { cls := .type "list", data := .seq ([] : List Value).toArray } := Heap.get?_push_size _ rfl
  show wpAny _ A.in1 (Builtin.List.listExtendWith (.ref s.heap.objs.size) (.ref S) (.ref s.heap.objs.size)) _ _ _
  refine wpAny_mono (Eb.extend_set (A := A) (s := { s with heap := s.heap.push { cls := .type "list", data := .seq ([] : List Value).toArray } }) (R := fun r s' => r = .ok (.ret (.ref s.heap.objs.size)) ∧ wpAny (model prog w) A (load s.heap.objs.size >>= fun o => match o.data with | .seq xs _ => pure xs.toList | _ => unsupported "internal:collect") Q E s')
    hh (Nat.ne_of_gt (Heap.lt_size T.at')) (T.keep fun o e => Heap.get?_push_of_some _ e) hS₁ fun g d tk acc' c' hk hg hp => ⟨rfl, wpAny_bind (wpAny_load hg (wpAny_pure (h g d tk _ (Nat.le_of_lt (Heap.lt_size hg)) (fun b o e => hk b o (Nat.ne_of_lt (Heap.lt_size e)) (Heap.get?_push_of_some _ e)) hp)))⟩) (fun fin s' z => ?_) (fun e s' z => ?_)
  · cases fin with
    | done f =>
      obtain ⟨e, z⟩ := z
      cases e
      exact z
    | again c' =>
      refine ⟨z.1, codeAny_mono z.2 fun r s' z => ?_⟩
      obtain ⟨rfl, z⟩ := z
      exact z
  · obtain ⟨e, _⟩ := z
    cases e
open PyProof.Rows in
theorem Eb.sorted_set (hh : A.handled = none) (T : Eb.TxSet prog w s.heap S (!Eb.byTx w) es ep t) {Q : Value → Shared → Prop}
    (h : ∀ g d tk (a : Addr) (out : Array Value) (ss : List Str) (c : Nat), s.heap.objs.size ≤ a → (∀ b o, s.heap.get? b = some o → g.get? b = some o) → g.get? a = some (seqObj "list" out c) → StrsAre out.toList ss → ss.Perm (es.toList.map fun e => Eb.strIn e.2) → sortedS ss = true → Q (.ref a) { s with heap := g, drawn := d, toks := tk }) :
    wpAny (model prog w) A (call (.builtin "sorted") [.ref S]) Q E s := by
  refine Calls.call_function_entry kind_sorted plain_sorted entry_sorted (args_sorted1 _) ?_
  unfold Builtin.«sorted»
  refine wpAny_bind (m := checkCount "sorted" 1 1 _) (wpAny_pure ?_)
  refine wpAny_bind (Eb.collect_set (A := A.in1) hh T fun g d tk vs hsz hk hp => ?_)
  have hz : vs.length ≤ sizeLine := by rw [hp.length_eq, List.length_map, Array.length_toList]; exact fits_of_scanBound T.bnd
  have hS : StrsAre vs (vs.map Eb.strIn) := by
    have hall : ∀ v ∈ vs, ∃ x u, v = .str x u := fun v hv => by
      obtain ⟨e, he, rfl⟩ := List.mem_map.mp (hp.mem_iff.mp hv)
      obtain ⟨⟨k, hk2, _⟩, _⟩ := T.els e he
      obtain ⟨_, u, e2⟩ := Eb.strIn_of hk2
      exact ⟨k, u, e2⟩
    have := strsAre_map vs hall
    rwa [List.map_congr_left (g := Eb.strIn) fun v hv => by obtain ⟨x, u, rfl⟩ := hall v hv; rfl] at this
  refine wpAny_bind (wpAny_newList ?_ hz)
  have hoL : (g.push (seqObj "list" vs.toArray 0)).get? g.objs.size = some (seqObj "list" vs.toArray 0) := Heap.get?_push_size _ rfl
  refine wpAny_bind (wpAny_holding (wpAny_call_entry slot_list_sort ⟨_, hoL, rfl⟩ entry_list_sort (Eb.list_sort_any strKind_oneLt hoL hS.keysOf (fun v₁ v₂ rest e => keyKind_strs (by rw [← e]; exact hS)) hz fun st' a1 a2 => ⟨_, rfl, ?_⟩) (args_list_sort _)))
  obtain ⟨ss', h1, h2, h3⟩ := sorted_out_str hS a1 (Eb.sortedToK_of a2)
  obtain ⟨e, he⟩ := sortedHeap_at (out := Array.map (·.2) (arrOf st')) hoL
  refine wpAny_pure ⟨_, rfl, h _ d tk g.objs.size _ ss' e hsz (fun b o eo => ?_) he h1 ?_ h3⟩
  · have hb := hk b o eo
    have hlt := Heap.lt_size hb
    rw [sortedHeap_old (Nat.ne_of_lt hlt) (by rw [Heap.size_push]; exact Nat.lt_succ_of_lt hlt)]
    exact Heap.get?_push_of_some _ hb
  · refine h2.trans ((hp.map _).trans ?_)
    rw [List.map_map]; exact .refl _
end
end PySem

set_option autoImplicit false
set_option maxRecDepth 100000
set_option maxHeartbeats 4000000
set_option linter.unusedVariables false
namespace L2
open PySem PySem.Spec PyProof.Rows
section
variable {X : Cx}
/-! sorted(set(a)), a list of texts -/
theorem Inv.drew {pins : List (Addr × Obj)} {σ : List (Option V)} {H : Hp} {s : Shared} (I : Inv X pins σ H s) (d : Drawn) : Inv X pins σ H { s with drawn := d } :=
  ⟨I.ok, I.os, I.bare, I.base, I.loc, I.cell, I.free, I.freeC, I.pin, I.hok, I.len⟩
def tSortSet (K : PySem.W.Frag) (ta : TA) : TE := fun σ H Q => ta σ H fun vs H1 => ∃ (a : Addr) (ys : List Str), vs = [.ref a] ∧ SqL K H1 a (ys.map V.str) ∧ ys.length ≤ 4000 ∧ ∀ (l : Addr) (zs : List Str), H1 l = none → zs.Nodup → (∀ k, k ∈ zs ↔ k ∈ ys) → sortedS zs = true → Q (.ref l) (upd H1 l (.lst (zs.map V.str)))
theorem pe_sorted_set {a : Expr} {ta : TA} {p1 p2 pos pos2 : Pos} (hc : X.calm = true) (hg1 : Gl X "sorted") (hg2 : Gl X "set") (hm1 : X.mg "sorted" = none) (hm2 : X.mg "set" = none) (ha : PA X [a] ta)
    (hs : starEach [a] X.env = [(false, eval a X.env)] := by rfl)
    (hs3 : starEach [Expr.Call (.Name "set" p2) [a] [] pos2] X.env = [(false, eval (Expr.Call (.Name "set" p2) [a] [] pos2) X.env)] := by rfl) :
    PE X (.Call (.Name "sorted" p1) [.Call (.Name "set" p2) [a] [] pos2] [] pos) (tSortSet X.K ta) := by
  intro pins s σ H Q I h
  refine wpAny_Call_Name_kw (ld_blt I hg1 hm1 bSorted ?_)
  refine PyProof.Rows.callWith_builtin1 ?_ hs3 rfl
  rw [hs3]
  show wpAny _ _ (spliced ((false, eval (Expr.Call (.Name "set" p2) [a] [] pos2) X.env) :: [])) _ _ s
  refine Calls.spliced_cons (Call_ (ld_blt I hg2 hm2 bSet (PyProof.Rows.callWith_type1 (thn (ha pos2 pins s σ H _ I h) fun us s1 ⟨vs, H1, I1, r1, q1⟩ => ?_) hs rfl)))
  obtain ⟨l, ys, e, hx, hz, q⟩ := q1
  subst e
  obtain ⟨u, rfl, e1⟩ := r1.one
  cases e1
  obtain ⟨xv, rx, px, zx⟩ := I1.list hx
  have lx := rx.length
  rw [List.length_map] at lx
  refine Eb.call_set_txs (ys := ys) (I1.ok.hd hc) px.isList (fun i v hv => ?_) (by unfold scanBound; simp; omega) fun g tk hH hk => Calls.spliced_nil ?_
  · have hv' : xv[i]? = some v := by simpa using hv
    have hi := (List.getElem?_eq_some_iff.mp hv').1
    obtain ⟨y, hy⟩ : ∃ y, ys[i]? = some y := ⟨_, List.getElem?_eq_getElem (by omega)⟩
    obtain ⟨u, hu, ru⟩ := rx.get (i := i) (x := .str y) (by rw [List.getElem?_map, hy]; rfl)
    rw [hv'] at hu
    cases hu
    obtain ⟨t, rfl⟩ := ru
    exact ⟨y, t, hy, rfl⟩
  · obtain ⟨es, ep, t, T, h1, h2⟩ := hH
    have lz : xv.toArray.size = ys.length := by rw [lx]; exact List.size_toArray
    rw [lz] at h1 h2
    rw [List.take_length] at h2
    have kp : ∀ b u, s1.heap.get? b = some u → g.get? b = some u := fun b o e => hk b o (Heap.lt_size e) e
    refine Eb.sorted_set (s := { s1 with heap := g, toks := tk }) (I1.ok.hd hc) T fun g2 d tk2 l2 out ss c hl2 hk2 hat hss hperm hsort => ?_
    have hnew : s1.heap.objs.size ≤ l2 := Nat.le_trans (Nat.le_of_lt (Heap.lt_size T.at')) hl2
    have hf : H1 l2 = none := I1.hok.fresh hnew
    have hlen : ss.length ≤ ys.length := by rw [hperm.length_eq, List.length_map, Array.length_toList]; exact h1
    refine ⟨.ref l2, upd H1 l2 (.lst (ss.map V.str)), ?_, rfl, q l2 ss hf ?_ (fun k => ?_) hsort⟩
    · refine (I1.laid (o := .lst (ss.map V.str)) (t' := tk2) (h' := g2) (fun b u e => hk2 b u (kp b u e)) hnew ⟨?_, out.toList, c, vals_strs hss, by simpa using hat⟩).drew d
      rw [List.length_map]
      exact small63 (by omega)
    · rw [hperm.nodup_iff]; exact T.nd
    · rw [hperm.mem_iff, List.mem_map]
      exact h2 k
end
end L2

set_option autoImplicit false
set_option maxRecDepth 100000
set_option maxHeartbeats 4000000
set_option linter.unusedVariables false
namespace L2
open PySem PySem.Spec PyProof.Rows
/-! ## exceptions that leave a def -/
/-- an exception that was made behind g and lies in h, untracked, with its traceback -/
def Exc (g h : Heap) (H : Hp) (e : Addr) (cls : Value) : Prop :=
  g.get? e = none ∧ H e = none ∧ ∃ (oe : Obj) (vs : Array Value) (T : Addr) (oT : Obj) (ts : Array Value) (a0 : Value), h.get? e = some oe ∧ (oe.cls = cls ∧ vs[0]? = some a0) ∧ oe.data = .fields vs ∧ vs[1]? = some (.ref T) ∧
    g.get? T = none ∧ H T = none ∧ T ≠ e ∧ h.get? T = some oT ∧ oT.data = .fields ts ∧ ts[3]? = some .none
/-- how an exception lies behind a call -/
def CX1 (P : Program) (w : World) : CXT := fun outer H s E ev s' => ∃ (H' : Hp) (e : Addr) (cls : Value), ev = .ref e ∧ s'.os = s.os ∧ AllBare s'.gens ∧ Un (frs outer) [] H H' s.heap s'.heap ∧ HOk P w H' s'.heap ∧
  Exc s.heap s'.heap H' e cls ∧ E cls none H'
section
variable {P : Program} {w : World} {H H' : Hp} {h h' g : Heap} {l : List Env} {zs : List Addr} {base : Heap}
theorem mem_frs {env : Env} {a : Addr} (he : env ∈ l) (hf : env.frame = some a) : a ∈ frs l := List.mem_filterMap.mpr ⟨env, he, hf⟩
/-- what is tracked lies outside frs l and zs: then all that is tracked is as it was -/
theorem hok_stays (ok : HOk P w H h) (hf : ∀ b ∈ frs l, H b = none) (hz : ∀ b ∈ zs, H b = none) (st : (PySem.W.hideAll h (frs l ++ zs)).StaysIn h') : HOk P w H h' := fun a o e => by
  refine (ok a o e).stay (fun b u hb q => st b u (PySem.W.hideAll_get _ q fun hm => ?_)) (fun _ q => q) fun _ _ q => q
  have nn : H b = none := (List.mem_append.mp hm).elim (hf b) (hz b)
  rcases hb with rfl | hb
  · rw [nn] at e; cases e
  · rw [nn] at hb; cases hb
/-- a step that touches the frames' slots and objects made behind g alone -/
theorem un_stays (u : Un (frs l) [] H H' g h) (fl : h.FunFrames base l) (hz : ∀ b ∈ zs, g.get? b = none) (st : (PySem.W.hideAll h (frs l ++ zs)).StaysIn h') (sl : h.UpToSlots h') : Un (frs l) [] H H' g h' := by
  have nz : ∀ b o, g.get? b = some o → b ∉ zs := fun b o q hm => by rw [hz b hm] at q; cases q
  have go : ∀ b o, g.get? b = some o → b ∉ frs l → ∀ o', h.get? b = some o' → h'.get? b = some o' := fun b o q hn o' q' => st b o' (PySem.W.hideAll_get _ q' fun hm => (List.mem_append.mp hm).elim hn (nz b o q))
  have fr : ∀ b, b ∈ frs l → ∀ o', h.get? b = some o' → ∃ sl, h'.get? b = some { o' with slots := sl } := fun b hb o' q' => by
    obtain ⟨_, o'', ho, hnf⟩ := fl.mem hb
    rw [q'] at ho
    cases ho
    exact sl b o' q' hnf
  refine ⟨fun b o q n hb hx => go b o q hb o (u.keep b o q n hb hx), fun b o q n hb hx => ?_, u.free, fun b o q hx => ?_, u.tups, u.frzs, u.tbls⟩
  · obtain ⟨s1, e1⟩ := u.slot b o q n hb hx
    obtain ⟨s2, e2⟩ := fr b hb _ e1
    exact ⟨s2, e2⟩
  · obtain ⟨o', e1⟩ := u.there b o q hx
    by_cases hb : b ∈ frs l
    · obtain ⟨s2, e2⟩ := fr b hb _ e1
      exact ⟨_, e2⟩
    · exact ⟨o', go b o q hb o' e1⟩
theorem funs_hide (fl : h.FunFrames base l) : h.FunFrames (PySem.W.hideAll h (frs l ++ zs)) l :=
  PySem.W.funFrames_hide fl fun env he a hf => List.mem_append_left _ (mem_frs he hf)
theorem hide_in {as : List Addr} : (PySem.W.hideAll h as).StaysIn h := fun b o q => PySem.W.of_hideAll _ q
end
section
variable {P : Program} {w : World} {H : Hp} {h : Heap} {a : Addr} {o : HO}
theorem ObjOk.there (x : ObjOk P w H h a o) : ∃ ob, h.get? a = some ob := by
  cases o with
  | lst xs => obtain ⟨_, _, _, _, e⟩ := x; exact ⟨_, e⟩
  | tup xs => obtain ⟨_, _, _, o, e, _⟩ := x; exact ⟨_, e⟩
  | dK kvs => obtain ⟨_, _, _, _, o, _, _, e, _⟩ := x; exact ⟨_, e⟩
  | dT kvs => obtain ⟨_, _, _, _, o, _, _, e, _⟩ := x; exact ⟨_, e⟩
  | set S n => obtain ⟨o, _, _, _, e, _⟩ := x; exact ⟨_, e⟩
  | ins C dx fs => obtain ⟨_, _, _, e, _⟩ := x; exact ⟨_, e⟩
  | own y => obtain ⟨_, e⟩ := x; exact ⟨_, e⟩
  | xd fs => obtain ⟨_, ⟨_, _, _, e, _⟩, _⟩ := x; exact ⟨_, e⟩
  | rng lo hi => obtain ⟨_, _, _, e⟩ := x; exact ⟨_, e⟩
  | frz ob u => obtain ⟨e, _⟩ := x; exact ⟨_, e⟩
  | tbl ps => exact ⟨_, x⟩
  | met f y => exact ⟨_, x⟩
  | ext φ => obtain ⟨_, e, _⟩ := x; exact e
theorem HOk.get (ok : HOk P w H h) {b : Addr} (q : h.get? b = none) : H b = none := by
  cases e : H b with
  | none => rfl
  | some o =>
    obtain ⟨ob, e2⟩ := (ok b o e).there
    rw [q] at e2; cases e2
end
/-! ## an exception is made, and leaves the def -/
section
variable {X : Cx} {pins : List (Addr × Obj)} {σ : St} {H : Hp} {s : Shared}
theorem leave_made {M : Model} {h' : Heap} {e : Addr} {cls : Value} {args : List Value} {E : XK} {E' : Value → Shared → Prop} (I : Inv X pins σ H s) (hst : X.stack = X.env :: X.outer) (hfr : X.env.frame = some X.env.locals) (hex : X.ex = [])
    (hx : Heap.MadeExcOf s.heap h' e cls args) (hE : E cls none H) :
    wpAny M X.A (leaving X.env (.ref e)) (fun _ s'' => CX1 X.prog X.w X.outer X.H₀ X.s₀ E (.ref e) s'') E' { s with heap := h' } := by
  have fl := I.stack
  rw [hst] at fl
  have hfrm := I.ok.frames
  rw [hst] at hfrm
  refine wpAny_leaves_madeW (s := { s with heap := h' }) (base := PySem.W.hideAll s.heap (frs (X.env :: X.outer) ++ [])) (h := s.heap) hfrm hfr hide_in (funs_hide fl) hx fun h2 t fly tup tn slots => ?_
  have sl2 : s.heap.UpToSlots h2 := (Heap.UpToSlots.of_keeps hx.keeps).trans slots
  obtain ⟨st, _, fl2, oe, vs, T, oT, ts, he, hcls, hd, h1, hT0, hTe, hT, hdT, h3⟩ := fly
  have frf : ∀ b ∈ frs (X.env :: X.outer), H b = none := fun b hb => I.stkFree b (by rw [hst]; exact hb)
  have ok2 : HOk X.prog X.w H h2 := hok_stays (zs := []) I.hok frf (fun _ z => nomatch z) st
  have Tn : s.heap.get? T = none := by
    cases q : s.heap.get? T with
    | none => rfl
    | some o =>
      exfalso
      by_cases hm : T ∈ frs (X.env :: X.outer)
      · obtain ⟨_, o', ho, hnf⟩ := fl.mem hm
        rw [q] at ho; cases ho
        obtain ⟨sl, q2⟩ := sl2 T o q hnf
        rw [hT] at q2; cases q2
        exact hnf ts hdT
      · have := PySem.W.hideAll_get (frs (X.env :: X.outer) ++ []) q (by rw [List.append_nil]; exact hm)
        rw [hT0] at this; cases this
  have base := I.base
  rw [hex] at base
  have old : ∀ b, s.heap.get? b = none → X.s₀.heap.get? b = none := fun b q => by
    cases q' : X.s₀.heap.get? b with
    | none => rfl
    | some o => obtain ⟨o', e'⟩ := base.there b o q' (by simp); rw [q] at e'; cases e'
  refine ⟨H, e, cls, rfl, I.os, I.bare, ?_, ok2, ⟨old e hx.new, I.hok.get hx.new, oe, vs, T, oT, ts, _, he, hcls, hd, h1, old T Tn, I.hok.get Tn, hTe, hT, hdT, h3⟩, hE⟩
  have u : Un (frs (X.env :: X.outer)) [] H H s.heap h2 := un_stays (zs := []) Un.refl fl (fun _ z => nomatch z) st sl2
  have nL : ∀ b o, X.s₀.heap.get? b = some o → b ≠ X.env.locals := fun b o q z => absurd (Nat.lt_of_lt_of_le (Heap.lt_size q) I.ok.above) (by rw [z]; exact Nat.lt_irrefl _)
  have inf : ∀ b o, X.s₀.heap.get? b = some o → b ∈ frs (X.env :: X.outer) → b ∈ frs X.outer := fun b o q hm => by
    unfold frs at hm
    rw [List.filterMap_cons, hfr] at hm
    exact (List.mem_cons.mp hm).resolve_left (nL b o q)
  have inc : ∀ b, b ∈ frs X.outer → b ∈ frs (X.env :: X.outer) := fun b hm => by
    unfold frs
    rw [List.filterMap_cons, hfr]
    exact List.mem_cons_of_mem _ hm
  refine ⟨fun b o q n hb hz => ?_, fun b o q n hb hz => ?_, base.free, fun b o q hz => ?_, base.tups, base.frzs, base.tbls⟩
  · exact u.keep b o (base.keep b o q n hb hz) (base.free b o q n hz) (fun hm => hb (inf b o q hm)) hz
  · obtain ⟨s1, e1⟩ := base.slot b o q n hb hz
    obtain ⟨s2, e2⟩ := u.slot b _ e1 (base.free b o q n hz) (inc b hb) hz
    exact ⟨s2, e2⟩
  · obtain ⟨o', e1⟩ := base.there b o q hz
    exact u.there b o' e1 hz
end
end L2

set_option autoImplicit false
set_option maxRecDepth 100000
set_option maxHeartbeats 4000000
set_option linter.unusedVariables false
namespace L2
open PySem PySem.Spec PyProof.Rows
abbrev vBm : List Value := [.type "ValueError", .type "Exception", .type "BaseException", .type "object"]
/-- the class at C: an own one below ValueError, without an __init__ -/
abbrev OwnV (K : PySem.W.Frag) (C : Addr) : Prop := PySem.W.excIn K C vBm "ValueError.__new__" = true
theorem own_obj {K : PySem.W.Frag} {h : Heap} {C : Addr} (X : K.In h) (q : OwnV K C) :
    ∃ bm N nm qn bs hdct sn sub ab col dd k0 k1 k2 k3 k5 mN, h.get? C = some (excClassObj nm qn C N bs bm hdct sn sub ab col dd k0 k1 k2 k3 k5 "ValueError.__new__") ∧ h.Ns N mN ∧ mN "__init__" = none ∧ OwnTail h vBm bm := by
  unfold OwnV PySem.W.excIn at q
  split at q
  · rename_i dd cd sl ho
    split at q
    · rename_i C' bm k0 k1 k2 k3 n k5 hm hs
      simp only [Bool.and_eq_true, beq_iff_eq, Bool.not_eq_true'] at q
      obtain ⟨⟨⟨⟨⟨e1, e2⟩, hdel⟩, ht⟩, hok⟩, hni⟩ := q
      subst e1 e2
      obtain ⟨nm, bs, mro, ns, qn, hd, sn, sub, ab, col, del⟩ := cd
      dsimp only at hm hdel hok hni
      subst hm hdel
      have hsl : sl = #[k0, k1, k2, k3, some (.builtin "ValueError.__new__"), k5] := by
        obtain ⟨l⟩ := sl
        simp only at hs
        rw [hs]
      subst hsl
      exact ⟨bm, ns, nm, qn, bs, hd, sn, sub, ab, col, dd, k0, k1, k2, k3, k5, _, X _ _ ho, .of_isNs (PySem.W.isNs_of_in X hok), PySem.W.nsMap_none_of_in X hok hni, PySem.W.tail_of_in X ht⟩
    · cases q
  · cases q
/-- raise C(e, ..), C an own class below ValueError -/
def tRaise (C : Addr) (E : XK) (t : TA) : TS := fun D σ H => t σ H fun vs H1 => vs.length ≤ 1000 ∧ E (.ref C) none H1
section
variable {X : Cx} {x : Str} {np cpos pos : Pos} {e₀ : Expr} {rest : List Expr} {t : TA} {C : Addr} {E : XK}
theorem ps_raiseX (hst : X.stack = X.env :: X.outer) (hfr : X.env.frame = some X.env.locals) (hex : X.ex = []) (hcm : X.calm = true)
    (hxe : X.xe = fun e s' => wpAny (model X.prog X.w) X.A (leaving X.env e) (fun _ s'' => CX1 X.prog X.w X.outer X.H₀ X.s₀ E e s'') (fun e' s'' => CX1 X.prog X.w X.outer X.H₀ X.s₀ E e' s'') s')
    (o : OwnV X.K C) (hg : Gl X x) (hm : X.mg x = some (.ref C)) (ha : PA X (e₀ :: rest) t)
    (hdb : (x == ("__debug__" : Str)) = false := by decide) (he : starEach (e₀ :: rest) X.env = (false, eval e₀ X.env) :: starEach rest X.env := by rfl) (hpl : (backTo cpos (starEach rest X.env)).any (·.1) = false := by rfl) :
    PS X (.Raise (some (.Call (.Name x np) (e₀ :: rest) [] cpos)) none pos) (tRaise C E t) := by
  intro pins s σ H D I h
  obtain ⟨bm, N, nm, qn, bs, hdct, sn, sub, ab, col, dd, k0, k1, k2, k3, k5, mN, hC, hN, hni, T⟩ := own_obj I.ok.mod.kin o
  refine wpAny_Raise_call_subT (C := C) (nm := nm) (q := qn) (N := N) (bs := bs) (bm := bm) (hdct := hdct) (sn := sn) (sub := sub) (ab := ab) (col := col) (dd := dd) (k0 := k0) (k1 := k1) (k2 := k2) (k3 := k3) (k5 := k5)
    PySem.F.excBase_ValueError (mN := mN) (T.hasType PySem.F.excBase_ValueError.hasBase) (I.ok.hd hcm) (by rw [he]; show (false || (backTo cpos (starEach rest X.env)).any (·.1)) = false; rw [hpl]; rfl) hni (ld_glob I hg hm ⟨rfl, ?_⟩ hdb)
  have h' := ha cpos pins s σ H _ I h
  rw [he] at h' ⊢
  refine Calls.evalArgs_plain (thn h' fun us s2 ⟨vs, H2, I2, r, hz, hE⟩ => ?_)
  refine ⟨rfl, (by show us.length ≤ sizeLine; rw [← r.length]; exact Nat.le_of_lt (small1000 hz)), I2.bk _ _ hC, hN.keeps I2.bk, T.keeps I2.bk, fun h3 e hx => ?_⟩
  rw [hxe]
  exact leave_made I2 hst hfr hex hx hE
end
section
variable {P : Program} {w : World} {K : PySem.W.Frag} {mg : Str → Option Value} {base : Heap} {N : List Str} {qual : Str} {scope : Scope} {f : Addr} {cd : Value} {A : Around} {outer : List Env} {s : Shared} {H : Hp} {E : XK}
variable {x : Str} {np cpos pos : Pos} {e₀ : Expr} {rest : List Expr} {t : TA} {C : Addr}
theorem ps_raise (o : OwnV K C) (hg : Gl (cxOf (CX1 P w) P w K mg base N qual scope f cd A outer s H E) x) (hm : mg x = some (.ref C)) (ha : PA (cxOf (CX1 P w) P w K mg base N qual scope f cd A outer s H E) (e₀ :: rest) t)
    (hdb : (x == ("__debug__" : Str)) = false := by decide) (he : starEach (e₀ :: rest) (envOfC qual scope s.heap.objs.size f cd) = (false, eval e₀ (envOfC qual scope s.heap.objs.size f cd)) :: starEach rest (envOfC qual scope s.heap.objs.size f cd) := by rfl)
    (hpl : (backTo cpos (starEach rest (envOfC qual scope s.heap.objs.size f cd))).any (·.1) = false := by rfl) :
    PS (cxOf (CX1 P w) P w K mg base N qual scope f cd A outer s H E) (.Raise (some (.Call (.Name x np) (e₀ :: rest) [] cpos)) none pos) (tRaise C E t) :=
  ps_raiseX rfl rfl rfl rfl rfl o hg hm ha hdb he hpl
/-- THE RULE for a def that may raise -/
theorem Fun.okX {x qual : Str} {st : Stmt} {f : Addr} {fd : FuncData} {N ps : List Str} {k : Nat} {sp : Sp} (F : Fun K x qual st f fd) (S : FnScope N ps (defScope st)) (len : ∀ vs H Q E, sp vs H Q E → vs.length = ps.length)
    (hbody : ∀ (cdv : Value) (A : Around) (outer : List Env) (s : Shared) (H : Hp) (vs : List V) (Q : VK) (E : XK), Room k (A.deeper (envOfC qual (defScope st) s.heap.objs.size f cdv)) → sp vs H Q E →
      ∃ t, PSs (cxOf (CX1 P w) P w K mg base N qual (defScope st) f cdv A outer s H E) (defBody st) t ∧ t { nx := fun _ H' => Q .non H', rt := Q } (start N vs) H) : FnOk P w K mg base (CX1 P w) (k + 1) f fd ps sp := by
  obtain ⟨oc, od, kV, doc, pm, an, cdv, ct, osl, rfl, lk, hcd⟩ := F.ex
  exact fn_of lk hcd S len fun A outer s H vs Q E hr hsp => hbody cdv A outer s H vs Q E hr hsp
end
/-- a statement that raises nothing, within a def that may -/
theorem PS.nox {X : Cx} {st : Stmt} {t : TS} (h : PS X.nox st t) : PS X st t := fun pins s σ H D I hw =>
  wpAny_mono (h pins s σ H D (I.wish _) hw) (fun _ _ q => q.unwish) fun _ _ z => False.elim z
end L2

set_option autoImplicit false
set_option maxRecDepth 100000
set_option maxHeartbeats 4000000
set_option linter.unusedVariables false
namespace L2
open PySem PySem.Spec PyProof.Rows
/-! ## try: .. except C as n: .. -/
/-- within try: the pins of the entry stay -/
abbrev Cx.tried (X : Cx) (ps : List (Addr × Obj)) (xe : Value → Shared → Prop) : Cx := { X with pn := X.pn ++ ps, xe := xe }
/-- within the except's suite: the exception is pinned -/
abbrev Cx.caught (X : Cx) (ps : List (Addr × Obj)) (e : Addr) (oe : Obj) : Cx := { X with A := X.A.mark (some (.ref e)), calm := false, pn := X.pn ++ (ps ++ [(e, oe)]), xe := fun _ _ => False }
section
variable {X : Cx} {pins ps : List (Addr × Obj)} {σ : St} {H H' : Hp} {s s' : Shared} {xe xe' : Value → Shared → Prop}
theorem Cx.Ok.tried (ok : X.Ok) (ps : List (Addr × Obj)) (xe : Value → Shared → Prop) : (X.tried ps xe).Ok :=
  ⟨ok.mod, ok.kind, ok.glob, ok.blt, ok.above, ok.inj, ok.has, ok.cab, ok.hd, ok.frames, ok.stk, ok.exf, ok.bs, ok.bsz, ok.noex, ok.exfs, ok.funs, ok.frf⟩
theorem Cx.Ok.untried (ok : (X.tried ps xe).Ok) : X.Ok :=
  ⟨ok.mod, ok.kind, ok.glob, ok.blt, ok.above, ok.inj, ok.has, ok.cab, ok.hd, ok.frames, ok.stk, ok.exf, ok.bs, ok.bsz, ok.noex, ok.exfs, ok.funs, ok.frf⟩
theorem Cx.Ok.caught (ok : X.Ok) (ps : List (Addr × Obj)) (e : Addr) (oe : Obj) : (X.caught ps e oe).Ok :=
  ⟨ok.mod, ok.kind, ok.glob, ok.blt, ok.above, ok.inj, ok.has, ok.cab, (fun z => Bool.noConfusion z), ok.frames, ok.stk, ok.exf, ok.bs, ok.bsz, ok.noex, ok.exfs, ok.funs, ok.frf⟩
theorem Inv.tried (I : Inv X ps σ H s) (xe : Value → Shared → Prop) : Inv (X.tried ps xe) [] σ H s :=
  ⟨I.ok.tried ps xe, I.os, I.bare, I.base, I.loc, I.cell, I.free, I.freeC, fun p hp => I.pin p (by simpa using hp), I.hok, I.len⟩
theorem Inv.retried (I : Inv (X.tried ps xe) pins σ H s) (xe' : Value → Shared → Prop) : Inv (X.tried ps xe') pins σ H s :=
  ⟨I.ok.untried.tried ps xe', I.os, I.bare, I.base, I.loc, I.cell, I.free, I.freeC, I.pin, I.hok, I.len⟩
theorem Inv.untried (I : Inv (X.tried ps xe) pins σ H s) : Inv X ps σ H s :=
  ⟨I.ok.untried, I.os, I.bare, I.base, I.loc, I.cell, I.free, I.freeC, fun p hp => I.pin p (List.mem_append_left _ hp), I.hok, I.len⟩
theorem Inv.caught (I : Inv X ps σ H s) {e : Addr} {oe : Obj} (h1 : s.heap.get? e = some oe) (h2 : H e = none) (h3 : e ≠ X.env.locals) (h4 : e ∉ X.fs) (h5 : ∀ v, oe.data ≠ .cell v) : Inv (X.caught ps e oe) [] σ H s :=
  ⟨I.ok.caught ps e oe, I.os, I.bare, I.base, I.loc, I.cell, I.free, I.freeC, fun p hp => by
    have hp' : p ∈ X.pn ++ ps ∨ p = (e, oe) := by simpa [or_assoc] using hp
    rcases hp' with z | rfl
    · exact I.pin p z
    · exact ⟨h1, h2, h3, h4, h5⟩, I.hok, I.len⟩
theorem Inv.uncaught {e : Addr} {oe : Obj} (ok : X.Ok) (I : Inv (X.caught ps e oe) pins σ H s) : Inv X ps σ H s :=
  ⟨ok, I.os, I.bare, I.base, I.loc, I.cell, I.free, I.freeC, fun p hp => I.pin p (List.mem_append_left _ (by
    rcases List.mem_append.mp hp with z | z
    · exact List.mem_append_left _ z
    · exact List.mem_append_right _ (List.mem_append_left _ z))), I.hok, I.len⟩
/-- the name goes behind the suite -/
theorem goes_ok {M : Model} {A : Around} {E : Value → Shared → Prop} {i : Nat} {x : Str} {pos : Pos} {Q : Unit → Shared → Prop} (I : Inv X pins σ H s) (hN : X.N.Nodup) (hi : X.N[i]? = some x) (hk : X.env.scope.names.lookup x = some .local)
    (h : ∀ s', Inv X pins (σ.set i none) H s' → Q () s') : wpAny M A (do bindName X.env x .none; unbindBehindTheSuite X.env x pos) Q E s := by
  obtain ⟨m, hn, hl⟩ := id I.loc
  have hcls : (X.env.scope.kind == .class || (X.env.scope.kind == .module && X.env.locals != X.env.globals)) = false := by rw [I.ok.kind]; rfl
  have hiσ : i < σ.length := by rw [I.len]; exact (List.getElem?_eq_some_iff.mp hi).1
  have cne := I.cne
  refine wpAny_nameGoes_keeps hk hn hcls fun h' v hn' hs => ?_
  obtain ⟨oL, _, _, hoL, _⟩ := id hn
  have hok : HOk X.prog X.w H h' := fun b ob e => by
    refine (I.hok b ob e).stay (fun c w' hc q => (hs.2 c ?_).trans q) (fun _ q => q) fun _ _ q => q
    rintro rfl
    rcases hc with rfl | hc
    · rw [I.free] at e; cases e
    · rw [I.free] at hc; cases hc
  refine h _ ⟨I.ok, I.os, I.bare, ⟨fun b o e n hb hx => ?_, fun b o e n hb hx => ?_, I.base.free, fun b o e hx => ?_, I.base.tups, I.base.frzs, I.base.tbls⟩, ⟨_, hn', fun j y v' e1 e2 e3 => ?_⟩, fun y c e => ?_, I.free, I.freeC, fun p hp => ?_, hok, by simpa using I.len⟩
  · exact (hs.2 b (Nat.ne_of_lt (Nat.lt_of_lt_of_le (Heap.lt_size e) I.ok.above))).trans (I.base.keep b o e n hb hx)
  · obtain ⟨sl, e1⟩ := I.base.slot b o e n hb hx
    exact ⟨sl, (hs.2 b (Nat.ne_of_lt (Nat.lt_of_lt_of_le (Heap.lt_size e) I.ok.above))).trans e1⟩
  · obtain ⟨o', e1⟩ := I.base.there b o e hx
    exact ⟨o', (hs.2 b (Nat.ne_of_lt (Nat.lt_of_lt_of_le (Heap.lt_size e) I.ok.above))).trans e1⟩
  · have hj : j ≠ i := by
      rintro rfl
      rw [List.getElem?_set_self hiσ] at e2
      cases e2
    rw [List.getElem?_set_ne (Ne.symm hj)] at e2
    obtain ⟨u', r', q⟩ := hl j y v' e1 e2 e3
    refine ⟨u', r', ?_⟩
    rcases q with ⟨k, e⟩ | ⟨k, c, e, z⟩
    · refine .inl ⟨k, ?_⟩
      have : y ≠ x := fun e => hj (nodup_ix hN e1 (e ▸ hi))
      simp [this, e]
    · exact .inr ⟨k, c, e, z.sameBut hs (cne y c e)⟩
  · obtain ⟨w', z⟩ := I.cell y c e
    exact ⟨w', z.sameBut hs (cne y c e)⟩
  · obtain ⟨e, n, ne, nf, d⟩ := I.pin p hp
    exact ⟨(hs.2 p.1 ne).trans e, n, ne, nf, d⟩
end
/-! ### the call within try -/
def tCallX (sp : Sp) (E : St → XK) (t : TA) : TE := fun σ H Q => t σ H fun vs H1 => sp vs H1 Q (E σ)
def PassesX (CX : CXT) (X : Cx) (E : St → XK) : Prop := ∀ (pins : List (Addr × Obj)) (σ : St) (H : Hp) (s : Shared) (e : Value) (s' : Shared), Inv X pins σ H s → CX X.stack H s (E σ) e s' → X.xe e s'
section
variable {X : Cx} {CX : CXT} {k : Nat} {ps : List Str} {sp : Sp} {E : St → XK} {x : Str} {p pos : Pos} {e : Expr} {es : List Expr} {t : TA}
theorem pe_funX (hx : PassesX CX X E) (G : Has X.prog X.w X.K X.mg X.base CX k x ps sp) (hr : Room k X.A) (hg : Gl X x) (ha : PA X (e :: es) t) (hdb : (x == ("__debug__" : Str)) = false := by decide)
    (he : starEach (e :: es) X.env = (false, eval e X.env) :: starEach es X.env := by rfl) (hpl : (backTo pos (starEach es X.env)).any (·.1) = false := by rfl) :
    PE X (.Call (.Name x p) (e :: es) [] pos) (tCallX sp E t) := by
  obtain ⟨f, fd, F, hb, hk, hm⟩ := G
  intro pins s σ H Q I h
  refine wpAny_Call_Name_kw (ld_glob I hg hm ?_ hdb)
  refine PySem.W.callWith_K (h₀ := X.base) I.ok.mod.kin hk (thn (ha pos pins s σ H _ I h) fun us s1 ⟨vs, H1, I1, r, q⟩ => ⟨I1.kIn, ?_⟩) he hpl
  have hl : us.length = ps.length := by rw [← r.length]; exact F.len _ _ _ _ q
  have hbb := hb s1 us I1.kIn (by rw [List.append_nil]; exact hl)
  rw [List.append_nil] at hbb
  refine wpAny_call (codeAny_mono (F.run X.A X.stack s1 H1 ⟨us, []⟩ us vs Q (E σ) hr I1.env0 hbb r q) fun r s' hq => ?_)
  cases r with
  | error ev => exact hx pins σ H1 s1 ev s' I1 hq
  | ok fl =>
    cases fl with
    | ret u => exact I1.after hq
    | next => exact False.elim hq
    | brk => exact False.elim hq
    | cont => exact False.elim hq
end
end L2

set_option autoImplicit false
set_option maxRecDepth 100000
set_option maxHeartbeats 4000000
set_option linter.unusedVariables false
namespace L2
open PySem PySem.Spec PyProof.Rows
/-- behind the suite the name is gone -/
def Ends.gone (D : Ends) (i : Nat) : Ends := { nx := fun σ H => D.nx (σ.set i none) H, rt := D.rt, bk := fun σ H => D.bk (σ.set i none) H, ct := fun σ H => D.ct (σ.set i none) H }
/-- try: body; except C' as (the i-th name): suite; where what the body raises is a C -/
def tTry (C : Addr) (i : Nat) (tb : (St → XK) → TS) (th : Addr → TS) : TS := fun D σ H =>
  tb (fun σ' cls _ H' => cls = .ref C ∧ ∀ e, H' e = none → th e (D.gone i) (σ'.set i (some (.ref e))) H') D σ H
section
variable {X : Cx} {x n : Str} {i : Nat} {np hpos pos : Pos} {body suite : List Stmt} {b₀ : Stmt} {tb : (St → XK) → TS} {th : Addr → TS} {C C' : Addr}
theorem ps_tryX (hst : X.stack = X.env :: X.outer) (hfr : X.env.frame = some X.env.locals) (hN : X.N.Nodup) (hi : X.N[i]? = some n) (hn : X.env.scope.names.lookup n = some .local) (hg : Gl X x) (hm : X.mg x = some (.ref C'))
    (hx : PySem.W.exmOne X.K (.ref C) (.ref C') = some true)
    (hb : ∀ (qs : List (Addr × Obj)) (xe : Value → Shared → Prop) (E : St → XK), PassesX (CX1 X.prog X.w) (X.tried qs xe) E → PSs (X.tried qs xe) body (tb E))
    (hh : ∀ (qs : List (Addr × Obj)) (e : Addr) (oe : Obj), oe.cls = .ref C → (∃ vs, oe.data = .fields vs) → PSs (X.caught qs e oe) (b₀ :: suite) (th e)) (hdb : (x == ("__debug__" : Str)) = false := by decide) :
    PS X (.Try body [.ExceptHandler (some (.Name x np)) (some n) (b₀ :: suite) hpos] [] [] pos) (tTry C i tb th) := by
  intro pins s σ H D I h
  refine wpAny_Try_except (wpAny_mono (hb pins (fun ev s' => ∃ (pins' : List (Addr × Obj)) (σ' : St) (H1 : Hp) (s1 : Shared), Inv (X.tried pins fun _ _ => False) pins' σ' H1 s1 ∧
    CX1 X.prog X.w X.stack H1 s1 (fun cls _ H' => cls = .ref C ∧ ∀ e, H' e = none → th e (D.gone i) (σ'.set i (some (.ref e))) H') ev s') _ (fun pins' σ' H1 s1 ev s' J c => ⟨pins', σ', H1, s1, J.retried _, c⟩) [] s σ H D (I.tried _) h) (fun fl s1 q => ?_) fun ev s1 q => ?_)
  · cases fl with
    | next =>
      obtain ⟨σ', H', J, q⟩ := q
      exact (pss_nil (X := X)) pins s1 σ' H' D J.untried q
    | brk => obtain ⟨σ', H', J, q⟩ := q; exact ⟨σ', H', J.untried, q⟩
    | cont => obtain ⟨σ', H', J, q⟩ := q; exact ⟨σ', H', J.untried, q⟩
    | ret u => obtain ⟨v, σ', H', J, r, q⟩ := q; exact ⟨v, σ', H', J.untried, r, q⟩
  obtain ⟨pins', σ', H1, s0, J, H', e, cls, rfl, os, bare, un, ok, ex, rfl, hq⟩ := q
  have J' := J.untried
  have J0 : Inv X pins σ' H' s1 := J'.call' (ch := []) os un ok bare (fun b z => absurd z (by simp))
  obtain ⟨gn, He, oe, vs, T, oT, ts, a0, he, hc, hd, h1, gT, HT, hTe, hT, hdT, h3⟩ := ex
  have fl := J0.stack
  rw [hst] at fl un
  have hfrm := I.ok.frames
  rw [hst] at hfrm
  have fly : Heap.FlyingW (PySem.W.hideAll s1.heap (frs (X.env :: X.outer) ++ [e, T])) (X.env :: X.outer) e (.ref C) a0 s1.heap :=
    ⟨hide_in, PySem.W.hideAll_none _ (by simp), funs_hide fl, oe, vs, T, oT, ts, he, hc, hd, h1, PySem.W.hideAll_none _ (by simp), hTe, hT, hdT, h3⟩
  have frf : ∀ b ∈ frs (X.env :: X.outer), H' b = none := fun b hb => J0.stkFree b (by rw [hst]; exact hb)
  have key : ∀ h2, (PySem.W.hideAll s1.heap (frs (X.env :: X.outer) ++ [e, T])).StaysIn h2 → s1.heap.UpToSlots h2 → ∀ tk, Inv X pins σ' H' { s1 with heap := h2, toks := tk } := fun h2 st sl tk =>
    J'.call' (ch := []) (s' := { s1 with heap := h2, toks := tk }) os (by rw [hst]; exact un_stays un fl (fun b hb => by rcases List.mem_cons.mp hb with rfl | hb; exact gn; cases List.mem_singleton.mp hb; exact gT) st sl)
      (hok_stays ok frf (fun b hb => by rcases List.mem_cons.mp hb with rfl | hb; exact He; cases List.mem_singleton.mp hb; exact HT) st) bare (fun b z => absurd z (by simp))
  have eL : e ≠ X.env.locals := fun z => by
    obtain ⟨m, ⟨o, _, _, ho, _⟩, _⟩ := J'.loc
    rw [← z, gn] at ho; cases ho
  have eF : e ∉ X.fs := fun z => by
    obtain ⟨_, o, ho, _⟩ := J'.funs.mem z
    rw [gn] at ho; cases ho
  have pinned : ∀ h2, (PySem.W.hideAll s1.heap (frs (X.env :: X.outer) ++ [e, T])).StaysIn h2 → s1.heap.UpToSlots h2 → ∀ tk oe2 vs2, h2.get? e = some oe2 → oe2.data = .fields vs2 → Inv (X.caught pins e oe2) [] σ' H' { s1 with heap := h2, toks := tk } :=
    fun h2 st sl tk oe2 vs2 q1 q2 => (key h2 st sl tk).caught q1 He eL eF fun v z => by rw [q2] at z; cases z
  refine wpAny_looks_onW hfrm hfr fly fun h4 held sl4 => wpAny_landsW held fun h5 fly5 sl5 => ?_
  obtain ⟨oe5, vs5, _, _, _, he5, hc5, hd5, _⟩ := id fly5.2.2.2
  have I5 := pinned h5 fly5.1 (sl4.trans sl5) s1.toks oe5 vs5 he5 hd5
  refine wpAny_handleBy_cons (codeAny_handlers_test ?_) (by intro q; cases q)
  refine ld_glob (X := X.caught pins e oe5) I5 hg hm ?_ hdb
  have LT : PySem.W.Looks (model X.prog X.w) h5 (typeOf (.ref e)) (.ref C) := by
    rw [← hc5.1]
    exact (PySem.W.Looks.ld he5).andThen .now
  refine (PySem.W.exm_one (K := X.K) (h := h5) I5.kIn LT hx).at ?_
  show codeAny _ _ _ _ _
  refine codeAny_handlers_suite_as ?_
  refine lands_againW fly5 fun h6 fly6 sl6 => ?_
  obtain ⟨oe6, vs6, _, _, _, he6, hc6, hd6, _⟩ := id fly6.2.2.2
  have I6 := pinned h6 fly6.1 ((sl4.trans sl5).trans sl6) s1.toks oe6 vs6 he6 hd6
  refine store_ok (X := X.caught pins e oe6) I6 hN hi (.inl hn) (v := .ref e) rfl (fun s7 I7 => ?_) (.inr hn)
  refine wpAny_mono (hh pins e oe6 hc6.1 ⟨vs6, hd6⟩ [] s7 _ H' (D.gone i) I7 (hq e He)) (fun fl8 s8 q8 => ?_) fun _ _ z => False.elim z
  cases fl8 with
  | next => obtain ⟨σ8, H8, I8, d8⟩ := q8; exact goes_ok (I8.uncaught I.ok) hN hi hn fun s9 I9 => ⟨_, _, I9, d8⟩
  | brk => obtain ⟨σ8, H8, I8, d8⟩ := q8; exact goes_ok (I8.uncaught I.ok) hN hi hn fun s9 I9 => ⟨_, _, I9, d8⟩
  | cont => obtain ⟨σ8, H8, I8, d8⟩ := q8; exact goes_ok (I8.uncaught I.ok) hN hi hn fun s9 I9 => ⟨_, _, I9, d8⟩
  | ret u => obtain ⟨v, σ8, H8, I8, r, d8⟩ := q8; exact goes_ok (I8.uncaught I.ok) hN hi hn fun s9 I9 => ⟨v, _, _, I9, r, d8⟩
end
end L2

set_option autoImplicit false
set_option maxRecDepth 100000
set_option maxHeartbeats 4000000
set_option linter.unusedVariables false
namespace L2
open PySem PySem.Spec PyProof.Rows Builtin Builtin.ObjectAttr Builtin.Getset_descriptor
structure ExcV (K : PySem.W.Frag) (C : Addr) : Prop where
  cls : (PySem.W.clsIn K C).isSome = true
  ga : PySem.W.findIn K (.ref C) "__getattribute__" = some (some (.builtin "BaseException.__getattribute__"))
  gn : PySem.W.findIn K (.ref C) "__getattr__" = some none
  cl : PySem.W.findIn K (.ref C) "__class__" = some (some (.builtin "object.__class__"))
  be : PySem.W.mroIn K C (.type "BaseException") = some true
  ob : PySem.W.mroIn K C (.type "object") = some true
def ExcAt (e C : Addr) (h : Heap) : Prop := ∃ o, h.get? e = some o ∧ o.cls = .ref C ∧ ∃ vs, o.data = .fields vs
section
variable {K : PySem.W.Frag} {e C : Addr}
theorem ExcAt.ty {h : Heap} (p : ExcAt e C h) (M : Model) : PySem.W.Looks M h (typeOf (.ref e)) (.ref C) := by
  obtain ⟨o, h1, h2, _⟩ := p
  exact h2 ▸ (PySem.W.Looks.ld h1).andThen .now
theorem ExcV.it (V : ExcV K C) {M : Model} {h : Heap} (X : K.In h) : PySem.W.Looks M h (isType (.ref C)) true := by
  have hc := V.cls
  unfold PySem.W.clsIn at hc
  split at hc
  · rename_i c' d' cd' sl' ho
    intro A' Q' E' s' k q
    unfold isType loadHead
    exact wpAny_bind (wpAny_loadPart (k _ _ (X _ _ ho)) (wpAny_pure q))
  · cases hc
theorem exc_class_get {prog : Program} {w : World} {A : Around} {R : Result → Shared → Prop} {s : Shared} {tp : Value} (V : ExcV K C) (X : K.In s.heap) (p : ExcAt e C s.heap) (h : R (.ok (.ret (.ref C))) s) :
    codeAny (model prog w) A (.call (.builtin "getset_descriptor.__get__") ⟨[.builtin "object.__class__", .ref e, tp], []⟩) R s := by
  obtain ⟨hh, g, dr, t, os⟩ := s
  have L0 := p.ty (model prog w)
  have L1 := PySem.W.looks_mroIn (M := model prog w) X V.ob
  refine codeAny_call_builtin PySem.W.KF.slot_gs.plain PySem.W.KF.entry_gs (PySem.W.KF.slot_gs.check _ _ _ _ _ _ _ _ PySem.W.KF.type_class (PySem.W.KF.args_gs _ _ _) ?_)
  unfold Builtin.«getset_descriptor.__get__» descrGet
  rw [PySem.W.dga_obj]
  refine wpAny_bind (wpAny_pure ?_)
  unfold descrGetter descrCheckInstance descrNameAndClass isInstance
  simp only [PySem.W.KF.owner_class]
  repeat lk
  refine ⟨Code.quiet_builtin _ (by decide +kernel), codeAny_builtin PySem.W.KF.entry_class ?_⟩
  unfold Builtin.«object.__class__» shownTypeOf
  repeat lk
  exact h
theorem exc_check {M : Model} {A : Around} {E : Value → Shared → Prop} {nameV : Value} {Q : Unit → Shared → Prop} {s : Shared} (V : ExcV K C) (X : K.In s.heap) (p : ExcAt e C s.heap) (hq : Q () s) :
    wpAny M A (checkBuiltinCall "BaseException.__getattribute__" ⟨[.ref e, nameV], []⟩) Q E s := by
  have hk : builtinKind "BaseException.__getattribute__" = some .slot := by decide +kernel
  have hsplit : splitId "BaseException.__getattribute__" = some ("BaseException", "__getattribute__") := by decide +kernel
  have ha := PySem.F.args_bexc_ga (.ref e) nameV
  have LI : PySem.W.Looks M s.heap (isInstance (.ref e) (.type "BaseException")) true := (p.ty M).andThen (PySem.W.looks_mroIn X V.be)
  obtain ⟨hh, g, dr, t, os⟩ := s
  simp only [checkBuiltinCall, hk, hsplit]
  refine wpAny_bind (LI.at ?_)
  repeat (first | assumption | wp_step)
theorem exc_entry {prog : Program} {w : World} {A : Around} {E : Value → Shared → Prop} {tk : Tok} {Q : Fin → Shared → Prop} {s : Shared} (V : ExcV K C) (X : K.In s.heap) (p : ExcAt e C s.heap) (hq : Q (.done (.ret (.ref C))) s) :
    wpAny (model prog w) A (Builtin.«object.__getattribute__» ⟨[.ref e, .str "__class__" tk], []⟩) Q E s := by
  have L0 := p.ty (model prog w)
  have L3 := PySem.W.looks_findIn (M := model prog w) X V.cl
  have f6 := PySem.F.slot_gs_get.lookup
  have f7 := PySem.F.slot_gs_set.lookup
  obtain ⟨hh, g, dr, t, os⟩ := s
  have hT5 : (⟨hh, g, dr, t, os⟩ : Shared).TypeIs (.builtin "object.__class__") "getset_descriptor" := PySem.W.KF.type_class
  have f5 := PySem.W.KF.type_class
  repeat (any_goals (first | assumption | with_reducible refine wpAny_bind (L0.at ?_) | with_reducible refine wpAny_bind (L3.at ?_) | with_reducible refine L0.at ?_ | with_reducible refine L3.at ?_ | wp_step))
  refine exc_class_get V X p ?_
  repeat (any_goals (first | assumption | wp_step))
theorem exc_class {prog : Program} {w : World} {A : Around} {E : Value → Shared → Prop} {Q : Option Value → Shared → Prop} {s : Shared} (V : ExcV K C) (X : K.In s.heap) (p : ExcAt e C s.heap) (h : Q (some (.ref C)) { s with toks := s.toks + 1 }) :
    wpAny (model prog w) A (getAttr? (.ref e) "__class__") Q E s := by
  obtain ⟨hh, g, dr, t, os⟩ := s
  have L0 := p.ty (model prog w)
  have L1 := PySem.W.looks_findIn (M := model prog w) X V.ga
  have L2 := PySem.W.looks_findIn (M := model prog w) X V.gn
  have hx1 : (onTheHeap (Value.ref C) && Value.builtin "BaseException.__getattribute__" == Value.builtin "object.__getattribute__") = false := by
    rw [show (Value.builtin "BaseException.__getattribute__" == Value.builtin "object.__getattribute__") = false from by decide +kernel]; rfl
  unfold getAttr? getAttrBy? getAttrBy
  refine wpAny_bind (wpAny_mkText (wpAny_bind (wpAny_attempt (wpAny_holding (wpAny_bind (L0.at (wpAny_bind (L1.at ?_))))))))
  dsimp only
  rw [hx1, if_neg Bool.false_ne_true]
  unfold getAttrByItsOwn hookBefore
  rw [if_pos (show onTheHeap (Value.ref C) = true from rfl)]
  refine wpAny_bind (L2.at ?_)
  refine wpAny_bind (wpAny_attempt (wpAny_holding ?_))
  unfold callGetattribute
  rw [if_neg (by decide)]
  unfold boundAndCalled
  refine wpAny_bind (wpAny_of_eq (PySem.F.attr_ValueError.ga.bind _) ?_)
  refine wpAny_call (codeAny_call_builtin PySem.F.attr_ValueError.ga.plain PySem.F.entry_bexc_ga (exc_check V X p (exc_entry V X p ?_)))
  repeat (first | assumption | lk | wp_step)
theorem kitx_exc (V : ExcV K C) : PySem.W.KitX K (.ref e) (.ref C) (ExcAt e C) where
  ty := fun M h _ p => p.ty M
  it := fun M h X _ => V.it X
  ne := fun h tp dd its n sl X htp => by
    have hc := V.cls
    refine Bool.eq_false_iff.mpr fun q => ?_
    have e : C = tp := Value.ref.inj (beq_iff_eq.mp q)
    subst e
    unfold PySem.W.clsIn at hc
    split at hc
    · rename_i c' d' cd' sl' ho
      have z := (X _ _ ho).symm.trans htp
      cases z
    · cases hc
  ca := fun X p k => exc_class V X p k
theorem kit_self {t : Value} : PySem.W.kitOne K t t = some true := by
  unfold PySem.W.kitOne
  rw [if_pos (beq_self_eq_true t)]
end
section
variable {X : Cx} {e C C' : Addr} {oe : Obj} {T : String} {b : Bool} {qs : List (Addr × Obj)}
theorem pin_last : (e, oe) ∈ (X.caught qs e oe).pn := List.mem_append_right _ (List.mem_append_right _ (List.mem_singleton.mpr rfl))
theorem isx {pins : List (Addr × Obj)} {σ : St} {H : Hp} {s : Shared} {Q : VK} {c : Value} (V : ExcV X.K C) (hc : oe.cls = .ref C) (hd : ∃ vs, oe.data = .fields vs) (hp : (e, oe) ∈ X.pn) (hk : PySem.W.kitOne X.K (.ref C) c = some b) (I : Inv X pins σ H s) (q : Q (.bl b) H) :
    wpAny (model X.prog X.w) X.A (call (.builtin "isinstance") [.ref e, c]) (EP X pins σ Q) X.xe s :=
  PySem.W.kia_one (kitx_exc V) I.kIn ⟨oe, (I.pin _ (List.mem_append_left _ hp)).1, hc, hd⟩ hk (by intro q; cases q) fun tk => ⟨.bl b, H, I.tok tk, rfl, q⟩
theorem call_isxO (V : ExcV X.K C) (hc : oe.cls = .ref C) (hd : ∃ vs, oe.data = .fields vs) (hp : (e, oe) ∈ X.pn) (hk : PySem.W.kitOne X.K (.ref C) (.ref C') = some b) :
    CallR X (.builtin "isinstance") (fun xs H Q => xs = [.ref e, .ref C'] ∧ Q (.bl b) H) := by
  intro pins s σ H xs us Q I r h
  obtain ⟨rfl, q⟩ := h
  obtain ⟨u, w', rfl, rx, rc⟩ := vals2 r
  cases (show u = Value.ref e from rx)
  cases (show w' = Value.ref C' from rc)
  exact isx V hc hd hp hk I q
theorem call_isxT (V : ExcV X.K C) (hc : oe.cls = .ref C) (hd : ∃ vs, oe.data = .fields vs) (hp : (e, oe) ∈ X.pn) (hk : PySem.W.kitOne X.K (.ref C) (.type T) = some b) :
    CallR X (.builtin "isinstance") (fun xs H Q => xs = [.ref e, .ty T] ∧ Q (.bl b) H) := by
  intro pins s σ H xs us Q I r h
  obtain ⟨rfl, q⟩ := h
  obtain ⟨u, w', rfl, rx, rc⟩ := vals2 r
  cases (show u = Value.ref e from rx)
  cases (show w' = Value.type T from rc)
  exact isx V hc hd hp hk I q
end
theorem bValueError : bootBuiltins "ValueError" = some (.type "ValueError") := by decide +kernel
/-- an own class below EndError: what the rules of raise and try want to know -/
structure Errs (K : PySem.W.Frag) (mg : Str → Option Value) (nm : Str) (C CE : Addr) : Prop where
  n : mg nm = some (.ref C)
  nE : mg "EndError" = some (.ref CE)
  mV : mg "ValueError" = none
  own : OwnV K C
  v : ExcV K C
  xm : PySem.W.exmOne K (.ref C) (.ref CE) = some true
  kV : PySem.W.kitOne K (.ref C) (.type "ValueError") = some true
end L2

set_option autoImplicit false
set_option maxRecDepth 100000
set_option maxHeartbeats 4000000
set_option linter.unusedVariables false
namespace L2
open PySem PySem.Spec PyProof.Rows
end L2

set_option autoImplicit false
set_option maxRecDepth 100000
set_option maxHeartbeats 4000000
set_option linter.unusedVariables false
namespace K05
open PySem L2
def top (i : Nat) : Stmt := PySem.Challenge.pw_endbook_k05_whole_words_by_number.main.body.getD i (.Pass ⟨0, 0, 0, 0⟩)
section
variable {P : Program} {w : World} {K : PySem.W.Frag} {mg : Str → Option Value} {base : Heap} {f : Addr} {fd : FuncData}
abbrev s_law_whole : Stmt := top 13
theorem sc_law_whole : FnScope ["_law_found"] ["_law_found"] (defScope s_law_whole) := ⟨rfl, rfl, rfl, by decide +kernel, rfl, by decide +kernel, by decide +kernel⟩
def sp_whole : Sp := fun vs H Q _ => ∃ i : Int, vs = [.int i] ∧ Q (.bl true) H
theorem ok_whole (F : Fun K "_law_whole" "_law_whole" s_law_whole f fd) (m_isinstance : mg "isinstance" = none) (m_int : mg "int" = none) (m_bool : mg "bool" = none) (kb : PySem.W.kitOne K (.type "int") (.type "bool") = some false) : FnOk P w K mg base CX0 1 f fd ["_law_found"] sp_whole := by
  refine F.ok sc_law_whole (fun vs H Q E h => ?_) (fun cdv A outer s H vs Q E hr h => ?_)
  · obtain ⟨i, rfl, _⟩ := h
    rfl
  obtain ⟨i, rfl, q⟩ := h
  refine ⟨_, (pss_one (ps_ret (pe_and (pe_callB call_isinst rfl m_isinstance bIsinstance (pa_cons (pv 0) (pa_cons (pe_bltn (v := .ty "int") rfl m_int bInt rfl) pa_nil))) (pe_one (pe_not (pe_callB call_isinst rfl m_isinstance bIsinstance (pa_cons (pv 0) (pa_cons (pe_bltn (v := .ty "bool") rfl m_bool bBool rfl) pa_nil)))))))), ?_⟩
  refine ⟨_, rfl, _, _, _, _, rfl, .int i, kit_same K "int", _, rfl, iteT ?_⟩
  exact ⟨_, rfl, _, _, _, _, rfl, .int i, kb, _, rfl, q⟩
abbrev s_law_at : Stmt := top 14
theorem sc_law_at : FnScope ["_law_script", "_law_k"] ["_law_script", "_law_k"] (defScope s_law_at) := ⟨rfl, rfl, rfl, by decide +kernel, rfl, by decide +kernel, by decide +kernel⟩
def sp_at (K : PySem.W.Frag) : Sp := fun vs H Q _ => ∃ (a : Addr) (ns : List Int) (k : Int), vs = [.ref a, .int k] ∧ SqL K H a (ns.map V.int) ∧ 0 ≤ k ∧ Q (.int (ns.getD k.toNat 0)) H
theorem ok_at (F : Fun K "_law_at" "_law_at" s_law_at f fd) (m_len : mg "len" = none) : FnOk P w K mg base CX0 1 f fd ["_law_script", "_law_k"] (sp_at K) := by
  refine F.ok sc_law_at (fun vs H Q E h => ?_) (fun cdv A outer s H vs Q E hr h => ?_)
  · obtain ⟨a, ns, k, rfl, _⟩ := h
    rfl
  obtain ⟨a, ns, k, rfl, hS, hk, q⟩ := h
  refine ⟨_, (pss_cons (ps_if (pt_cmpR op_lt (pv 1) (pe_callB call_len_seq rfl m_len PySem.boot_len (pa_cons (pv 0) pa_nil)) (nomark _)) (pss_one (ps_ret (pe_ix ix_list (pv 0) (pv 1) (fun _ _ => rfl)))) pss_nil)
    (pss_one (ps_ret pe_int))), ?_⟩
  refine ⟨_, rfl, _, rfl, a, _, rfl, .inl hS, _, _, rfl, rfl, _, rfl, ?_⟩
  have hl : (ns.map V.int).length = ns.length := List.length_map _
  refine ite2 (fun c => ?_) (fun c => ?_)
  · have c' : k < (((ns.map V.int).length : Nat) : Int) := of_decide_eq_true c
    rw [hl] at c'
    exact ⟨_, rfl, _, rfl, a, _, _, _, rfl, rfl, hS, atI_int hk c', q⟩
  · have c' : ¬ k < (((ns.map V.int).length : Nat) : Int) := of_decide_eq_false (Bool.eq_false_iff.mpr c)
    rw [hl] at c'
    have e : ns.getD k.toNat 0 = 0 := by rw [List.getD_eq_getElem?_getD, List.getElem?_eq_none (by omega)]; rfl
    rw [e] at q
    exact q
abbrev s_law_text_by : Stmt := top 15
theorem sc_law_text_by : FnScope ["_law_cells", "_law_seed", "_law_wide", "_law_letters", "_law_text", "_law_k", "_law_half"] ["_law_cells", "_law_seed"] (defScope s_law_text_by) := ⟨rfl, rfl, rfl, by decide +kernel, rfl, by decide +kernel, by decide +kernel⟩
def sp_text (K : PySem.W.Frag) : Sp := fun vs H Q _ => ∃ (a : Addr) (ns : List Int) (z : Int), vs = [.ref a, .int z] ∧ SqL K H a (ns.map V.int) ∧ ns.length ≤ 300 ∧ ∀ (t : Str) (H' : Hp), t.length = ns.length → Low t → Same H H' → Q (.str t) H'
theorem ok_text (F : Fun K "_law_text_by" "_law_text_by" s_law_text_by f fd) (m_len : mg "len" = none) (m_range : mg "range" = none) : FnOk P w K mg base CX0 1 f fd ["_law_cells", "_law_seed"] (sp_text K) := by
  refine F.ok sc_law_text_by (fun vs H Q E h => ?_) (fun cdv A outer s H vs Q E hr h => ?_)
  · obtain ⟨a, ns, z, rfl, _⟩ := h
    rfl
  obtain ⟨a, ns, z, rfl, hS, h63, q⟩ := h
  refine ⟨_, (pss_cons (ps_set (i := 2) sc_law_text_by.nd rfl (Or.inl rfl) (pe_ix ix_list (pe_lst (pa_cons pe_int (pa_cons pe_int (pa_cons pe_int (pa_cons pe_int (pa_cons pe_int pa_nil)))))) (pe_op op_mod (pv 1) pe_int) (fun _ _ => rfl)))
    (pss_cons (ps_set (i := 3) sc_law_text_by.nd rfl (Or.inl rfl) (pe_slice sl_str pe_str (po_some (pe_op op_sub pe_int (pv 2))) po_none))
    (pss_cons (ps_set (i := 4) sc_law_text_by.nd rfl (Or.inl rfl) pe_str)
    (pss_cons (ps_for PassesOwn.never rfl (pi_range1 rfl m_range (pa_cons (pe_callB call_len_seq rfl m_len PySem.boot_len (pa_cons (pv 0) pa_nil)) pa_nil)) (pg_name (i := 5) sc_law_text_by.nd rfl (Or.inl rfl)) (pss_one (ps_set (i := 4) sc_law_text_by.nd rfl (Or.inl rfl) (pe_op op_add_str (pv 4) (pe_ix ix_str (pv 3) (pe_op op_mod (pe_op op_add (pe_ix ix_list (pv 0) (pv 5) (fun _ _ => rfl)) (pv 1)) (pv 2)) (fun _ _ => rfl))))))
    (pss_cons (ps_set (i := 6) sc_law_text_by.nd rfl (Or.inl rfl) (pe_op op_fdiv (pe_callB call_len_str rfl m_len PySem.boot_len (pa_cons (pv 4) pa_nil)) pe_int))
    (pss_cons (ps_if (pt_cmpR op_eq (pe_op op_mod (pe_op op_fdiv (pv 1) pe_int) pe_int) pe_int (nomark _)) (pss_one (ps_set (i := 4) sc_law_text_by.nd rfl (Or.inl rfl) (pe_op op_add_str (pe_slice sl_str (pv 4) po_none (po_some (pv 6))) (pe_slice sl_str (pv 4) po_none (po_some (pe_op op_sub (pe_callB call_len_str rfl m_len PySem.boot_len (pa_cons (pv 4) pa_nil)) (pv 6))))))) pss_nil)
    (pss_one (ps_ret (pv 4))))))))), ?_⟩
  obtain ⟨wd, hwd, hw1, hw2⟩ := wide_at z
  have hl : (ns.map V.int).length = ns.length := List.length_map _
  refine ⟨(by show 5 ≤ sizeLine; decide), fun p hp => ?_⟩
  have g1 := same_new hp (.lst [.int 1, .int 2, .int 3, .int 5, .int 26])
  refine ⟨_, rfl, _, _, rfl, rfl, (by show (0 : Int) < 5; decide), p, _, _, _, rfl, rfl, SqL.of upd_same, hwd, ?_⟩
  refine ⟨_, rfl, _, _, rfl, rfl, _, rfl, _, rfl, (by show (26 : Nat) ≤ sizeLine; decide), ?_⟩
  have lowL := low_slice low_abc (some (26 - (wd : Int))) none
  generalize hL : Txt.slice (Str.ofString "abcdefghijklmnopqrstuvwxyz") (some (26 - (wd : Int))) none = L at lowL ⊢
  have lenL : L.length = wd := by
    rw [← hL, slice_from _ _ (by omega) (by show (26 : Int) - wd ≤ ((26 : Nat) : Int); omega)]
    show 26 - (26 - (wd : Int)).toNat = wd
    omega
  refine ⟨_, rfl, a, _, rfl, .inl (g1.seq hS), _, rfl, by omega, by omega, ?_⟩
  rw [hl]
  refine for_range (Pv := fun i σ H2 => ∃ (t : Str) (v : Option V), σ = [some (.ref a), some (.int z), some (.int (wd : Int)), some (.str L), some (.str t), v, none] ∧ t.length = i ∧ Low t ∧ Same H H2) ⟨_, none, rfl, rfl, low_nil, g1⟩ ?_ ?_
  · rintro i σ H2 hi ⟨t, v, rfl, ht, lt, g2⟩
    have hi' : (i : Int) < (ns.length : Int) := by omega
    have hm : 0 ≤ (ns.getD (0 + (i : Int)).toNat 0 + z) % (wd : Int) ∧ (ns.getD (0 + (i : Int)).toNat 0 + z) % (wd : Int) < (wd : Int) := ⟨Int.emod_nonneg _ (by omega), Int.emod_lt_of_pos _ (by omega)⟩
    obtain ⟨c, hc⟩ := atI_some (xs := L.cps.toList) hm.1 (by rw [len_list, lenL]; exact hm.2)
    refine ⟨_, rfl, _, rfl, _, rfl, _, rfl, a, _, _, _, rfl, rfl, g2.seq hS, atI_int (by omega) (by omega), _, rfl, _, _, rfl, rfl, _, rfl, _, _, rfl, rfl, (by show (0 : Int) < (wd : Int); omega), _, _, c, rfl, rfl, small63 (by omega), hc, _, _, rfl, rfl, small63 (by show t.length + 1 ≤ _; omega), ?_⟩
    exact ⟨_, _, rfl, by rw [len_app, ht]; rfl, low_app lt (low_one (lowL c (atI_mem hc))), g2⟩
  · rintro σ H2 ⟨t, v, rfl, ht, lt, g2⟩
    have ht' : t.length = ns.length := by rw [ht]; omega
    have hz : t.length ≤ sizeLine := small63 (by omega)
    refine ⟨_, rfl, _, rfl, hz, _, _, rfl, rfl, ⟨by decide, by decide⟩, ?_⟩
    refine ⟨_, rfl, _, _, rfl, rfl, ⟨by decide, by decide⟩, _, _, rfl, rfl, (by show (0 : Int) < 4; decide), rfl, _, rfl, ?_⟩
    refine ite2 (fun _ => ?_) (fun _ => ?_)
    · refine ⟨_, rfl, _, rfl, _, rfl, _, rfl, hz, _, rfl, _, rfl, _, rfl, hz, _, rfl, _, _, rfl, rfl, _, rfl, _, rfl, hz, _, _, rfl, rfl, ?_, ?_⟩
      · rw [slice_to _ _ (by omega) (by omega), slice_to _ _ (by omega) (by omega)]
        exact small63 (by omega)
      · refine ⟨_, rfl, q _ H2 ?_ (low_app (low_slice lt _ _) (low_slice lt _ _)) g2⟩
        rw [len_app, slice_to _ _ (by omega) (by omega), slice_to _ _ (by omega) (by omega)]
        omega
    · exact ⟨_, rfl, q _ H2 ht' lt g2⟩
abbrev s_ends : Stmt := top 1
theorem sc_ends : FnScope ["text"] ["text"] (defScope s_ends) := ⟨rfl, rfl, rfl, by decide +kernel, rfl, by decide +kernel, by decide +kernel⟩
abbrev s_shared_signs : Stmt := top 3
theorem sc_shared_signs : FnScope ["text", "one", "other", "most", "count"] ["text", "one", "other"] (defScope s_shared_signs) := ⟨rfl, rfl, rfl, by decide +kernel, rfl, by decide +kernel, by decide +kernel⟩
abbrev s_shared_ahead : Stmt := top 2
theorem sc_shared_ahead : FnScope ["text", "order", "shared", "rank", "place"] ["text"] (defScope s_shared_ahead) := ⟨rfl, rfl, rfl, by decide +kernel, rfl, by decide +kernel, by decide +kernel⟩
/-- where the lambda of ends stands -/
def lamPos : Pos := match defBody s_ends with
  | [.Return (some (.Call _ _ [k] _)) _] => (match k.value with | .Lambda _ _ _ p => p | _ => ⟨0, 0, 0, 0⟩)
  | _ => ⟨0, 0, 0, 0⟩
abbrev lamQ : Str := (PyProof.Rows.envOfC "ends" (defScope s_ends) 0 0 .none).qual ++ "<lambda>"
abbrev zs (ms : List Nat) : List V := (ms.map fun (i : Nat) => (i : Int)).map V.int
def sp_ends (T : Addr) : Sp := fun vs H Q _ => ∃ t : Str, vs = [.str t] ∧ t.length ≤ 1000 ∧ Tab lamPos lamQ T H ∧ ∀ (l : Addr) (ms : List Nat) (H' : Hp), SameBut T H H' → Tab lamPos lamQ T H' → H l = none → l ≠ T → H' l = some (.lst (zs ms)) → Wd.Order t.cps.toList ms → Q (.ref l) H'
theorem ok_ends {c T : Addr} (F : Fun K "ends" "ends" s_ends f fd) (hc : fd.code = .ref c) (hC : PySem.W.CodeHd base c T) (hB : base.BuiltinsAt mg T) (m_len : mg "len" = none) (m_range : mg "range" = none) (m_sorted : mg "sorted" = none) : FnOk P w K mg base CX0 4 f fd ["text"] (sp_ends T) := by
  refine F.okC (cv := .ref c) hc sc_ends (fun vs H Q E h => ?_) (fun A outer s H vs Q E hr h => ?_)
  · obtain ⟨t, rfl, _⟩ := h
    rfl
  obtain ⟨t, rfl, hz, hT, q⟩ := h
  have LM : LamCx (cxOf CX0 P w K mg base ["text"] "ends" (defScope s_ends) f (.ref c) A outer s H E).nox c T := ⟨rfl, hC, hB⟩
  refine ⟨_, (pss_one (ps_ret (pe_sortedKey rfl rfl m_sorted (pa_cons (pe_range1 rfl m_range (pa_cons (pe_callB call_len_str rfl m_len PySem.boot_len (pa_cons (pv 0) pa_nil)) pa_nil)) pa_nil) (pk_cons (pe_lamT (clos := [("text", s.heap.objs.size + 1)]) LM rfl rfl) pk_nil)))), ?_⟩
  have hz' : t.length ≤ sizeLine := small63 (by omega)
  obtain ⟨oT, hTo⟩ := hT.some
  refine ⟨_, rfl, t, rfl, hz', _, rfl, fun r nr => ?_⟩
  have hTr : T ≠ r := ne_of_none hTo nr
  have gr := same_new nr (.rng 0 (t.length : Int))
  refine ⟨hT.keep gr, fun lf c' ctv pm H2 nf fP sb hP2 hc2 hf2 => ?_⟩
  have hr2 : H2 r = some (.rng 0 (t.length : Int)) := sb r _ (Ne.symm hTr) upd_same
  refine ⟨r, lf, t.length, fun i => Txt.slice t (some (i : Int)) none, rfl, rfl, hr2, by omega, fun pins s' i tk I hi => ?_, fun l mm nl p pw => ?_⟩
  · have hf := (I.hok lf _ hf2).1
    have hcd := (I.hok c' _ hc2).1
    obtain ⟨m, hn, hl⟩ := I.loc
    obtain ⟨u, ru, lk⟩ := hl 0 "text" (.str t) rfl rfl (.inr (.inl rfl))
    rcases lk with ⟨hk, _⟩ | ⟨_, cA, hcA, hcell⟩
    · exact absurd (show some NameKind.cell = some NameKind.local from hk) (by decide)
    · have eA : s.heap.objs.size + 1 = cA := Option.some.inj (show some (s.heap.objs.size + 1) = some cA from hcA)
      subst eA
      refine wpAny_call (codeAny_mono (lam_one (t := _) (vx := .int (i : Int)) (vy := .str t) (x := "place") (y := "text") (Q := fun v H' => v = .str (Txt.slice t (some (i : Int)) none) ∧ H' = _) I.env0.in1.in1 (I.ok.hd rfl) hr.in1.in1.depth hf hcd rfl rfl rfl (by decide +kernel)
        (fun z hz => by
          have m' : (z, NameKind.free) ∈ ([(Str.ofString "place", NameKind.local), (Str.ofString "text", NameKind.free)] : List (Str × NameKind)) := PySem.mem_of_lookup hz
          rcases List.mem_cons.mp m' with e | e
          · cases e
          · have e' := List.mem_singleton.mp e
            cases e'
            rfl) rfl rfl rfl hcell ru (I.freeC "text" _ hcA) ⟨tk, rfl⟩ (pe_slice sl_str (pv 1) (po_some (pv 0)) po_none) ⟨_, rfl, _, rfl, _, rfl, t, rfl, hz', rfl, rfl⟩) fun r s'' hq => ?_)
      obtain ⟨u', rfl, v, H', os, bare, un, hok, rv, rfl, rfl⟩ := hq
      exact ⟨rv, os, bare, un, hok⟩
  · have nlH : H l = none := by
      cases e : H l with
      | none => rfl
      | some o =>
        by_cases hlT : l = T
        · rw [hlT, hP2] at nl; cases nl
        · have := sb l o hlT (gr _ _ e)
          rw [this] at nl; cases nl
    have lT : l ≠ T := fun e => by rw [e, hP2] at nl; cases nl
    refine q l mm _ (fun b o hb e => ?_) (.inr ⟨c', by rw [upd_ne (Ne.symm lT)]; exact hP2, by rw [upd_ne (ne_of_none hc2 nl)]; exact hc2⟩) nlH lT (by rw [upd_same]; unfold zs; rw [List.map_map]; rfl) ⟨by rw [len_list]; exact p, ?_⟩
    · rw [upd_ne (ne_of_none (sb b o hb (gr _ _ e)) nl)]
      exact sb b o hb (gr _ _ e)
    · have nd : mm.Nodup := p.nodup_iff.mpr List.nodup_range
      rw [List.nodup_iff_pairwise_ne] at nd
      have pw2 := List.Pairwise.and pw nd
      refine List.Pairwise.imp_of_mem (fun {i j} hi hj h => ?_) pw2
      obtain ⟨h1, h2⟩ := h
      have li := List.mem_range.mp (p.mem_iff.mp hi)
      have lj := List.mem_range.mp (p.mem_iff.mp hj)
      rw [suffix_cps, suffix_cps] at h1
      rcases Wd.tri (t.cps.toList.drop i) (t.cps.toList.drop j) with c | c | c
      · exact c
      · exfalso
        have := congrArg List.length c
        rw [List.length_drop, List.length_drop, len_list] at this
        omega
      · exact absurd c h1
/-- the place z of a list of places -/
theorem zs_at {ms : List Nat} {k i : Nat} (h : ms[k]? = some i) {z : Int} (e : z = (k : Int)) : atI (zs ms) z = some (.int (i : Int)) := by
  subst e
  refine atI_nat ?_
  unfold zs
  rw [List.getElem?_map, List.getElem?_map, h]
  rfl
theorem zs_len (ms : List Nat) : (zs ms).length = ms.length := by unfold zs; rw [List.length_map, List.length_map]
def sp_shared_signs : Sp := fun vs H Q _ => ∃ (t : Str) (i j : Nat), vs = [.str t, .int (i : Int), .int (j : Int)] ∧ t.length ≤ 1000 ∧ i < t.length ∧ j < t.length ∧ Q (.int ((Wd.lcp (t.cps.toList.drop i) (t.cps.toList.drop j) : Nat) : Int)) H
theorem ok_shared_signs (F : Fun K "shared_signs" "shared_signs" s_shared_signs f fd) (m_len : mg "len" = none) (m_max : mg "max" = none) : FnOk P w K mg base CX0 2 f fd ["text", "one", "other"] sp_shared_signs := by
  refine F.ok sc_shared_signs (fun vs H Q E h => ?_) (fun cdv A outer s H vs Q E hr h => ?_)
  · obtain ⟨t, i, j, rfl, _⟩ := h
    rfl
  obtain ⟨t, i, j, rfl, hz, hi, hj, q⟩ := h
  refine ⟨_, (pss_cons (ps_set (i := 3) sc_shared_signs.nd rfl (Or.inl rfl) (pe_op op_sub (pe_callB call_len_str rfl m_len PySem.boot_len (pa_cons (pv 0) pa_nil)) (pe_callB (call_max2 rfl) rfl m_max bMax (pa_cons (pv 1) (pa_cons (pv 2) pa_nil)))))
    (pss_cons (ps_set (i := 4) sc_shared_signs.nd rfl (Or.inl rfl) pe_int)
    (pss_cons (ps_while PassesOwn.never (PW.pt (pw_and (pt_cmpR op_lt (pv 4) (pv 3) (nomark _)) (pw_and1 (pt_cmpR op_eq (pe_ix ix_str (pv 0) (pe_op op_add (pv 1) (pv 4)) (fun _ _ => rfl)) (pe_ix ix_str (pv 0) (pe_op op_add (pv 2) (pv 4)) (fun _ _ => rfl)) (nomark _))))) (pss_one (ps_aug (i := 4) sc_shared_signs.nd rfl (Or.inl rfl) pe_int ip_add)))
    (pss_one (ps_ret (pv 4)))))), ?_⟩
  have hz' : t.length ≤ sizeLine := small63 (by omega)
  refine ⟨_, rfl, t, rfl, hz', _, rfl, _, rfl, _, _, rfl, _, _, rfl, rfl, ?_⟩
  have e1 : (t.length : Int) - (if (j : Int) > (i : Int) then (j : Int) else (i : Int)) = ((t.length - max i j : Nat) : Int) := by
    rcases Nat.lt_or_ge i j with g | g
    · rw [if_pos (by omega), Nat.max_eq_right (by omega)]; omega
    · rw [if_neg (by omega), Nat.max_eq_left (by omega)]; omega
  have hla : (t.cps.toList.drop i).length = t.length - i := by rw [List.length_drop, len_list]
  have hlb : (t.cps.toList.drop j).length = t.length - j := by rw [List.length_drop, len_list]
  have sign : ∀ {k x : Nat} {z : Int}, z = (k : Int) + (x : Int) → k + x < t.length → ∃ a, (t.cps.toList.drop k)[x]? = some a ∧ atI t.cps.toList z = some a := fun {k x z} e hx => by
    have h1 : k + x < t.cps.toList.length := by rw [len_list]; exact hx
    refine ⟨t.cps.toList[k + x], ?_, ?_⟩
    · rw [List.getElem?_drop]; exact List.getElem?_eq_getElem h1
    · rw [e, show (k : Int) + (x : Int) = ((k + x : Nat) : Int) by omega]
      exact atI_nat (List.getElem?_eq_getElem h1)
  refine ⟨fun m σ H2 => H2 = H ∧ ∃ c : Nat, m = t.length - c ∧ c ≤ t.length - max i j ∧ c ≤ Wd.lcp (t.cps.toList.drop i) (t.cps.toList.drop j) ∧ σ = [some (.str t), some (.int (i : Int)), some (.int (j : Int)), some (.int ((t.length - max i j : Nat) : Int)), some (.int (c : Int))], ⟨t.length, rfl, 0, rfl, Nat.zero_le _, Nat.zero_le _, by rw [← e1]; rfl⟩, ?_⟩
  rintro m σ H2 ⟨rfl, c, rfl, hc1, hc2, rfl⟩
  have hm1 : max i j ≤ t.length := by omega
  refine ⟨_, rfl, _, rfl, _, _, rfl, rfl, _, rfl, ?_⟩
  refine ite2 (fun c1 => ?_) (fun c1 => ?_)
  · have c1' : (c : Int) < ((t.length - max i j : Nat) : Int) := of_decide_eq_true c1
    obtain ⟨a, ha, ha'⟩ := sign (k := i) (x := c) rfl (by omega)
    obtain ⟨b, hb, hb'⟩ := sign (k := j) (x := c) rfl (by omega)
    refine ⟨_, rfl, _, rfl, _, rfl, _, _, rfl, rfl, t, _, a, rfl, rfl, hz', ha', _, rfl, _, rfl, _, rfl, _, _, rfl, rfl, t, _, b, rfl, rfl, hz', hb', rfl, _, rfl, ?_⟩
    refine ite2 (fun c2 => ?_) (fun c2 => ?_)
    · have c2' : a = b := by
        have := of_decide_eq_true c2
        have e : (⟨#[a]⟩ : Str) = ⟨#[b]⟩ := by injection this
        have e3 := congrArg (fun x : Str => x.cps.toList) e
        have e4 : [a] = [b] := e3
        exact (List.cons.inj e4).1
      subst c2'
      refine ⟨fun σ' H' => ∃ m', m' < t.length - c ∧ _, fun _ _ h => h, ?_⟩
      exact ⟨_, rfl, _, _, rfl, rfl, t.length - (c + 1), by omega, rfl, c + 1, rfl, by omega, Wd.lcp_succ hc2 ha hb, rfl⟩
    · have c2' : a ≠ b := fun e => c2 (decide_eq_true (by rw [e]))
      have e2 : Wd.lcp (t.cps.toList.drop i) (t.cps.toList.drop j) = c := Nat.le_antisymm (Wd.lcp_stop ha hb c2') hc2
      rw [e2] at q
      exact ⟨_, rfl, q⟩
  · have c1' : ¬ (c : Int) < ((t.length - max i j : Nat) : Int) := fun h => c1 (decide_eq_true h)
    have e2 : Wd.lcp (t.cps.toList.drop i) (t.cps.toList.drop j) = c := by
      have h1 := Wd.lcp_le_left (t.cps.toList.drop i) (t.cps.toList.drop j)
      have h2 := Wd.lcp_le_right (t.cps.toList.drop i) (t.cps.toList.drop j)
      omega
    rw [e2] at q
    exact iteF ⟨_, rfl, q⟩
theorem zs_snoc (ms : List Nat) (i : Nat) : zs (ms ++ [i]) = zs ms ++ [V.int (i : Int)] := by unfold zs; rw [List.map_append, List.map_append]; rfl
theorem zs_get {ms : List Nat} {k : Nat} {x : V} (h : (zs ms)[k]? = some x) : ∃ i, ms[k]? = some i ∧ x = .int (i : Int) := by
  unfold zs at h
  rw [List.getElem?_map, List.getElem?_map] at h
  cases e : ms[k]? with
  | none => rw [e] at h; cases h
  | some i => rw [e] at h; cases h; exact ⟨i, rfl, rfl⟩
def sp_shared_ahead (T : Addr) : Sp := fun vs H Q _ => ∃ t : Str, vs = [.str t] ∧ t.length ≤ 1000 ∧ Tab lamPos lamQ T H ∧ ∀ (l : Addr) (ms : List Nat) (H' : Hp), SameBut T H H' → Tab lamPos lamQ T H' → H l = none → l ≠ T → Wd.Order t.cps.toList ms → H' l = some (.lst (zs (Wd.lcps [] (ms.map fun i => t.cps.toList.drop i)))) → Q (.ref l) H'
theorem ok_shared_ahead {T : Addr} (F : Fun K "shared_ahead" "shared_ahead" s_shared_ahead f fd) (G_ends : Has P w K mg base CX0 4 "ends" ["text"] (sp_ends T)) (G_shared_signs : Has P w K mg base CX0 2 "shared_signs" ["text", "one", "other"] sp_shared_signs) (m_enumerate : mg "enumerate" = none) : FnOk P w K mg base CX0 6 f fd ["text"] (sp_shared_ahead T) := by
  refine F.ok sc_shared_ahead (fun vs H Q E h => ?_) (fun cdv A outer s H vs Q E hr h => ?_)
  · obtain ⟨t, rfl, _⟩ := h
    rfl
  obtain ⟨t, rfl, hz, hT, q⟩ := h
  refine ⟨_, (pss_cons (ps_set (i := 1) sc_shared_ahead.nd rfl (Or.inl rfl) (pe_fun G_ends (hr.mono (by decide)) rfl (pa_cons (pv 0) pa_nil)))
    (pss_cons (ps_set (i := 2) sc_shared_ahead.nd rfl (Or.inl rfl) (pe_lst pa_nil))
    (pss_cons (ps_for PassesOwn.never rfl (pi_enum rfl m_enumerate (pa_cons (pv 1) pa_nil)) (pg_tup rfl (pgs_cons (pg_name (i := 3) sc_shared_ahead.nd rfl (Or.inl rfl)) (pgs_cons (pg_name (i := 4) sc_shared_ahead.nd rfl (Or.inl rfl)) pgs_nil))) (pss_one (ps_if (pt_cmpR op_eq (pv 3) pe_int (nomark _)) (pss_one (ps_expr (pe_bm PySem.F.plainAttrs_list PySem.F.slot_list_append PySem.F.type_list_append mt_append (pv 2) (pa_cons pe_int pa_nil)))) (pss_one (ps_expr (pe_bm PySem.F.plainAttrs_list PySem.F.slot_list_append PySem.F.type_list_append mt_append (pv 2) (pa_cons (pe_fun G_shared_signs (hr.mono (by decide)) rfl (pa_cons (pv 0) (pa_cons (pe_ix ix_list (pv 1) (pe_op op_sub (pv 3) pe_int) (fun _ _ => rfl)) (pa_cons (pv 4) pa_nil)))) pa_nil)))))))
    (pss_one (ps_ret (pv 2)))))), ?_⟩
  refine ⟨_, rfl, t, rfl, hz, hT, fun lo ms H1 sb1 tb1 nlo loT hlo ord => ?_⟩
  have hml : ms.length = t.length := by rw [ord.len, len_list]
  refine ⟨(by show 0 ≤ sizeLine; decide), fun ls nls => ?_⟩
  obtain ⟨oT, hTo⟩ := tb1.some
  have lsT : ls ≠ T := fun e => by rw [e, hTo] at nls; cases nls
  have lols : lo ≠ ls := ne_of_none hlo nls
  have nlsH : H ls = none := by
    cases e : H ls with
    | none => rfl
    | some o => rw [sb1 ls o lsT e] at nls; cases nls
  generalize hss : ms.map (fun i => t.cps.toList.drop i) = ss at q
  have hssl : ss.length = ms.length := by rw [← hss, List.length_map]
  have hsl : (Wd.lcps [] ss).length = ms.length := by rw [Wd.lcps_len, hssl]
  refine ⟨_, rfl, lo, rfl, ⟨_, by rw [upd_ne lols]; exact hlo⟩, for_enum (K := K) (a := lo) (xs := zs ms) (fun i σ H2 => ∃ x y, σ = [some (.str t), some (.ref lo), some (.ref ls), x, y] ∧ SameBut T H H2 ∧ Tab lamPos lamQ T H2 ∧ H2 lo = some (.lst (zs ms)) ∧ H2 ls = some (.lst (zs ((Wd.lcps [] ss).take i))))
    ⟨none, none, rfl, fun b o hb e => ?_, tb1.keep (same_new nls _), by rw [upd_ne lols]; exact hlo, upd_same⟩ (fun i σ H2 _ ⟨x, y, _, _, _, h, _⟩ => SqL.of h) ?_ ?_⟩
  · have := sb1 b o hb e
    rw [upd_ne (ne_of_none this nls)]; exact this
  · rintro i x σ H2 b hx ⟨x3, x4, rfl, sb2, tb2, hlo2, hls2⟩ nb
    obtain ⟨p, hp, rfl⟩ := zs_get hx
    have hil : i < ms.length := (List.getElem?_eq_some_iff.mp hp).1
    have gb := same_new nb (.tup [.int (i : Int), .int (p : Int)])
    refine ⟨b, _, rfl, SqT.of upd_same, rfl, _, _, rfl, _, _, rfl, rfl, ?_⟩
    refine ⟨_, rfl, rfl, _, rfl, ?_⟩
    -- what is put behind
    have fin : ∀ (v : Nat), (Wd.lcps [] ss)[i]? = some v → ∀ x3 x4 : Option V, ∃ x y, ([some (.str t), some (.ref lo), some (.ref ls), x3, x4] : St) = [some (.str t), some (.ref lo), some (.ref ls), x, y] ∧ SameBut T H (upd (upd H2 b (.tup [.int (i : Int), .int (p : Int)])) ls (.lst (zs ((Wd.lcps [] ss).take i) ++ [.int (v : Int)]))) ∧
        Tab lamPos lamQ T (upd (upd H2 b (.tup [.int (i : Int), .int (p : Int)])) ls (.lst (zs ((Wd.lcps [] ss).take i) ++ [.int (v : Int)]))) ∧ (upd (upd H2 b (.tup [.int (i : Int), .int (p : Int)])) ls (.lst (zs ((Wd.lcps [] ss).take i) ++ [.int (v : Int)]))) lo = some (.lst (zs ms)) ∧
        (upd (upd H2 b (.tup [.int (i : Int), .int (p : Int)])) ls (.lst (zs ((Wd.lcps [] ss).take i) ++ [.int (v : Int)]))) ls = some (.lst (zs ((Wd.lcps [] ss).take (i + 1)))) := fun v hv x3 x4 => by
      have notls : ∀ {c : Addr} {o : HO}, H2 c = some o → c ≠ ls → (upd (upd H2 b (.tup [.int (i : Int), .int (p : Int)])) ls (.lst (zs ((Wd.lcps [] ss).take i) ++ [.int (v : Int)]))) c = some o := fun {c o} h hc => by rw [upd_ne hc]; exact gb _ _ h
      refine ⟨x3, x4, rfl, fun c o hc e => ?_, ?_, notls hlo2 lols, ?_⟩
      · exact notls (sb2 c o hc e) (fun z => by rw [z, nlsH] at e; cases e)
      · rcases tb2 with h | ⟨c', h1, h2⟩
        · exact .inl (notls h (Ne.symm lsT))
        · exact .inr ⟨c', notls h1 (Ne.symm lsT), notls h2 (ne_of h2 hls2 (fun z => by cases z))⟩
      · rw [upd_same, List.take_add_one, hv, ← zs_snoc]; rfl
    have hls3 : upd H2 b (.tup [.int (i : Int), .int (p : Int)]) ls = some (.lst (zs ((Wd.lcps [] ss).take i))) := gb _ _ hls2
    have hlo3 : upd H2 b (.tup [.int (i : Int), .int (p : Int)]) lo = some (.lst (zs ms)) := gb _ _ hlo2
    have hsz : (zs ((Wd.lcps [] ss).take i)).length < sizeLine := by rw [zs_len, List.length_take]; exact small1000' (by omega)
    refine ite2 (fun c => ?_) (fun c => ?_)
    · have c' : (i : Int) = 0 := by have := of_decide_eq_true c; injection this
      have ei : i = 0 := by omega
      refine ⟨_, rfl, .inl ⟨rfl, _, SqL.of hls3⟩, ls, _, _, rfl, rfl, hls3, hsz, ?_⟩
      exact fin 0 (by rw [ei]; exact Wd.lcps_first (by omega)) _ _
    · have c' : i ≠ 0 := fun e => c (decide_eq_true (by rw [e]; rfl))
      obtain ⟨i', rfl⟩ := Nat.exists_eq_succ_of_ne_zero c'
      obtain ⟨p', hp'⟩ : ∃ p', ms[i']? = some p' := ⟨_, List.getElem?_eq_getElem (by omega)⟩
      refine ⟨_, rfl, .inl ⟨rfl, _, SqL.of hls3⟩, _, rfl, _, rfl, _, rfl, _, _, rfl, rfl, lo, _, _, _, rfl, rfl, SqL.of hlo3, zs_at hp' (by show ((i' + 1 : Nat) : Int) - 1 = _; omega), _, rfl, t, p', p, rfl, hz, by have := ord.lt hp'; rw [len_list] at this; exact this, by have := ord.lt hp; rw [len_list] at this; exact this, ls, _, _, rfl, rfl, hls3, hsz, ?_⟩
      refine fin _ (Wd.lcps_at (a := t.cps.toList.drop p') (b := t.cps.toList.drop p) ?_ ?_) _ _
      · rw [← hss, List.getElem?_map, hp']; rfl
      · rw [← hss, List.getElem?_map, hp]; rfl
  · rintro σ H2 ⟨x, y, rfl, sb2, tb2, hlo2, hls2⟩
    rw [zs_len] at hls2
    rw [List.take_of_length_le (by omega)] at hls2
    exact ⟨_, rfl, q ls ms H2 sb2 tb2 nlsH lsT ord (by rw [hss]; exact hls2)⟩
abbrev s_ends_and_shared : Stmt := top 8
theorem sc_ends_and_shared : FnScope ["text"] ["text"] (defScope s_ends_and_shared) := ⟨rfl, rfl, rfl, by decide +kernel, rfl, by decide +kernel, by decide +kernel⟩
/-- the ends in order, each with what it shares with the one ahead -/
def Rows (t : List Nat) (ms : List Nat) (H : Hp) (D : Addr) (Ta : Nat → Addr) : Prop := H D = some (.lst ((List.range t.length).map fun i => .ref (Ta i))) ∧
  ∀ i p c : Nat, ms[i]? = some p → (Wd.lcps [] (ms.map fun i => t.drop i))[i]? = some c → H (Ta i) = some (.tup [.int (p : Int), .int (c : Int)])
def sp_pairs (T : Addr) : Sp := fun vs H Q _ => ∃ t : Str, vs = [.str t] ∧ t.length ≤ 1000 ∧ Tab lamPos lamQ T H ∧ ∀ (D : Addr) (Ta : Nat → Addr) (ms : List Nat) (H' : Hp), SameBut T H H' → Tab lamPos lamQ T H' → Wd.Order t.cps.toList ms → H D = none → D ≠ T → Rows t.cps.toList ms H' D Ta → Q (.ref D) H'
theorem ok_pairs {T : Addr} (F : Fun K "ends_and_shared" "ends_and_shared" s_ends_and_shared f fd) (G_ends : Has P w K mg base CX0 4 "ends" ["text"] (sp_ends T)) (G_shared_ahead : Has P w K mg base CX0 6 "shared_ahead" ["text"] (sp_shared_ahead T)) (m_list : mg "list" = none) (m_zip : mg "zip" = none) : FnOk P w K mg base CX0 8 f fd ["text"] (sp_pairs T) := by
  refine F.ok sc_ends_and_shared (fun vs H Q E h => ?_) (fun cdv A outer s H vs Q E hr h => ?_)
  · obtain ⟨t, rfl, _⟩ := h
    rfl
  obtain ⟨t, rfl, hz, hT, q⟩ := h
  refine ⟨_, (pss_one (ps_ret (pe_list_zip rfl rfl rfl m_list m_zip (pa_cons (pe_fun G_ends (hr.mono (by decide)) rfl (pa_cons (pv 0) pa_nil)) (pa_cons (pe_fun G_shared_ahead (hr.mono (by decide)) rfl (pa_cons (pv 0) pa_nil)) pa_nil))))), ?_⟩
  refine ⟨_, rfl, t, rfl, hz, hT, fun lo ms H1 sb1 tb1 nlo loT hlo ord => ⟨_, rfl, t, rfl, hz, tb1, fun ls ms2 H2 sb2 tb2 nls lsT ord2 hls => ?_⟩⟩
  have e2 := ord2.uniq ord
  subst e2
  have hml : ms2.length = t.length := by rw [ord.len, len_list]
  have hcl : (Wd.lcps [] (ms2.map fun i => t.cps.toList.drop i)).length = t.length := by rw [Wd.lcps_len, List.length_map, hml]
  refine ⟨lo, ls, _, _, rfl, SqL.of (sb2 _ _ loT hlo), SqL.of hls, fun D Ta H3 g3 nD htup hD => ?_⟩
  obtain ⟨oT, hTo⟩ := tb2.some
  have DT : D ≠ T := fun e => by rw [e, hTo] at nD; cases nD
  refine q D Ta ms2 H3 (fun b o hb e => g3 _ _ (sb2 b o hb (sb1 b o hb e))) (tb2.keep g3) ord ?_ DT ⟨?_, fun i p c h1 h2 => ?_⟩
  · cases e : H D with
    | none => rfl
    | some o => rw [sb2 D o DT (sb1 D o DT e)] at nD; cases nD
  · rw [hD, zs_len, zs_len, hml, hcl, Nat.min_self, len_list]
  · refine (htup i (.int (p : Int)) (.int (c : Int)) ?_ ?_).2
    · unfold zs; rw [List.getElem?_map, List.getElem?_map, h1]; rfl
    · unfold zs; rw [List.getElem?_map, List.getElem?_map, h2]; rfl
abbrev s_how_many_words : Stmt := top 9
theorem sc_how_many_words : FnScope ["text"] ["text"] (defScope s_how_many_words) := ⟨rfl, rfl, rfl, by decide +kernel, rfl, by decide +kernel, by decide +kernel⟩
def sp_how_many (T : Addr) : Sp := fun vs H Q _ => ∃ t : Str, vs = [.str t] ∧ t.length ≤ 1000 ∧ Tab lamPos lamQ T H ∧ ∀ (ms : List Nat) (H' : Hp), SameBut T H H' → Tab lamPos lamQ T H' → Wd.Order t.cps.toList ms → Q (.int (((Wd.blk [] (ms.map fun i => t.cps.toList.drop i)).length : Nat) : Int)) H'
theorem ok_how_many {T : Addr} (F : Fun K "how_many_words" "how_many_words" s_how_many_words f fd) (G_ends_and_shared : Has P w K mg base CX0 8 "ends_and_shared" ["text"] (sp_pairs T)) (m_len : mg "len" = none) (m_sum : mg "sum" = none) : FnOk P w K mg base CX0 10 f fd ["text"] (sp_how_many T) := by
  refine F.ok sc_how_many_words (fun vs H Q E h => ?_) (fun cdv A outer s H vs Q E hr h => ?_)
  · obtain ⟨t, rfl, _⟩ := h
    rfl
  obtain ⟨t, rfl, hz, hT, q⟩ := h
  refine ⟨_, (pss_one (ps_ret (pe_callB (call_sum_ints rfl) rfl m_sum bSum (pa_cons (pe_comp2 (x := "place") (y := "shared") (N := ["text"]) (js := [0]) (cl := [("text", s.heap.objs.size + 1)]) ⟨rfl, by decide +kernel, rfl, by decide +kernel, rfl, rfl, by decide +kernel, ⟨rfl, trivial⟩, rfl, ⟨⟨rfl, rfl, rfl, rfl⟩, trivial⟩⟩ rfl (pi_list (pe_fun G_ends_and_shared (hr.mono (by decide)) rfl (pa_cons (pv 0) pa_nil))) (fun _ _ _ _ => pf_nil) (fun _ _ _ _ => (pe_op op_sub (pe_op op_sub (pe_callB call_len_str rfl m_len PySem.boot_len (pa_cons (pv 2) pa_nil)) (pv 0)) (pv 1)))) pa_nil)))), ?_⟩
  have hz' : t.length ≤ sizeLine := small63 (by omega)
  refine ⟨_, rfl, t, rfl, hz, hT, fun D Ta ms H1 sb1 tb1 ord nD DT hR => ?_⟩
  obtain ⟨hD, hrow⟩ := hR
  have hml : ms.length = t.length := by rw [ord.len, len_list]
  generalize hss : ms.map (fun i => t.cps.toList.drop i) = ss at q hrow
  have hssl : ss.length = t.length := by rw [← hss, List.length_map, hml]
  generalize hcs : Wd.lcps [] ss = cs at hrow
  have hcl : cs.length = t.length := by rw [← hcs, Wd.lcps_len, hssl]
  rw [len_list] at hD
  have gm : ∀ i, i < t.length → ms[i]? = some (ms.getD i 0) := fun i hi => by rw [List.getD_eq_getElem?_getD, List.getElem?_eq_getElem (by omega)]; rfl
  have gc : ∀ i, i < t.length → cs[i]? = some (cs.getD i 0) := fun i hi => by rw [List.getD_eq_getElem?_getD, List.getElem?_eq_getElem (by omega)]; rfl
  have hlen : ((List.range t.length).map fun i => V.ref (Ta i)).length = t.length := by rw [List.length_map, List.length_range]
  refine ⟨D, rfl, ⟨_, SqL.of hD⟩, comp2_f (n := t.length) Ta (fun i => V.int ((ms.getD i 0 : Nat) : Int)) (fun i => V.int ((cs.getD i 0 : Nat) : Int)) (f := fun i => V.int ((t.length : Int) - ((ms.getD i 0 : Nat) : Int) - ((cs.getD i 0 : Nat) : Int))) (fun i H hi g => itl_go hD i H (by omega) g) (fun i H v H' hi g y => itl_yl hD (x := fun i => V.ref (Ta i)) (fun i v hv => ?_) i H v H' (by omega) g y) (fun H g => by have := itl_st (K := K) hD H g; rwa [hlen] at this) hz' (fun i hi => hrow i _ _ (gm i hi) (gc i hi)) (fun i hi H2 R g2 hR => ?_) fun E1 H2 nE g2 hE => ?_⟩
  · rw [List.getElem?_map] at hv
    cases e : (List.range t.length)[i]? with
    | none => rw [e] at hv; cases hv
    | some j =>
      rw [e] at hv
      have := List.getElem?_eq_some_iff.mp e
      obtain ⟨h1, h2⟩ := this
      rw [List.getElem_range] at h2
      subst h2
      exact (Option.some.inj hv).symm
  · exact ⟨_, rfl, t, rfl, hz', _, rfl, _, _, rfl, rfl, _, rfl, _, _, rfl, rfl, hR H2 (Same.refl _)⟩
  · refine ⟨E1, (List.range t.length).map fun i => (t.length : Int) - ((ms.getD i 0 : Nat) : Int) - ((cs.getD i 0 : Nat) : Int), rfl, SqL.of (by rw [hE, List.map_map]; rfl), ?_⟩
    have es : ((List.range t.length).map fun i => (t.length : Int) - ((ms.getD i 0 : Nat) : Int) - ((cs.getD i 0 : Nat) : Int)).sum = (((Wd.blk [] ss).length : Nat) : Int) := by
      rw [Wd.blk_len2, hcs, ← Wd.cast_sum]
      congr 1
      refine List.ext_getElem? fun i => ?_
      rcases Nat.lt_or_ge i t.length with hi | hi
      · have hs : ss[i]? = some (t.cps.toList.drop (ms.getD i 0)) := by rw [← hss, List.getElem?_map, gm i hi]; rfl
        rw [List.getElem?_map, List.getElem?_map, Wd.zip_at hs (gc i hi), List.getElem?_range hi]
        have hp := ord.lt (gm i hi)
        rw [len_list] at hp
        have hc : cs.getD i 0 ≤ (t.cps.toList.drop (ms.getD i 0)).length := by
          obtain ⟨s', h1, h2⟩ := Wd.lcps_get (prev := []) (ss := ss) (by rw [hcs]; exact gc i hi)
          rw [hs] at h1
          cases h1
          exact h2
        rw [List.length_drop, len_list] at hc
        show some _ = some _
        congr 1
        rw [List.length_drop, len_list]
        dsimp only
        omega
      · rw [List.getElem?_eq_none (by rw [List.length_map, List.length_range]; exact hi), List.getElem?_eq_none (by rw [List.length_map, List.length_zipWith]; omega)]
    rw [es]
    have := q ms H2 (fun b o hb e => g2 _ _ (sb1 b o hb e)) (tb1.keep g2) ord
    rw [hss] at this
    exact this
abbrev s_word_at : Stmt := top 10
theorem sc_word_at : FnScope ["text", "number", "ahead", "place", "shared", "fresh"] ["text", "number"] (defScope s_word_at) := ⟨rfl, rfl, rfl, by decide +kernel, rfl, by decide +kernel, by decide +kernel⟩
abbrev s_number_of : Stmt := top 11
theorem sc_number_of : FnScope ["text", "word", "ahead", "place", "shared"] ["text", "word"] (defScope s_number_of) := ⟨rfl, rfl, rfl, by decide +kernel, rfl, by decide +kernel, by decide +kernel⟩
theorem rows_of {t : List Nat} {ms : List Nat} (ord : Wd.Order t ms) {i : Nat} (hi : i < t.length) : ∃ p c, ms[i]? = some p ∧ p < t.length ∧ (Wd.lcps [] (ms.map fun i => t.drop i))[i]? = some c ∧ (ms.map fun i => t.drop i)[i]? = some (t.drop p) ∧ c ≤ t.length - p := by
  have hml := ord.len
  have hcl : (Wd.lcps [] (ms.map fun i => t.drop i)).length = t.length := by rw [Wd.lcps_len, List.length_map, hml]
  obtain ⟨p, hp⟩ : ∃ p, ms[i]? = some p := ⟨_, List.getElem?_eq_getElem (by omega)⟩
  obtain ⟨c, hc⟩ : ∃ c, (Wd.lcps [] (ms.map fun i => t.drop i))[i]? = some c := ⟨_, List.getElem?_eq_getElem (by omega)⟩
  have hs : (ms.map fun i => t.drop i)[i]? = some (t.drop p) := by rw [List.getElem?_map, hp]; rfl
  obtain ⟨s', h1, h2⟩ := Wd.lcps_get hc
  rw [hs] at h1
  cases h1
  rw [List.length_drop] at h2
  exact ⟨p, c, hp, ord.lt hp, hc, hs, h2⟩
/-- how many words begin ahead of the i-th end -/
def aheadN (t ms : List Nat) (i : Nat) : Nat := ((List.zipWith (fun (s : Wd.W) c => s.length - c) (ms.map fun i => t.drop i) (Wd.lcps [] (ms.map fun i => t.drop i))).take i).sum
theorem ahead_succ {t ms : List Nat} {i p c : Nat} (hc : (Wd.lcps [] (ms.map fun i => t.drop i))[i]? = some c) (hs : (ms.map fun i => t.drop i)[i]? = some (t.drop p)) : aheadN t ms (i + 1) = aheadN t ms i + (t.length - p - c) := by
  unfold aheadN
  rw [Wd.sum_take (Wd.zip_at hs hc), List.length_drop]
theorem ahead_all {t ms : List Nat} (ord : Wd.Order t ms) : aheadN t ms t.length = (Wd.blk [] (ms.map fun i => t.drop i)).length := by
  unfold aheadN
  rw [Wd.blk_len2, List.take_of_length_le]
  rw [List.length_zipWith, Wd.lcps_len, List.length_map, ord.len]; omega
def sp_word_at (C T : Addr) : Sp := fun vs H Q E => ∃ (t : Str) (z : Int), vs = [.str t, .int z] ∧ t.length ≤ 1000 ∧ Tab lamPos lamQ T H ∧
  (∀ (n : Nat) (u : Str) (ms : List Nat) (H' : Hp), z = (n : Int) → SameBut T H H' → Tab lamPos lamQ T H' → Wd.Order t.cps.toList ms → (Wd.blk [] (ms.map fun i => t.cps.toList.drop i))[n]? = some u.cps.toList → u.length ≤ 1000 → Q (.str u) H') ∧
  (∀ H' : Hp, SameBut T H H' → Tab lamPos lamQ T H' → (z < 0 ∨ ∃ ms, Wd.Order t.cps.toList ms ∧ (((Wd.blk [] (ms.map fun i => t.cps.toList.drop i)).length : Nat) : Int) ≤ z) → E (.ref C) none H')
theorem ok_word_at {C CE T : Addr} (F : Fun K "word_at" "word_at" s_word_at f fd) (X_NoWord : Errs K mg "NoWord" C CE) (G_ends_and_shared : Has P w K mg base CX0 8 "ends_and_shared" ["text"] (sp_pairs T)) (m_len : mg "len" = none) : FnOk P w K mg base (CX1 P w) 10 f fd ["text", "number"] (sp_word_at C T) := by
  refine F.okX (k := 9) sc_word_at (fun vs H Q E h => ?_) (fun cdv A outer s H vs Q E hr h => ?_)
  · obtain ⟨t, z, rfl, _⟩ := h
    rfl
  obtain ⟨t, z, rfl, hz, hT, q, qe⟩ := h
  refine ⟨_, (pss_cons (ps_if (pt_cmpR op_lt (pv 1) pe_int (nomark _)) (pss_one (ps_raise X_NoWord.own rfl X_NoWord.n (pa_cons pe_str pa_nil))) pss_nil)
    (pss_cons (ps_set (i := 2) sc_word_at.nd rfl (Or.inl rfl) pe_int)
    (pss_cons (PS.nox (ps_for PassesOwn.never rfl (pi_list (pe_fun G_ends_and_shared (hr.mono (by decide)) rfl (pa_cons (pv 0) pa_nil))) (pg_tup rfl (pgs_cons (pg_name (i := 3) sc_word_at.nd rfl (Or.inl rfl)) (pgs_cons (pg_name (i := 4) sc_word_at.nd rfl (Or.inl rfl)) pgs_nil))) (pss_cons (ps_set (i := 5) sc_word_at.nd rfl (Or.inl rfl) (pe_op op_sub (pe_op op_sub (pe_callB call_len_str rfl m_len PySem.boot_len (pa_cons (pv 0) pa_nil)) (pv 3)) (pv 4)))
    (pss_cons (ps_if (pt_cmpR op_lt (pv 1) (pe_op op_add (pv 2) (pv 5)) (nomark _)) (pss_one (ps_ret (pe_slice sl_str (pv 0) (po_some (pv 3)) (po_some (pe_op op_sub (pe_op op_add (pe_op op_add (pe_op op_add (pv 3) (pv 4)) pe_int) (pv 1)) (pv 2)))))) pss_nil)
    (pss_one (ps_aug (i := 2) sc_word_at.nd rfl (Or.inl rfl) (pv 5) ip_add))))))
    (pss_one (ps_raise X_NoWord.own rfl X_NoWord.n (pa_cons pe_str pa_nil)))))), ?_⟩
  have hz' : t.length ≤ sizeLine := small63 (by omega)
  have hlen : t.cps.toList.length = t.length := len_list t
  refine ⟨_, rfl, _, _, rfl, rfl, _, rfl, ?_⟩
  refine ite2 (fun c0 => ⟨(by show 1 ≤ 1000; decide), qe _ (fun _ _ _ e => e) hT (.inl (of_decide_eq_true c0))⟩) (fun c0 => ?_)
  obtain ⟨n, rfl⟩ : ∃ n : Nat, z = (n : Int) := ⟨z.toNat, by have : ¬ z < 0 := fun h => c0 (decide_eq_true h); omega⟩
  refine ⟨_, rfl, t, rfl, hz, hT, fun D Ta ms H1 sb1 tb1 ord nD DT hR => ?_⟩
  obtain ⟨hD, hrow⟩ := hR
  rw [hlen] at hD
  have hxl : ((List.range t.length).map fun i => V.ref (Ta i)).length = t.length := by rw [List.length_map, List.length_range]
  refine ⟨D, rfl, ⟨_, SqL.of hD⟩, for_list (K := K) (a := D) (xs := (List.range t.length).map fun i => V.ref (Ta i)) (fun i σ H2 => H2 = H1 ∧ aheadN t.cps.toList ms i ≤ n ∧ ∃ x y z : Option V, σ = [some (.str t), some (.int (n : Int)), some (.int ((aheadN t.cps.toList ms i : Nat) : Int)), x, y, z]) ⟨rfl, Nat.zero_le _, none, none, none, rfl⟩ (fun i σ H2 _ h => by rw [h.1]; exact SqL.of hD) ?_ ?_⟩
  · rintro i v σ H2 hv ⟨rfl, hSn, x, y, z, rfl⟩
    have hi : i < t.length := by have := (List.getElem?_eq_some_iff.mp hv).1; rw [hxl] at this; exact this
    rw [List.getElem?_map, List.getElem?_range hi] at hv
    cases hv
    obtain ⟨p, c, hp, hpl, hc, hs, hcl⟩ := rows_of ord (i := i) (by rw [hlen]; exact hi)
    rw [hlen] at hpl hcl
    have hr := hrow i p c hp hc
    have hsucc := ahead_succ hc hs
    rw [hlen] at hsucc
    refine ⟨Ta i, _, rfl, SqT.of hr, rfl, _, _, rfl, _, _, rfl, rfl, ?_⟩
    refine ⟨_, rfl, t, rfl, hz', _, rfl, _, _, rfl, rfl, _, rfl, _, _, rfl, rfl, ?_⟩
    refine ⟨_, rfl, _, rfl, _, rfl, _, _, rfl, rfl, _, _, rfl, rfl, _, rfl, ?_⟩
    refine ite2 (fun c1 => ?_) (fun c1 => ?_)
    · have c1' : (n : Int) < ((aheadN t.cps.toList ms i : Nat) : Int) + ((t.length : Int) - (p : Int) - (c : Int)) := of_decide_eq_true c1
      have hat := Wd.blk_at (prev := []) (n := n) hs hc hSn (by
        show n < aheadN t.cps.toList ms i + _
        rw [List.length_drop, hlen]; omega)
      refine ⟨_, rfl, _, rfl, _, rfl, _, rfl, _, rfl, _, _, rfl, rfl, _, _, rfl, rfl, _, rfl, _, _, rfl, rfl, _, rfl, _, _, rfl, rfl, _, rfl, t, rfl, hz', ?_⟩
      dsimp only
      rw [show (p : Int) + (c : Int) + 1 + (n : Int) - ((aheadN t.cps.toList ms i : Nat) : Int) = ((p + (c + (n - aheadN t.cps.toList ms i) + 1) : Nat) : Int) by omega]
      refine q n _ ms _ rfl sb1 tb1 ord ?_ (Nat.le_trans (Txt.slice_le _ _ _) hz)
      rw [hat, piece_cps, Wd.cut_take]; rfl
    · have c1' : ¬ (n : Int) < ((aheadN t.cps.toList ms i : Nat) : Int) + ((t.length : Int) - (p : Int) - (c : Int)) := fun h => c1 (decide_eq_true h)
      refine ⟨_, rfl, _, rfl, _, _, rfl, rfl, rfl, by omega, some (.int (p : Int)), some (.int (c : Int)), some (.int ((t.length : Int) - (p : Int) - (c : Int))), ?_⟩
      rw [hsucc, show ((aheadN t.cps.toList ms i + (t.length - p - c) : Nat) : Int) = ((aheadN t.cps.toList ms i : Nat) : Int) + ((t.length : Int) - (p : Int) - (c : Int)) by omega]
      rfl
  · rintro σ H2 ⟨rfl, hSn, _⟩
    rw [hxl, ← hlen, ahead_all ord] at hSn
    exact ⟨(by show 1 ≤ 1000; decide), qe _ sb1 tb1 (.inr ⟨ms, ord, by omega⟩)⟩
def sp_number_of (C T : Addr) : Sp := fun vs H Q E => ∃ (t u : Str), vs = [.str t, .str u] ∧ t.length ≤ 1000 ∧ u.length ≤ 2000 ∧ Tab lamPos lamQ T H ∧
  (∀ H' : Hp, SameBut T H H' → Tab lamPos lamQ T H' → (u.cps.toList = [] ∨ ∀ k, k < t.length → ¬ u.cps.toList <+: t.cps.toList.drop k) → E (.ref C) none H') ∧
  ∀ (n : Nat) (ms : List Nat) (H' : Hp), SameBut T H H' → Tab lamPos lamQ T H' → Wd.Order t.cps.toList ms → (Wd.blk [] (ms.map fun i => t.cps.toList.drop i))[n]? = some u.cps.toList → Q (.int (n : Int)) H'
theorem starts_pre (t u : Str) (p : Nat) : Txt.startswith3 t u ((p : Nat) : Int) = true ↔ u.cps.toList <+: t.cps.toList.drop p ∧ p + u.length ≤ t.length := by
  rw [starts_cps, decide_eq_true_eq]
  constructor
  · rintro ⟨h1, h2⟩
    exact ⟨by rw [← h2]; exact List.take_prefix _ _, h1⟩
  · rintro ⟨h1, h2⟩
    refine ⟨h2, ?_⟩
    rw [← len_list u]
    exact (List.prefix_iff_eq_take.mp h1).symm
theorem ok_number_of {C CE T : Addr} (F : Fun K "number_of" "number_of" s_number_of f fd) (X_NoWord : Errs K mg "NoWord" C CE) (G_ends_and_shared : Has P w K mg base CX0 8 "ends_and_shared" ["text"] (sp_pairs T)) (m_len : mg "len" = none) : FnOk P w K mg base (CX1 P w) 10 f fd ["text", "word"] (sp_number_of C T) := by
  refine F.okX (k := 9) sc_number_of (fun vs H Q E h => ?_) (fun cdv A outer s H vs Q E hr h => ?_)
  · obtain ⟨t, u, rfl, _⟩ := h
    rfl
  obtain ⟨t, u, rfl, hz, hul, hT, qe, q⟩ := h
  refine ⟨_, (pss_cons (ps_if (pt_cmpR op_eq (pv 1) pe_str (nomark _)) (pss_one (ps_raise X_NoWord.own rfl X_NoWord.n (pa_cons pe_str pa_nil))) pss_nil)
    (pss_cons (ps_set (i := 2) sc_number_of.nd rfl (Or.inl rfl) pe_int)
    (pss_cons (PS.nox (ps_for PassesOwn.never rfl (pi_list (pe_fun G_ends_and_shared (hr.mono (by decide)) rfl (pa_cons (pv 0) pa_nil))) (pg_tup rfl (pgs_cons (pg_name (i := 3) sc_number_of.nd rfl (Or.inl rfl)) (pgs_cons (pg_name (i := 4) sc_number_of.nd rfl (Or.inl rfl)) pgs_nil))) (pss_cons (ps_if (pt_val (pe_bm PySem.F.plainAttrs_str PySem.F.slot_str_startswith PySem.F.type_str_startswith mt_startswith (pv 0) (pa_cons (pv 1) (pa_cons (pv 3) pa_nil)))) (pss_one (ps_ret (pe_op op_sub (pe_op op_sub (pe_op op_add (pv 2) (pe_callB call_len_str rfl m_len PySem.boot_len (pa_cons (pv 1) pa_nil))) (pv 4)) pe_int))) pss_nil)
    (pss_one (ps_aug (i := 2) sc_number_of.nd rfl (Or.inl rfl) (pe_op op_sub (pe_op op_sub (pe_callB call_len_str rfl m_len PySem.boot_len (pa_cons (pv 0) pa_nil)) (pv 3)) (pv 4)) ip_add)))))
    (pss_one (ps_raise X_NoWord.own rfl X_NoWord.n (pa_cons pe_str pa_nil)))))), ?_⟩
  have hz' : t.length ≤ sizeLine := small63 (by omega)
  have hu' : u.length ≤ sizeLine := small63 (by omega)
  have hlen : t.cps.toList.length = t.length := len_list t
  have hulen : u.cps.toList.length = u.length := len_list u
  refine ⟨_, rfl, rfl, _, rfl, ?_⟩
  refine ite2 (fun c0 => ⟨(by show 1 ≤ 1000; decide), qe _ (fun _ _ _ e => e) hT (.inl (by have e := of_decide_eq_true c0; cases e; exact str_nil))⟩) (fun c0 => ?_)
  have hu0 : u.cps.toList ≠ [] := fun h => c0 (decide_eq_true (by rw [str_eq.mpr (h.trans str_nil.symm)]))
  refine ⟨_, rfl, t, rfl, hz, hT, fun D Ta ms H1 sb1 tb1 ord nD DT hR => ?_⟩
  obtain ⟨hD, hrow⟩ := hR
  rw [hlen] at hD
  have hxl : ((List.range t.length).map fun i => V.ref (Ta i)).length = t.length := by rw [List.length_map, List.length_range]
  refine ⟨D, rfl, ⟨_, SqL.of hD⟩, for_list (K := K) (a := D) (xs := (List.range t.length).map fun i => V.ref (Ta i)) (fun i σ H2 => H2 = H1 ∧ (∀ j a, j < i → (ms.map fun i => t.cps.toList.drop i)[j]? = some a → ¬ u.cps.toList <+: a) ∧ ∃ x y : Option V, σ = [some (.str t), some (.str u), some (.int ((aheadN t.cps.toList ms i : Nat) : Int)), x, y]) ⟨rfl, fun j a hj => by omega, none, none, rfl⟩ (fun i σ H2 _ h => by rw [h.1]; exact SqL.of hD) ?_ ?_⟩
  · rintro i v σ H2 hv ⟨rfl, hno, x, y, rfl⟩
    have hi : i < t.length := by have := (List.getElem?_eq_some_iff.mp hv).1; rw [hxl] at this; exact this
    rw [List.getElem?_map, List.getElem?_range hi] at hv
    cases hv
    obtain ⟨p, c, hp, hpl, hc, hs, hcl⟩ := rows_of ord (i := i) (by rw [hlen]; exact hi)
    rw [hlen] at hpl hcl
    have hr := hrow i p c hp hc
    have hsucc := ahead_succ hc hs
    rw [hlen] at hsucc
    refine ⟨Ta i, _, rfl, SqT.of hr, rfl, _, _, rfl, _, _, rfl, rfl, ?_⟩
    refine ⟨_, rfl, rfl, _, rfl, _, rfl, t, u, _, rfl, rfl, _, rfl, ?_⟩
    refine ite2 (fun c1 => ?_) (fun c1 => ?_)
    · obtain ⟨c2, c3⟩ := (starts_pre t u p).mp c1
      obtain ⟨b1, b2⟩ := Wd.blk_first (prev := []) hs hc c2 (fun h => hu0 (List.prefix_nil.mp h)) hno
      rw [hulen] at b1
      refine ⟨_, rfl, _, rfl, u, rfl, hu', _, _, rfl, rfl, _, rfl, _, _, rfl, rfl, _, _, rfl, rfl, ?_⟩
      have b2' : (Wd.blk [] (ms.map fun i => t.cps.toList.drop i))[aheadN t.cps.toList ms i + u.cps.toList.length - c - 1]? = some u.cps.toList := b2
      rw [hulen] at b2'
      have := q _ ms _ sb1 tb1 ord b2'
      rw [show ((aheadN t.cps.toList ms i + u.length - c - 1 : Nat) : Int) = ((aheadN t.cps.toList ms i : Nat) : Int) + (u.length : Int) - (c : Int) - 1 by omega] at this
      exact this
    · refine ⟨_, rfl, _, rfl, t, rfl, hz', _, rfl, _, _, rfl, rfl, _, rfl, _, _, rfl, rfl, _, _, rfl, rfl, rfl, fun j a hj ha => ?_, some (.int (p : Int)), some (.int (c : Int)), ?_⟩
      · rcases Nat.lt_or_ge j i with g | g
        · exact hno j a g ha
        · have ej : j = i := by omega
          subst ej
          rw [hs] at ha
          cases ha
          intro h
          have hle := h.length_le
          rw [List.length_drop, hlen, hulen] at hle
          exact c1 ((starts_pre t u p).mpr ⟨h, by omega⟩)
      · rw [hsucc, show ((aheadN t.cps.toList ms i + (t.length - p - c) : Nat) : Int) = ((aheadN t.cps.toList ms i : Nat) : Int) + ((t.length : Int) - (p : Int) - (c : Int)) by omega]
        rfl
  · rintro σ H2 ⟨rfl, hno, _⟩
    refine ⟨(by show 1 ≤ 1000; decide), qe _ sb1 tb1 (.inr fun k hk hpre => ?_)⟩
    obtain ⟨r, hr⟩ := ord.get (i := k) (by rw [hlen]; exact hk)
    have hrl := (List.getElem?_eq_some_iff.mp hr).1
    rw [hxl] at hno
    exact hno r _ (by rw [ord.len, hlen] at hrl; exact hrl) (by rw [List.getElem?_map, hr]; rfl) hpre
abbrev s_law_words_in : Stmt := top 16
theorem sc_law_words_in : FnScope ["_law_text", "_law_words", "_law_k", "_law_j"] ["_law_text"] (defScope s_law_words_in) := ⟨rfl, rfl, rfl, by decide +kernel, rfl, by decide +kernel, by decide +kernel⟩
theorem slice_mem {t : Str} {k j : Nat} (h1 : k < j) (h2 : j ≤ t.length) : (Txt.slice t (some ((k : Nat) : Int)) (some ((j : Nat) : Int))).cps.toList ≠ [] ∧ (Txt.slice t (some ((k : Nat) : Int)) (some ((j : Nat) : Int))).cps.toList <+: t.cps.toList.drop k := by
  have hl := len_list t
  rw [piece_cps, show j = k + (j - k) by omega, Wd.cut_take]
  refine ⟨fun h => ?_, List.take_prefix _ _⟩
  have := congrArg List.length h
  rw [List.length_take, List.length_drop] at this
  simp only [List.length_nil] at this
  omega
theorem slice_of {t : Str} {k : Nat} {u : Str} (h0 : u.cps.toList ≠ []) (h : u.cps.toList <+: t.cps.toList.drop k) : k + u.length ≤ t.length ∧ 0 < u.length ∧ u = Txt.slice t (some ((k : Nat) : Int)) (some ((k + u.length : Nat) : Int)) := by
  have hl := h.length_le
  have hp : 0 < u.cps.toList.length := List.length_pos_iff.mpr h0
  rw [List.length_drop, len_list, len_list] at hl
  rw [len_list] at hp
  refine ⟨by omega, hp, str_eq.mpr ?_⟩
  rw [piece_cps, Wd.cut_take, ← len_list u]
  exact List.prefix_iff_eq_take.mp h
/-- the words of t, by its ends -/
def WordOf (t : Str) (u : Str) : Prop := u.cps.toList ≠ [] ∧ ∃ k, k < t.length ∧ u.cps.toList <+: t.cps.toList.drop k
def sp_words_in : Sp := fun vs H Q _ => ∃ t : Str, vs = [.str t] ∧ t.length ≤ 63 ∧ ∀ (l : Addr) (zs : List Str) (H' : Hp), Same H H' → H l = none → H' l = some (.lst (zs.map V.str)) → zs.Nodup → PyProof.Rows.sortedS zs = true → (∀ u, u ∈ zs ↔ WordOf t u) → Q (.ref l) H'
theorem ok_words_in (F : Fun K "_law_words_in" "_law_words_in" s_law_words_in f fd) (m_len : mg "len" = none) (m_range : mg "range" = none) (m_sorted : mg "sorted" = none) (m_set : mg "set" = none) : FnOk P w K mg base CX0 2 f fd ["_law_text"] sp_words_in := by
  refine (F.ok (k := 1) sc_law_words_in (fun vs H Q E h => ?_) (fun cdv A outer s H vs Q E hr h => ?_))
  · obtain ⟨t, rfl, _⟩ := h
    rfl
  obtain ⟨t, rfl, hz, q⟩ := h
  refine ⟨_, (pss_cons (ps_set (i := 1) sc_law_words_in.nd rfl (Or.inl rfl) (pe_lst pa_nil))
    (pss_cons (ps_for PassesOwn.never rfl (pi_range1 rfl m_range (pa_cons (pe_callB call_len_str rfl m_len PySem.boot_len (pa_cons (pv 0) pa_nil)) pa_nil)) (pg_name (i := 2) sc_law_words_in.nd rfl (Or.inl rfl)) (pss_one (ps_for PassesOwn.never rfl (pi_range2 rfl m_range (pa_cons (pe_op op_add (pv 2) pe_int) (pa_cons (pe_op op_add (pe_callB call_len_str rfl m_len PySem.boot_len (pa_cons (pv 0) pa_nil)) pe_int) pa_nil))) (pg_name (i := 3) sc_law_words_in.nd rfl (Or.inl rfl)) (pss_one (ps_expr (pe_bm PySem.F.plainAttrs_list PySem.F.slot_list_append PySem.F.type_list_append mt_append (pv 1) (pa_cons (pe_slice sl_str (pv 0) (po_some (pv 2)) (po_some (pv 3))) pa_nil)))))))
    (pss_one (ps_ret (pe_sorted_set rfl rfl rfl m_sorted m_set (pa_cons (pv 1) pa_nil)))))), ?_⟩
  have hz' : t.length ≤ sizeLine := small63 (by omega)
  refine ⟨(by show 0 ≤ sizeLine; decide), fun l nl => ?_⟩
  have g0 := same_new nl (.lst [])
  have hl0 : upd H l (.lst []) l = some (.lst (([] : List Str).map V.str)) := upd_same
  generalize upd H l (.lst []) = H0 at g0 hl0
  refine ⟨_, rfl, t, rfl, hz', _, rfl, by omega, by omega, ?_⟩
  refine for_range (n := t.length) (Pv := fun i σ H2 => ∃ (ys : List Str) (x y : Option V), σ = [some (.str t), some (.ref l), x, y] ∧ Same H H2 ∧ H2 l = some (.lst (ys.map V.str)) ∧ ys.length ≤ i * 63 ∧ ∀ u, u ∈ ys ↔ ∃ k j : Nat, k < i ∧ k < j ∧ j ≤ t.length ∧ u = Txt.slice t (some ((k : Nat) : Int)) (some ((j : Nat) : Int))) ⟨[], none, none, rfl, g0, hl0, Nat.zero_le _, fun u => ⟨fun h => (by simp at h), fun ⟨k, j, h, _⟩ => by omega⟩⟩ ?_ ?_
  · rintro i σ H2 hi ⟨ys, x, y, rfl, g2, hl2, hyl, hys⟩
    have ei : (0 : Int) + (i : Int) = ((i : Nat) : Int) := by omega
    rw [ei]
    refine ⟨_, rfl, _, _, rfl, rfl, _, rfl, t, rfl, hz', _, _, rfl, rfl, _, _, rfl, ⟨by omega, by omega, by omega, by omega⟩, ?_⟩
    have e1 : ∀ m : Nat, ((i : Nat) : Int) + 1 + (m : Int) = ((i + 1 + m : Nat) : Int) := fun m => by omega
    have en : ((t.length : Int) + 1 - (((i : Nat) : Int) + 1)).toNat = t.length - i := by omega
    refine for_range (Pv := fun m σ H3 => ∃ (ys : List Str) (x : Option V), σ = [some (.str t), some (.ref l), some (.int ((i : Nat) : Int)), x] ∧ Same H H3 ∧ H3 l = some (.lst (ys.map V.str)) ∧ ys.length ≤ i * 63 + m ∧ ∀ u, u ∈ ys ↔ ∃ k j : Nat, k < j ∧ j ≤ t.length ∧ (k < i ∨ (k = i ∧ j ≤ i + m)) ∧ u = Txt.slice t (some ((k : Nat) : Int)) (some ((j : Nat) : Int))) ⟨ys, y, rfl, g2, hl2, hyl, fun u => ?_⟩ ?_ ?_
    · rw [hys u]
      constructor
      · rintro ⟨k, j, h1, h2, h3, h4⟩
        exact ⟨k, j, h2, h3, .inl h1, h4⟩
      · rintro ⟨k, j, h2, h3, h1, h4⟩
        exact ⟨k, j, by omega, h2, h3, h4⟩
    · rintro m σ H3 hm ⟨vs, x, rfl, g3, hl3, hvl, hvs⟩
      have hm' : m < t.length - i := by omega
      dsimp only
      rw [e1 m]
      refine ⟨_, rfl, .inl ⟨rfl, _, SqL.of hl3⟩, _, rfl, _, rfl, _, rfl, _, rfl, _, rfl, t, rfl, hz', l, _, _, rfl, rfl, hl3, (by rw [List.length_map]; show _ < sizeLine; exact small63 (by omega)), ?_⟩
      refine ⟨vs ++ [Txt.slice t (some ((i : Nat) : Int)) (some ((i + 1 + m : Nat) : Int))], _, rfl, ?_, ?_, ?_, fun u => ?_⟩
      · exact fun b o e => by rw [upd_ne (fun z => by rw [z, nl] at e; cases e)]; exact g3 b o e
      · rw [List.map_append]; exact upd_same
      · rw [List.length_append]; simp only [List.length_singleton]; omega
      · rw [List.mem_append, hvs u, List.mem_singleton]
        constructor
        · rintro (⟨k, j, h1, h2, h3, h4⟩ | h)
          · exact ⟨k, j, h1, h2, by omega, h4⟩
          · exact ⟨i, i + 1 + m, by omega, by omega, by omega, h⟩
        · rintro ⟨k, j, h1, h2, h3, h4⟩
          by_cases hc : k = i ∧ j = i + 1 + m
          · obtain ⟨rfl, rfl⟩ := hc
            exact .inr h4
          · exact .inl ⟨k, j, h1, h2, by omega, h4⟩
    · rintro σ H3 ⟨vs, x, rfl, g3, hl3, hvl, hvs⟩
      refine ⟨vs, _, _, rfl, g3, hl3, by omega, fun u => ?_⟩
      rw [hvs u]
      constructor
      · rintro ⟨k, j, h1, h2, h3, h4⟩
        exact ⟨k, j, by omega, h1, h2, h4⟩
      · rintro ⟨k, j, h3, h1, h2, h4⟩
        exact ⟨k, j, h1, h2, by omega, h4⟩
  · rintro σ H2 ⟨ys, x, y, rfl, g2, hl2, hyl, hys⟩
    have hb : t.length * 63 ≤ 63 * 63 := Nat.mul_le_mul hz (Nat.le_refl _)
    refine ⟨_, rfl, l, ys, rfl, SqL.of hl2, by omega, fun l2 zs nl2 hnd hm hs => ?_⟩
    refine q l2 zs _ (fun b o e => same_new nl2 _ b o (g2 b o e)) ?_ upd_same hnd hs fun u => ?_
    · cases e : H l2 with
      | none => rfl
      | some o => rw [g2 _ _ e] at nl2; cases nl2
    · rw [hm u, hys u]
      constructor
      · rintro ⟨k, j, h1, h2, h3, rfl⟩
        obtain ⟨a1, a2⟩ := slice_mem h2 h3
        exact ⟨a1, k, h1, a2⟩
      · rintro ⟨a1, k, h1, a2⟩
        obtain ⟨b1, b2, b3⟩ := slice_of a1 a2
        exact ⟨k, k + u.length, h1, by omega, b1, b3⟩
abbrev s_law_word_told : Stmt := top 17
theorem sc_law_word_told : FnScope ["_law_text", "_law_number", "e"] ["_law_text", "_law_number"] (defScope s_law_word_told) := ⟨rfl, rfl, rfl, by decide +kernel, rfl, by decide +kernel, by decide +kernel⟩
abbrev s_law_number_told : Stmt := top 18
theorem sc_law_number_told : FnScope ["_law_text", "_law_word", "e"] ["_law_text", "_law_word"] (defScope s_law_number_told) := ⟨rfl, rfl, rfl, by decide +kernel, rfl, by decide +kernel, by decide +kernel⟩
abbrev s_law_refused : Stmt := top 19
theorem sc_law_refused : FnScope ["_law_found"] ["_law_found"] (defScope s_law_refused) := ⟨rfl, rfl, rfl, by decide +kernel, rfl, by decide +kernel, by decide +kernel⟩
abbrev noWord : HO := .tup [.str (Str.ofString "refused"), .str (Str.ofString "no word")]
def sp_word_told (T : Addr) : Sp := fun vs H Q _ => ∃ (t : Str) (z : Int), vs = [.str t, .int z] ∧ t.length ≤ 1000 ∧ Tab lamPos lamQ T H ∧
  (∀ (n : Nat) (u : Str) (ms : List Nat) (H' : Hp), z = (n : Int) → SameBut T H H' → Tab lamPos lamQ T H' → Wd.Order t.cps.toList ms → (Wd.blk [] (ms.map fun i => t.cps.toList.drop i))[n]? = some u.cps.toList → u.length ≤ 1000 → Q (.str u) H') ∧
  (∀ (p : Addr) (H' : Hp), SameBut T H H' → Tab lamPos lamQ T H' → H' p = some noWord → (z < 0 ∨ ∃ ms, Wd.Order t.cps.toList ms ∧ (((Wd.blk [] (ms.map fun i => t.cps.toList.drop i)).length : Nat) : Int) ≤ z) → Q (.ref p) H')
theorem ok_word_told {C CE T : Addr} (F : Fun K "_law_word_told" "_law_word_told" s_law_word_told f fd) (X_NoWord : Errs K mg "NoWord" C CE) (G_word_at : Has P w K mg base (CX1 P w) 10 "word_at" ["text", "number"] (sp_word_at C T)) (m_isinstance : mg "isinstance" = none) :
    FnOk P w K mg base CX0 12 f fd ["_law_text", "_law_number"] (sp_word_told T) := by
  refine (F.ok (k := 11) sc_law_word_told (fun vs H Q E h => ?_) (fun cdv A outer s H vs Q E hr h => ?_))
  · obtain ⟨t, z, rfl, _⟩ := h
    rfl
  obtain ⟨t, z, rfl, hz, hT, q, qe⟩ := h
  refine ⟨_, (pss_cons (ps_tryX (i := 2) rfl rfl sc_law_word_told.nd rfl rfl rfl X_NoWord.nE X_NoWord.xm (fun _ _ _ hx => (pss_one (ps_ret (pe_funX hx G_word_at (hr.mono (by decide)) rfl (pa_cons (pv 0) (pa_cons (pv 1) pa_nil)))))) (fun _ _ _ hc hd => (pss_one (ps_if (PW.pt (pw_and (pt_val (pe_callB (call_isxO X_NoWord.v hc hd pin_last kit_self) rfl m_isinstance bIsinstance (pa_cons (pv 2) (pa_cons (pe_glob (v := .ref _) rfl X_NoWord.n rfl) pa_nil)))) (pw_and1 (pt_val (pe_callB (call_isxT X_NoWord.v hc hd pin_last X_NoWord.kV) rfl m_isinstance bIsinstance (pa_cons (pv 2) (pa_cons (pe_bltn (v := .ty "ValueError") rfl X_NoWord.mV bValueError rfl) pa_nil))))))) (pss_one (ps_ret (pe_tup (pa_cons pe_str (pa_cons pe_str pa_nil))))) pss_nil))))
    (pss_one (ps_ret (pe_tup (pa_cons pe_str (pa_cons pe_str pa_nil)))))), ?_⟩
  refine ⟨_, rfl, _, rfl, t, z, rfl, hz, hT, q, fun H1 sb1 tb1 c => ⟨rfl, fun e he => ?_⟩⟩
  refine and_ev true true (fun R r => ⟨_, rfl, rfl, _, rfl, r⟩) (fun _ R r => ⟨_, rfl, rfl, _, rfl, r⟩) (iteT ?_)
  exact ⟨(by show 2 ≤ sizeLine; decide), fun p1 np1 => qe p1 _ (fun b o hb e => same_new np1 _ b o (sb1 b o hb e)) (tb1.keep (same_new np1 _)) upd_same c⟩
def sp_number_told (T : Addr) : Sp := fun vs H Q _ => ∃ (t u : Str), vs = [.str t, .str u] ∧ t.length ≤ 1000 ∧ u.length ≤ 2000 ∧ Tab lamPos lamQ T H ∧
  (∀ (p : Addr) (H' : Hp), SameBut T H H' → Tab lamPos lamQ T H' → H' p = some noWord → (u.cps.toList = [] ∨ ∀ k, k < t.length → ¬ u.cps.toList <+: t.cps.toList.drop k) → Q (.ref p) H') ∧
  ∀ (n : Nat) (ms : List Nat) (H' : Hp), SameBut T H H' → Tab lamPos lamQ T H' → Wd.Order t.cps.toList ms → (Wd.blk [] (ms.map fun i => t.cps.toList.drop i))[n]? = some u.cps.toList → Q (.int (n : Int)) H'
theorem ok_number_told {C CE T : Addr} (F : Fun K "_law_number_told" "_law_number_told" s_law_number_told f fd) (X_NoWord : Errs K mg "NoWord" C CE) (G_number_of : Has P w K mg base (CX1 P w) 10 "number_of" ["text", "word"] (sp_number_of C T)) (m_isinstance : mg "isinstance" = none) :
    FnOk P w K mg base CX0 12 f fd ["_law_text", "_law_word"] (sp_number_told T) := by
  refine (F.ok (k := 11) sc_law_number_told (fun vs H Q E h => ?_) (fun cdv A outer s H vs Q E hr h => ?_))
  · obtain ⟨t, z, rfl, _⟩ := h
    rfl
  obtain ⟨t, u, rfl, hz, hul, hT, qe, q⟩ := h
  refine ⟨_, (pss_cons (ps_tryX (i := 2) rfl rfl sc_law_number_told.nd rfl rfl rfl X_NoWord.nE X_NoWord.xm (fun _ _ _ hx => (pss_one (ps_ret (pe_funX hx G_number_of (hr.mono (by decide)) rfl (pa_cons (pv 0) (pa_cons (pv 1) pa_nil)))))) (fun _ _ _ hc hd => (pss_one (ps_if (PW.pt (pw_and (pt_val (pe_callB (call_isxO X_NoWord.v hc hd pin_last kit_self) rfl m_isinstance bIsinstance (pa_cons (pv 2) (pa_cons (pe_glob (v := .ref _) rfl X_NoWord.n rfl) pa_nil)))) (pw_and1 (pt_val (pe_callB (call_isxT X_NoWord.v hc hd pin_last X_NoWord.kV) rfl m_isinstance bIsinstance (pa_cons (pv 2) (pa_cons (pe_bltn (v := .ty "ValueError") rfl X_NoWord.mV bValueError rfl) pa_nil))))))) (pss_one (ps_ret (pe_tup (pa_cons pe_str (pa_cons pe_str pa_nil))))) pss_nil))))
    (pss_one (ps_ret (pe_tup (pa_cons pe_str (pa_cons pe_str pa_nil)))))), ?_⟩
  refine ⟨_, rfl, _, rfl, t, u, rfl, hz, hul, hT, fun H1 sb1 tb1 c => ⟨rfl, fun e he => ?_⟩, q⟩
  refine and_ev true true (fun R r => ⟨_, rfl, rfl, _, rfl, r⟩) (fun _ R r => ⟨_, rfl, rfl, _, rfl, r⟩) (iteT ?_)
  exact ⟨(by show 2 ≤ sizeLine; decide), fun p1 np1 => qe p1 _ (fun b o hb e => same_new np1 _ b o (sb1 b o hb e)) (tb1.keep (same_new np1 _)) upd_same c⟩
def sp_refused : Sp := fun vs H Q _ => ∃ p, vs = [.ref p] ∧ H p = some noWord ∧ ∀ H', Same H H' → Q (.bl true) H'
theorem ok_refused (F : Fun K "_law_refused" "_law_refused" s_law_refused f fd) (m_isinstance : mg "isinstance" = none) (m_tuple : mg "tuple" = none) : FnOk P w K mg base CX0 2 f fd ["_law_found"] sp_refused := by
  refine (F.ok (k := 1) sc_law_refused (fun vs H Q E h => ?_) (fun cdv A outer s H vs Q E hr h => ?_))
  · obtain ⟨p, rfl, _⟩ := h
    rfl
  obtain ⟨p, rfl, hp, q⟩ := h
  refine ⟨_, (pss_one (ps_ret (pe_and (pe_callB call_isinst rfl m_isinstance bIsinstance (pa_cons (pv 0) (pa_cons (pe_bltn (v := .ty "tuple") rfl m_tuple bTuple rfl) pa_nil))) (pe_one (pe_cmpR (op_eq_tup hr.units0) (pv 0) (pe_tup (pa_cons pe_str (pa_cons pe_str pa_nil))) (nomark _)))))), ?_⟩
  refine ⟨_, rfl, _, _, _, _, rfl, .tup hp, kit_same K "tuple", _, rfl, iteT ?_⟩
  refine ⟨_, rfl, (by show 2 ≤ sizeLine; decide), fun p1 np1 => ?_⟩
  exact ⟨p, p1, _, _, rfl, rfl, SqT.of (same_new np1 _ _ _ hp), SqT.of upd_same, rfl, rfl, q _ (same_new np1 _)⟩
abbrev s_law : Stmt := top 20
theorem sc_law : FnScope ["_law_script", "_law_text", "_law_words", "_law_many", "_law_asked", "_law_number", "_law_found", "_law_word"] ["_law_script"] (defScope s_law) := ⟨rfl, rfl, rfl, by decide +kernel, rfl, by decide +kernel, by decide +kernel⟩
theorem inV_strs {x : Str} {ys : List Str} : inV (.str x) (ys.map V.str) = true ↔ x ∈ ys := by
  unfold inV
  rw [List.any_map, List.any_eq_true]
  constructor
  · rintro ⟨y, hy, e⟩
    have e' : (x == y) = true ∨ (y == x) = true := by
      first | exact .inl e | exact .inr e
    rcases e' with e' | e'
    · rw [eq_of_beq e']; exact hy
    · rw [← eq_of_beq e']; exact hy
  · intro hx
    exact ⟨x, hx, beq_self_eq_true x⟩
theorem flat_strs (ys : List Str) : (ys.map V.str).all flatV = true := by
  rw [List.all_map, List.all_eq_true]
  intro x _
  rfl
theorem words_blk {t : Str} {ms : List Nat} (ord : Wd.Order t.cps.toList ms) {ws : List Str} (hnd : ws.Nodup) (hs : PyProof.Rows.sortedS ws = true) (hm : ∀ u, u ∈ ws ↔ WordOf t u) : ws.map (fun x => x.cps.toList) = Wd.blk [] (ms.map fun i => t.cps.toList.drop i) := by
  refine Wd.sorted_unique ?_ (Wd.blk_sorted ord.ends0) fun u => ?_
  · rw [List.pairwise_map]
    refine ((sortedS_pw hs).and hnd).imp fun {a b} h => ?_
    rcases Wd.tri a.cps.toList b.cps.toList with g | g | g
    · exact g
    · exact absurd (str_eq.mpr g) h.2
    · exact absurd g h.1
  · rw [Wd.blk_mem ord.ends0, List.mem_map]
    have hlen := len_list t
    constructor
    · rintro ⟨x, hx, rfl⟩
      obtain ⟨h0, k, hk, hp⟩ := (hm x).mp hx
      exact ⟨h0, ⟨_, List.mem_map.mpr ⟨k, ord.1.mem_iff.mpr (List.mem_range.mpr (by omega)), rfl⟩, hp⟩, fun h => h0 (List.prefix_nil.mp h)⟩
    · rintro ⟨h0, ⟨s', hs', hp⟩, _⟩
      obtain ⟨k, hk, rfl⟩ := List.mem_map.mp hs'
      have hkl := List.mem_range.mp (ord.1.mem_iff.mp hk)
      exact ⟨⟨u.toArray⟩, (hm _).mpr ⟨h0, k, by omega, hp⟩, rfl⟩
theorem Tab.write {T l : Addr} {H : Hp} {xs ys : List V} (tb : Tab lamPos lamQ T H) (hl : H l = some (.lst xs)) (n : l ≠ T) : Tab lamPos lamQ T (upd H l (.lst ys)) := by
  rcases tb with h | ⟨c', h3, h4⟩
  · exact .inl (by rw [upd_ne (Ne.symm n)]; exact h)
  · exact .inr ⟨c', by rw [upd_ne (Ne.symm n)]; exact h3, by rw [upd_ne (ne_of h4 hl (fun z => by cases z))]; exact h4⟩
theorem asg_if {i : Nat} {v : V} {σ : St} {H : Hp} {c : TT} {a b : TS} {D : Ends} (h : c (σ.set i (some v)) H fun k H1 => if k = true then a D (σ.set i (some v)) H1 else b D (σ.set i (some v)) H1) : gName i v σ H (tIfS c a b D) := h
def sp_law (K : PySem.W.Frag) (T : Addr) : Sp := fun vs H Q _ => ∃ (a : Addr) (ns : List Int), vs = [.ref a] ∧ SqL K H a (ns.map V.int) ∧ ns.length ≤ 63 ∧ H T = some (.tbl #[]) ∧ ∀ H', Q (.bl true) H'
theorem ok_law {T : Addr} (F : Fun K "law" "law" s_law f fd)
    (G_law_at : Has P w K mg base CX0 1 "_law_at" ["_law_script", "_law_k"] (sp_at K)) (G_law_text_by : Has P w K mg base CX0 1 "_law_text_by" ["_law_cells", "_law_seed"] (sp_text K)) (G_law_whole : Has P w K mg base CX0 1 "_law_whole" ["_law_found"] sp_whole)
    (G_law_words_in : Has P w K mg base CX0 2 "_law_words_in" ["_law_text"] sp_words_in) (G_how_many_words : Has P w K mg base CX0 10 "how_many_words" ["text"] (sp_how_many T))
    (G_law_word_told : Has P w K mg base CX0 12 "_law_word_told" ["_law_text", "_law_number"] (sp_word_told T)) (G_law_number_told : Has P w K mg base CX0 12 "_law_number_told" ["_law_text", "_law_word"] (sp_number_told T)) (G_law_refused : Has P w K mg base CX0 2 "_law_refused" ["_law_found"] sp_refused)
    (m_len : mg "len" = none) (m_isinstance : mg "isinstance" = none) (m_str : mg "str" = none) : FnOk P w K mg base CX0 14 f fd ["_law_script"] (sp_law K T) := by
  refine F.ok sc_law (fun vs H Q E h => ?_) (fun cdv A outer s H vs Q E hr h => ?_)
  · obtain ⟨a, ns, rfl, _⟩ := h
    rfl
  obtain ⟨a, ns, rfl, hS, h63, hT, q⟩ := h
  refine ⟨_, (pss_cons (ps_set (i := 0) sc_law.nd rfl (Or.inl rfl) (pe_slice sl_list (pv 0) po_none (po_some pe_int)))
    (pss_cons (ps_set (i := 1) sc_law.nd rfl (Or.inl rfl) (pe_fun G_law_text_by (hr.mono (by decide)) rfl (pa_cons (pe_slice sl_list (pv 0) (po_some pe_int) (po_some pe_int)) (pa_cons (pe_fun G_law_at (hr.mono (by decide)) rfl (pa_cons (pv 0) (pa_cons pe_int pa_nil))) pa_nil))))
    (pss_cons (ps_set (i := 2) sc_law.nd rfl (Or.inl rfl) (pe_fun G_law_words_in (hr.mono (by decide)) rfl (pa_cons (pv 1) pa_nil)))
    (pss_cons (ps_set (i := 3) sc_law.nd rfl (Or.inl rfl) (pe_fun G_how_many_words (hr.mono (by decide)) rfl (pa_cons (pv 1) pa_nil)))
    (pss_cons (ps_if (PW.pt (pw_or (pt_not (pt_val (pe_fun G_law_whole (hr.mono (by decide)) rfl (pa_cons (pv 3) pa_nil)))) (pw_or1 (pt_cmpR op_ne (pv 3) (pe_callB call_len_seq rfl m_len PySem.boot_len (pa_cons (pv 2) pa_nil)) (nomark _))))) (pss_one (ps_ret pe_bl)) pss_nil)
    (pss_cons (ps_set (i := 4) sc_law.nd rfl (Or.inl rfl) (pe_lst (pa_cons (pe_op op_sub (pe_op op_mod (pe_fun G_law_at (hr.mono (by decide)) rfl (pa_cons (pv 0) (pa_cons pe_int pa_nil))) (pe_op op_add (pv 3) pe_int)) pe_int) (pa_cons (pe_op op_pow pe_int pe_int) (pa_cons (pe_un un_neg (pe_op op_pow pe_int pe_int)) pa_nil)))))
    (pss_cons (ps_for PassesOwn.never rfl (pi_list (pe_op op_cat (pv 4) (pe_lst (pa_cons (pe_un un_neg pe_int) (pa_cons (pe_un un_neg pe_int) (pa_cons (pe_op op_sub (pe_un un_neg pe_int) (pv 3)) (pa_cons (pe_op op_sub (pv 3) pe_int) (pa_cons (pv 3) pa_nil)))))))) (pg_name (i := 5) sc_law.nd rfl (Or.inl rfl)) (pss_cons (ps_set (i := 6) sc_law.nd rfl (Or.inl rfl) (pe_fun G_law_word_told (hr.mono (by decide)) rfl (pa_cons (pv 1) (pa_cons (pv 5) pa_nil))))
    (pss_one (ps_if (PW.pt (pw_or (pt_cmpR op_lt (pv 5) pe_int (nomark _)) (pw_or1 (pt_cmpR op_ge (pv 5) (pv 3) (nomark _))))) (pss_one (ps_if (pt_not (pt_val (pe_fun G_law_refused (hr.mono (by decide)) rfl (pa_cons (pv 6) pa_nil)))) (pss_one (ps_ret pe_bl)) pss_nil)) (pss_one (ps_if (PW.pt (pw_or (pt_not (pt_val (pe_callB call_isinst rfl m_isinstance bIsinstance (pa_cons (pv 6) (pa_cons (pe_bltn (v := .ty "str") rfl m_str bStr rfl) pa_nil))))) (pw_or1 (pt_cmpR op_ne (pv 6) (pe_ix ix_list (pv 2) (pv 5) (fun _ _ => rfl)) (nomark _))))) (pss_one (ps_ret pe_bl)) pss_nil))))))
    (pss_cons (ps_set (i := 4) sc_law.nd rfl (Or.inl rfl) (pe_lst (pa_cons (pv 1) (pa_cons pe_str (pa_cons (pe_op op_add_str (pv 1) pe_str) (pa_cons (pe_op op_add_str pe_str (pv 1)) pa_nil))))))
    (pss_cons (ps_if (pt_cmpR op_gt (pv 3) pe_int (nomark _)) (pss_cons (ps_expr (pe_bm PySem.F.plainAttrs_list PySem.F.slot_list_append PySem.F.type_list_append mt_append (pv 4) (pa_cons (pe_ix ix_list (pv 2) (pe_op op_mod (pe_fun G_law_at (hr.mono (by decide)) rfl (pa_cons (pv 0) (pa_cons pe_int pa_nil))) (pv 3)) (fun _ _ => rfl)) pa_nil)))
    (pss_one (ps_expr (pe_bm PySem.F.plainAttrs_list PySem.F.slot_list_append PySem.F.type_list_append mt_append (pv 4) (pa_cons (pe_op op_add_str (pe_ix ix_list (pv 2) (pe_op op_mod (pe_fun G_law_at (hr.mono (by decide)) rfl (pa_cons (pv 0) (pa_cons pe_int pa_nil))) (pv 3)) (fun _ _ => rfl)) (pe_ix ix_str pe_str (pe_op op_mod (pe_fun G_law_at (hr.mono (by decide)) rfl (pa_cons (pv 0) (pa_cons pe_int pa_nil))) pe_int) (fun _ _ => rfl))) pa_nil))))) pss_nil)
    (pss_cons (ps_for PassesOwn.never rfl (pi_list (pv 4)) (pg_name (i := 7) sc_law.nd rfl (Or.inl rfl)) (pss_cons (ps_set (i := 6) sc_law.nd rfl (Or.inl rfl) (pe_fun G_law_number_told (hr.mono (by decide)) rfl (pa_cons (pv 1) (pa_cons (pv 7) pa_nil))))
    (pss_one (ps_if (pt_cmpR op_notIn_seq (pv 7) (pv 2) (by with_unfolding_all rfl)) (pss_one (ps_if (pt_not (pt_val (pe_fun G_law_refused (hr.mono (by decide)) rfl (pa_cons (pv 6) pa_nil)))) (pss_one (ps_ret pe_bl)) pss_nil)) (pss_one (ps_if (PW.pt (pw_or (pt_not (pt_val (pe_fun G_law_whole (hr.mono (by decide)) rfl (pa_cons (pv 6) pa_nil)))) (pw_or1 (pt_cmpR op_ne (pv 6) (pe_bm PySem.F.plainAttrs_list PySem.F.slot_list_index PySem.F.type_list_index mt_index (pv 2) (pa_cons (pv 7) pa_nil)) (nomark _))))) (pss_one (ps_ret pe_bl)) pss_nil))))))
    (pss_one (ps_ret pe_bl)))))))))))), ?_⟩
  refine ⟨_, rfl, _, rfl, a, _, rfl, hS, fun p1 np1 => ?_⟩
  rw [cutV_ints]
  generalize hn1 : cutI ns none (some 300) = n1
  have l1 : n1.length ≤ 63 := by rw [← hn1]; exact Nat.le_trans (cutI_len _ _ _) h63
  have g1 := same_new np1 (.lst (n1.map V.int))
  have p1T : p1 ≠ T := fun e => by rw [e, hT] at np1; cases np1
  have hp1 : upd H p1 (.lst (n1.map V.int)) p1 = some (.lst (n1.map V.int)) := upd_same
  have s1 : SqL K (upd H p1 (.lst (n1.map V.int))) p1 (n1.map V.int) := SqL.of upd_same
  refine ⟨_, rfl, _, rfl, _, rfl, p1, _, rfl, s1, fun p2 np2 => ?_⟩
  rw [cutV_ints]
  generalize hn2 : cutI n1 (some 5) (some 21) = n2
  have l2 : n2.length ≤ 63 := by rw [← hn2]; exact Nat.le_trans (cutI_len _ _ _) l1
  have g2 := same_new np2 (.lst (n2.map V.int))
  refine ⟨_, rfl, p1, n1, 0, rfl, g2.seq s1, Int.le_refl 0, p2, n2, _, rfl, SqL.of upd_same, by omega, fun t H3 ht _ g3 => ?_⟩
  have hz : t.length ≤ 63 := by omega
  have hz' : t.length ≤ sizeLine := small63 (by omega)
  have hlen : t.cps.toList.length = t.length := len_list t
  have hT3 : H3 T = some (.tbl #[]) := g3 _ _ (g2 _ _ (g1 _ _ hT))
  have hp3 : H3 p1 = some (.lst (n1.map V.int)) := g3 _ _ (g2 _ _ hp1)
  clear g3 g2 g1 s1 ht hS
  refine ⟨_, rfl, t, rfl, hz, fun lw ws H4 g4 nlw hlw4 hnd hsort hmem => ?_⟩
  have lwT : lw ≠ T := fun e => by rw [e, hT3] at nlw; cases nlw
  have hT4 := g4 _ _ hT3
  have hp4 := g4 _ _ hp3
  clear hT3 hp3 g4
  refine ⟨_, rfl, t, rfl, by omega, .inl hT4, fun ms H5 sb5 tb5 ord => ?_⟩
  have hwB := words_blk ord hnd hsort hmem
  have hp5 := sb5 _ _ p1T hp4
  have hlw5 := sb5 _ _ lwT hlw4
  clear hp4 hlw4 sb5 hT4
  have hBl : (Wd.blk [] (ms.map fun i => t.cps.toList.drop i)).length = ws.length := by rw [← hwB, List.length_map]
  have hwat : ∀ {n : Nat} {u : Str} {ms' : List Nat}, Wd.Order t.cps.toList ms' → (Wd.blk [] (ms'.map fun i => t.cps.toList.drop i))[n]? = some u.cps.toList → ws[n]? = some u := fun {n u ms'} o h => by
    rw [o.uniq ord, ← hwB, List.getElem?_map] at h
    cases e : ws[n]? with
    | none => rw [e] at h; cases h
    | some x => rw [e] at h; rw [str_eq.mpr (Option.some.inj h)]
  have hBl' : ∀ {ms' : List Nat}, Wd.Order t.cps.toList ms' → (Wd.blk [] (ms'.map fun i => t.cps.toList.drop i)).length = ws.length := fun o => by rw [o.uniq ord]; exact hBl
  rw [hBl]
  clear hBl hwB
  have hwl : ∀ u ∈ ws, u.length ≤ 63 := fun u hu => by
    obtain ⟨h0, k, hk, hp⟩ := (hmem u).mp hu
    have := (slice_of h0 hp).1
    omega
  refine ⟨_, rfl, _, rfl, _, rfl, iteF ⟨_, rfl, _, rfl, lw, _, rfl, .inl (SqL.of hlw5), rfl, _, rfl, iteNS (by rw [List.length_map]) ?_⟩⟩
  have hN4 : (0 : Int) < (ws.length : Int) + 4 := by omega
  refine ⟨_, rfl, p1, n1, 1, rfl, SqL.of hp5, by decide, _, rfl, _, _, rfl, rfl, _, _, rfl, rfl, hN4, _, _, rfl, rfl, _, _, rfl, rfl, ⟨by decide, by decide, by decide⟩, _, _, rfl, rfl, ⟨by decide, by decide, by decide⟩, _, rfl, (by show 3 ≤ sizeLine; decide), fun la nla => ?_⟩
  dsimp only
  generalize hL : ([V.int _, V.int _, V.int _] : List V) = L
  obtain ⟨qa, rfl⟩ : ∃ qs : List Int, L = qs.map V.int := ⟨[_, _, _], hL.symm⟩
  have hqa : qa.length = 3 := by have := congrArg List.length hL; rw [List.length_map] at this; exact this.symm
  have g6 := same_new nla (.lst (qa.map V.int))
  have hla6 : upd H5 la (.lst (qa.map V.int)) la = some (.lst (qa.map V.int)) := upd_same
  have hp6 := g6 _ _ hp5
  have hlw6 := g6 _ _ hlw5
  have tb6 := tb5.keep g6
  clear hL hp5 hlw5
  generalize upd H5 la (.lst (qa.map V.int)) = H6 at g6 hla6 hp6 hlw6 tb6
  clear g6 nla tb5
  refine ⟨_, rfl, _, rfl, _, rfl, _, rfl, _, rfl, _, _, rfl, rfl, _, rfl, _, _, rfl, rfl, _, rfl, (by show 5 ≤ sizeLine; decide), fun lb nlb => ?_⟩
  generalize hL : ([V.int _, V.int _, V.int _, V.int _, V.int _] : List V) = L
  obtain ⟨qb, rfl⟩ : ∃ qs : List Int, L = qs.map V.int := ⟨[_, _, _, _, _], hL.symm⟩
  have hqb : qb.length = 5 := by have := congrArg List.length hL; rw [List.length_map] at this; exact this.symm
  have g7 := same_new nlb (.lst (qb.map V.int))
  have hlb7 : upd H6 lb (.lst (qb.map V.int)) lb = some (.lst (qb.map V.int)) := upd_same
  have hp7 := g7 _ _ hp6
  have hla7 := g7 _ _ hla6
  have hlw7 := g7 _ _ hlw6
  have tb7 := tb6.keep g7
  clear hL hp6 hlw6 hla6
  generalize upd H6 lb (.lst (qb.map V.int)) = H7 at g7 hlb7 hp7 hlw7 hla7 tb7
  clear g7 nlb tb6
  refine ⟨la, lb, _, _, rfl, rfl, hla7, hlb7, (by rw [List.length_map, List.length_map]; exact small63 (by omega)), fun lc nlc => ?_⟩
  rw [← List.map_append]
  have hqc : (qa ++ qb).length = 8 := by rw [List.length_append]; omega
  generalize qa ++ qb = qc at hqc
  have g8 := same_new nlc (.lst (qc.map V.int))
  have hlc8 : upd H7 lc (.lst (qc.map V.int)) lc = some (.lst (qc.map V.int)) := upd_same
  have hp8 := g8 _ _ hp7
  have hlw8 := g8 _ _ hlw7
  have tb8 := tb7.keep g8
  obtain ⟨oT, hTo⟩ := tb7.some
  have lcT : lc ≠ T := fun e => by rw [e, hTo] at nlc; cases nlc
  clear hp7 hlw7 hla7 hlb7 hTo oT
  generalize upd H7 lc (.lst (qc.map V.int)) = H8 at g8 hlc8 hp8 hlw8 tb8
  clear g8 nlc tb7
  refine ⟨lc, rfl, ⟨_, SqL.of hlc8⟩, for_list (K := K) (a := lc) (xs := qc.map V.int) (fun i σ H9 => ∃ y5 y6 : Option V, σ = [some (.ref p1), some (.str t), some (.ref lw), some (.int (ws.length : Int)), some (.ref la), y5, y6, none] ∧ Tab lamPos lamQ T H9 ∧ H9 lc = some (.lst (qc.map V.int)) ∧ H9 lw = some (.lst (ws.map V.str)) ∧ H9 p1 = some (.lst (n1.map V.int)))
    ⟨none, none, rfl, tb8, hlc8, hlw8, hp8⟩ (fun i σ H9 _ ⟨_, _, _, _, h, _⟩ => SqL.of h) ?_ ?_⟩
  · rintro i v σ H9 hv ⟨y5, y6, rfl, tb9, hlc9, hlw9, hp9⟩
    obtain ⟨z, rfl⟩ : ∃ z : Int, v = .int z := by
      rw [List.getElem?_map] at hv
      cases e : qc[i]? with
      | none => rw [e] at hv; cases hv
      | some x => rw [e] at hv; exact ⟨x, (Option.some.inj hv).symm⟩
    refine ⟨_, rfl, _, rfl, t, z, rfl, by omega, tb9, fun n u ms' H10 en sb10 tb10 ord' hu hul => ?_, fun p H10 sb10 tb10 hp c => ?_⟩
    · have hlc10 := sb10 _ _ lcT hlc9
      have hlw10 := sb10 _ _ lwT hlw9
      have hp10 := sb10 _ _ p1T hp9
      have hwn := hwat ord' hu
      have hnl := (List.getElem?_eq_some_iff.mp hwn).1
      dsimp only
      refine asg_if (or_ev (decide (z < 0)) (decide ((ws.length : Int) ≤ z)) (fun R r => ⟨_, rfl, _, _, rfl, rfl, _, rfl, r⟩) (fun _ R r => ⟨_, rfl, _, rfl, _, _, rfl, rfl, _, rfl, r⟩) ?_)
      rw [decide_eq_false (by omega), decide_eq_false (by omega)]
      refine iteF ?_
      refine ⟨_, rfl, _, _, _, _, rfl, .str u, kit_same K "str", _, rfl, iteF ⟨_, rfl, _, rfl, _, rfl, lw, _, _, _, rfl, rfl, SqL.of hlw10, strs_ix hwn en, rfl, _, rfl, iteNS rfl ?_⟩⟩
      exact ⟨_, _, rfl, tb10, hlc10, hlw10, hp10⟩
    · have hlc10 := sb10 _ _ lcT hlc9
      have hlw10 := sb10 _ _ lwT hlw9
      have hp10 := sb10 _ _ p1T hp9
      have hc : z < 0 ∨ (ws.length : Int) ≤ z := c.imp id fun ⟨ms', o, h⟩ => by rw [hBl' o] at h; exact h
      dsimp only
      refine asg_if (or_ev (decide (z < 0)) (decide ((ws.length : Int) ≤ z)) (fun R r => ⟨_, rfl, _, _, rfl, rfl, _, rfl, r⟩) (fun _ R r => ⟨_, rfl, _, rfl, _, _, rfl, rfl, _, rfl, r⟩) ?_)
      rw [show (decide (z < 0) || decide ((ws.length : Int) ≤ z)) = true from by rw [Bool.or_eq_true, decide_eq_true_eq, decide_eq_true_eq]; exact hc]
      refine iteT ⟨_, rfl, p, rfl, hp, fun H11 g11 => ⟨_, rfl, iteF ?_⟩⟩
      exact ⟨_, _, rfl, tb10.keep g11, g11 _ _ hlc10, g11 _ _ hlw10, g11 _ _ hp10⟩
  · rintro σ H9 ⟨y5, y6, rfl, tb9, hlc9, hlw9, hp9⟩
    have o1 : (Str.ofString "z").length = 1 := rfl
    have o2 : (Str.ofString "a").length = 1 := rfl
    refine ⟨_, rfl, _, rfl, _, _, rfl, rfl, small63 (by omega), _, rfl, _, _, rfl, rfl, small63 (by omega), (by show 4 ≤ sizeLine; decide), fun lq nlq => ?_⟩
    obtain ⟨aq, haq, hal, hax⟩ : ∃ aq : List Str, [V.str t, V.str (Str.ofString ""), V.str (t ++ Str.ofString "z"), V.str (Str.ofString "a" ++ t)] = aq.map V.str ∧ aq.length = 4 ∧ ∀ x ∈ aq, x.length ≤ 200 := by
      refine ⟨[t, Str.ofString "", t ++ Str.ofString "z", Str.ofString "a" ++ t], rfl, rfl, fun x hx => ?_⟩
      simp only [List.mem_cons, List.not_mem_nil, or_false] at hx
      rcases hx with rfl | rfl | rfl | rfl
      · omega
      · show 0 ≤ 200; omega
      · rw [len_app]; omega
      · rw [len_app]; omega
    rw [haq]
    have g10 := same_new nlq (.lst (aq.map V.str))
    have hlq10 : upd H9 lq (.lst (aq.map V.str)) lq = some (.lst (aq.map V.str)) := upd_same
    have hp10 := g10 _ _ hp9
    have hlw10 := g10 _ _ hlw9
    have tb10 := tb9.keep g10
    obtain ⟨oT, hTo⟩ := tb9.some
    have lqT : lq ≠ T := fun e => by rw [e, hTo] at nlq; cases nlq
    have lqw : lq ≠ lw := Ne.symm (ne_of_none hlw9 nlq)
    have lqp : lq ≠ p1 := Ne.symm (ne_of_none hp9 nlq)
    generalize upd H9 lq (.lst (aq.map V.str)) = H10 at g10 hlq10 hp10 hlw10 tb10
    clear g10 nlq haq hTo hlc9 hlw9 hp9 tb9
    dsimp only
    refine seq_if ⟨_, rfl, _, _, rfl, rfl, _, rfl, ?_⟩
    refine ite2 (fun c => ?m1) (fun _ => ?m2)
    case' m1 =>
      have hN : (0 : Int) < (ws.length : Int) := of_decide_eq_true c
      have modN : ∀ z : Int, ∃ (x : Nat) (v : Str), z % (ws.length : Int) = (x : Int) ∧ ws[x]? = some v ∧ v.length ≤ 63 := fun z => by
        have h1 := Int.emod_nonneg z (b := (ws.length : Int)) (by omega)
        have h2 := Int.emod_lt_of_pos z hN
        have h3 : ws[(z % (ws.length : Int)).toNat]? = some (ws[(z % (ws.length : Int)).toNat]'(by omega)) := List.getElem?_eq_getElem (by omega)
        exact ⟨_, _, by omega, h3, hwl _ (List.mem_of_getElem? h3)⟩
      obtain ⟨x2, v2, e2, hx2, hv2⟩ := modN (n1.getD (Int.toNat 2) 0)
      obtain ⟨x3, v3, e3, hx3, hv3⟩ := modN (n1.getD (Int.toNat 3) 0)
      have hm2 : 0 ≤ n1.getD (Int.toNat 4) 0 % 2 ∧ n1.getD (Int.toNat 4) 0 % 2 < 2 := ⟨Int.emod_nonneg _ (by decide), Int.emod_lt_of_pos _ (by decide)⟩
      obtain ⟨ch, hch⟩ := atI_some (xs := (Str.ofString "yz").cps.toList) hm2.1 hm2.2
      refine ⟨_, rfl, .inl ⟨rfl, _, SqL.of hlq10⟩, _, rfl, _, rfl, p1, n1, 2, rfl, SqL.of hp10, by decide, _, rfl, _, _, rfl, rfl, hN, lw, _, _, _, rfl, rfl, SqL.of hlw10, strs_ix hx2 e2, lq, _, _, rfl, rfl, hlq10, (by rw [List.length_map]; exact small1000' (by omega)), ?n1⟩
      have hp11 : upd H10 lq (.lst (aq.map V.str ++ [.str v2])) p1 = some (.lst (n1.map V.int)) := by rw [upd_ne (Ne.symm lqp)]; exact hp10
      have hlw11 : upd H10 lq (.lst (aq.map V.str ++ [.str v2])) lw = some (.lst (ws.map V.str)) := by rw [upd_ne (Ne.symm lqw)]; exact hlw10
      have hlq11 : upd H10 lq (.lst (aq.map V.str ++ [.str v2])) lq = some (.lst ((aq ++ [v2]).map V.str)) := by rw [upd_same, List.map_append]; rfl
      have tb11 : Tab lamPos lamQ T (upd H10 lq (.lst (aq.map V.str ++ [.str v2]))) := Tab.write tb10 hlq10 lqT
      generalize upd H10 lq (.lst (aq.map V.str ++ [.str v2])) = H11 at hp11 hlw11 hlq11 tb11
      refine ⟨_, rfl, .inl ⟨rfl, _, SqL.of hlq11⟩, _, rfl, _, rfl, p1, n1, 3, rfl, SqL.of hp11, by decide, _, rfl, _, _, rfl, rfl, hN, lw, _, _, _, rfl, rfl, SqL.of hlw11, strs_ix hx3 e3, _, rfl, p1, n1, 4, rfl, SqL.of hp11, by decide, _, _, rfl, rfl, (by show (0 : Int) < 2; decide), _, _, ch, rfl, rfl, (by show 2 ≤ sizeLine; decide), hch, _, _, rfl, rfl, small63 (by show v3.length + 1 ≤ _; omega), lq, _, _, rfl, rfl, hlq11, (by rw [List.length_map, List.length_append, hal]; exact small1000' (by show 4 + 1 ≤ _; omega)), ?n2⟩
      have hlw12 : upd H11 lq (.lst ((aq ++ [v2]).map V.str ++ [.str (v3 ++ ⟨#[ch]⟩)])) lw = some (.lst (ws.map V.str)) := by rw [upd_ne (Ne.symm lqw)]; exact hlw11
      have hlq12 : upd H11 lq (.lst ((aq ++ [v2]).map V.str ++ [.str (v3 ++ ⟨#[ch]⟩)])) lq = some (.lst (((aq ++ [v2]) ++ [v3 ++ ⟨#[ch]⟩]).map V.str)) := by rw [upd_same, List.map_append (l₁ := aq ++ [v2])]; rfl
      have tb12 : Tab lamPos lamQ T (upd H11 lq (.lst ((aq ++ [v2]).map V.str ++ [.str (v3 ++ ⟨#[ch]⟩)]))) := Tab.write tb11 hlq11 lqT
      have hax2 : ∀ x ∈ (aq ++ [v2]) ++ [v3 ++ ⟨#[ch]⟩], x.length ≤ 200 := fun x hx => by
        rw [List.mem_append, List.mem_append, List.mem_singleton, List.mem_singleton] at hx
        rcases hx with (h | rfl) | rfl
        · exact hax x h
        · omega
        · rw [len_app]; show v3.length + 1 ≤ 200; omega
      clear hax hal hlq10 hlw10 hp10 tb10 hp11 hlw11 hlq11 tb11 e2 e3 hx2 hx3 hv2 hv3 hm2 hch modN hN
      revert hlw12 hlq12 tb12 hax2
      generalize upd H11 lq (.lst ((aq ++ [v2]).map V.str ++ [.str (v3 ++ ⟨#[ch]⟩)])) = H12
      generalize (aq ++ [v2]) ++ [v3 ++ ⟨#[ch]⟩] = ax
      intro hlw12 hlq12 tb12 hax2
    case' m2 =>
      revert hlw10 hlq10 tb10 hax
      clear hal
      generalize H10 = H12
      generalize aq = ax
      intro hax2 hlq12 hlw12 tb12
    all_goals
      refine ⟨_, rfl, lq, rfl, ⟨_, SqL.of hlq12⟩, for_list (K := K) (a := lq) (xs := ax.map V.str) (fun i σ H9 => ∃ y6 y7 : Option V, σ = [some (.ref p1), some (.str t), some (.ref lw), some (.int (ws.length : Int)), some (.ref lq), y5, y6, y7] ∧ Tab lamPos lamQ T H9 ∧ H9 lq = some (.lst (ax.map V.str)) ∧ H9 lw = some (.lst (ws.map V.str)))
        ⟨_, _, rfl, tb12, hlq12, hlw12⟩ (fun i σ H9 _ ⟨_, _, _, _, h, _⟩ => SqL.of h) ?_ ?_⟩
      · rintro i v σ H9 hv ⟨y6, y7, rfl, tb9, hlq9, hlw9⟩
        obtain ⟨u, rfl, hu2⟩ : ∃ u : Str, v = .str u ∧ u ∈ ax := by
          rw [List.getElem?_map] at hv
          cases e : ax[i]? with
          | none => rw [e] at hv; cases hv
          | some x => rw [e] at hv; exact ⟨x, (Option.some.inj hv).symm, List.mem_of_getElem? e⟩
        have hul := hax2 u hu2
        refine ⟨_, rfl, _, rfl, t, u, rfl, by omega, by omega, tb9, fun p H10 sb10 tb10 hp c => ?_, fun n ms' H10 sb10 tb10 ord' hu => ?_⟩
        · have hlq10 := sb10 _ _ lqT hlq9
          have hlw10 := sb10 _ _ lwT hlw9
          have hno : inV (.str u) (ws.map V.str) = false := by
            rw [← Bool.not_eq_true, inV_strs, hmem u]
            rintro ⟨h0, k, hk, hpre⟩
            exact c.elim h0 fun h => h k hk hpre
          dsimp only
          refine asg_if ⟨_, rfl, _, rfl, lw, _, rfl, .inl (SqL.of hlw10), rfl, flat_strs _, _, rfl, ?_⟩
          rw [hno]
          refine iteT ⟨_, rfl, p, rfl, hp, fun H11 g11 => ⟨_, rfl, iteF ?_⟩⟩
          exact ⟨_, _, rfl, tb10.keep g11, g11 _ _ hlq10, g11 _ _ hlw10⟩
        · have hlq10 := sb10 _ _ lqT hlq9
          have hlw10 := sb10 _ _ lwT hlw9
          have hwn := hwat ord' hu
          have hnl := (List.getElem?_eq_some_iff.mp hwn).1
          have hyes : inV (.str u) (ws.map V.str) = true := inV_strs.mpr (List.mem_of_getElem? hwn)
          dsimp only
          refine asg_if ⟨_, rfl, _, rfl, lw, _, rfl, .inl (SqL.of hlw10), rfl, flat_strs _, _, rfl, ?_⟩
          rw [hyes]
          refine iteF ⟨_, rfl, _, rfl, _, rfl, iteF ⟨_, rfl, _, rfl, .inl ⟨rfl, _, SqL.of hlw10⟩, _, rfl, lw, _, .str u, n, rfl, rfl, SqL.of hlw10, rfl, flat_strs _, by rw [List.length_map]; exact hnl, ?_, fun j hj => ?_, rfl, _, rfl, iteNS rfl ?_⟩⟩
          · rw [List.getD_eq_getElem?_getD, List.getElem?_map, hwn]
            exact beq_self_eq_true u
          · obtain ⟨x, hx⟩ : ∃ x, ws[j]? = some x := ⟨_, List.getElem?_eq_getElem (by omega)⟩
            rw [List.getD_eq_getElem?_getD, List.getElem?_map, hx]
            refine beq_eq_false_iff_ne.mpr fun e => ?_
            obtain ⟨a1, a2⟩ := List.getElem?_eq_some_iff.mp hx
            obtain ⟨b1, b2⟩ := List.getElem?_eq_some_iff.mp hwn
            have := (List.getElem_inj hnd).mp (a2.trans (e.trans b2.symm))
            omega
          · exact ⟨_, _, rfl, tb10, hlq10, hlw10⟩
      · rintro σ H9 ⟨y6, y7, rfl, _⟩
        exact q _
end
end K05

set_option autoImplicit false
set_option maxRecDepth 100000
set_option maxHeartbeats 4000000
set_option linter.unusedVariables false
namespace K05
open PySem L2
theorem all_mk {l : PySem.W.OpenLaw} {w : World} {K : PySem.W.Frag} {h : Heap} {mg : Str → Option Value} {fa c T : Addr} (X : K.In h) (G : h.Ns mainGlobals mg) (hfa : mg "law" = some (.ref fa))
    {fD0 fD1 fD2 fD3 fD4 fD5 fD6 fD7 fD8 fD9 fD10 fD11 fD12 fD13 fD14 : Addr} {odD0 anD0 odD1 anD1 odD2 anD2 odD3 anD3 odD4 anD4 odD5 anD5 odD6 anD6 odD7 anD7 odD8 anD8 odD9 anD9 odD10 anD10 odD11 anD11 odD12 anD12 odD13 anD13 odD14 anD14 : Option Addr} {slD0 slD1 slD2 slD3 slD4 slD5 slD6 slD7 slD8 slD9 slD10 slD11 slD12 slD13 slD14 : Array (Option Value)} {ocD0 kVD0 dcD0 pmD0 ctD0 ocD1 kVD1 dcD1 pmD1 ctD1 ocD2 kVD2 dcD2 pmD2 ctD2 ocD3 kVD3 dcD3 pmD3 ctD3 ocD4 kVD4 dcD4 pmD4 ctD4 ocD5 kVD5 dcD5 pmD5 ctD5 ocD6 kVD6 dcD6 pmD6 ctD6 ocD7 kVD7 dcD7 pmD7 ctD7 ocD8 kVD8 dcD8 pmD8 ctD8 ocD9 kVD9 dcD9 pmD9 ctD9 ocD10 kVD10 dcD10 pmD10 ctD10 ocD11 kVD11 dcD11 pmD11 ctD11 ocD12 kVD12 dcD12 pmD12 ctD12 ocD13 kVD13 dcD13 pmD13 ctD13 ocD14 kVD14 dcD14 pmD14 ctD14 cdD0 cdD1 cdD2 cdD3 cdD4 cdD6 cdD7 cdD8 cdD9 cdD10 cdD11 cdD12 cdD13 cdD14 : Value} {oC : Value} {dC : Option Addr} {vC : Array Value} {sC : Array (Option Value)}
    (aD0 : PySem.W.nsIn K mainGlobals "_law_whole" = some (some (.ref fD0))) (lD0 : K.lookup fD0 = some ⟨ocD0, odD0, .func (PySem.W.fnOf "_law_whole" "_law_whole" (defArgs s_law_whole) (defBody s_law_whole) (defScope s_law_whole) .none kVD0 dcD0 pmD0 anD0 cdD0 ctD0), slD0⟩) (cD0 : PySem.W.codeIn K cdD0 "_law_whole" = true) (kD0 : PySem.W.keepIn K (.ref fD0) = true)
    (aD1 : PySem.W.nsIn K mainGlobals "_law_at" = some (some (.ref fD1))) (lD1 : K.lookup fD1 = some ⟨ocD1, odD1, .func (PySem.W.fnOf "_law_at" "_law_at" (defArgs s_law_at) (defBody s_law_at) (defScope s_law_at) .none kVD1 dcD1 pmD1 anD1 cdD1 ctD1), slD1⟩) (cD1 : PySem.W.codeIn K cdD1 "_law_at" = true) (kD1 : PySem.W.keepIn K (.ref fD1) = true)
    (aD2 : PySem.W.nsIn K mainGlobals "_law_text_by" = some (some (.ref fD2))) (lD2 : K.lookup fD2 = some ⟨ocD2, odD2, .func (PySem.W.fnOf "_law_text_by" "_law_text_by" (defArgs s_law_text_by) (defBody s_law_text_by) (defScope s_law_text_by) .none kVD2 dcD2 pmD2 anD2 cdD2 ctD2), slD2⟩) (cD2 : PySem.W.codeIn K cdD2 "_law_text_by" = true) (kD2 : PySem.W.keepIn K (.ref fD2) = true)
    (aD3 : PySem.W.nsIn K mainGlobals "_law_words_in" = some (some (.ref fD3))) (lD3 : K.lookup fD3 = some ⟨ocD3, odD3, .func (PySem.W.fnOf "_law_words_in" "_law_words_in" (defArgs s_law_words_in) (defBody s_law_words_in) (defScope s_law_words_in) .none kVD3 dcD3 pmD3 anD3 cdD3 ctD3), slD3⟩) (cD3 : PySem.W.codeIn K cdD3 "_law_words_in" = true) (kD3 : PySem.W.keepIn K (.ref fD3) = true)
    (aD4 : PySem.W.nsIn K mainGlobals "_law_refused" = some (some (.ref fD4))) (lD4 : K.lookup fD4 = some ⟨ocD4, odD4, .func (PySem.W.fnOf "_law_refused" "_law_refused" (defArgs s_law_refused) (defBody s_law_refused) (defScope s_law_refused) .none kVD4 dcD4 pmD4 anD4 cdD4 ctD4), slD4⟩) (cD4 : PySem.W.codeIn K cdD4 "_law_refused" = true) (kD4 : PySem.W.keepIn K (.ref fD4) = true)
    (aD5 : PySem.W.nsIn K mainGlobals "ends" = some (some (.ref fD5))) (lD5 : K.lookup fD5 = some ⟨ocD5, odD5, .func (PySem.W.fnOf "ends" "ends" (defArgs s_ends) (defBody s_ends) (defScope s_ends) .none kVD5 dcD5 pmD5 anD5 (.ref c) ctD5), slD5⟩) (cD5 : PySem.W.codeIn K (.ref c) "ends" = true) (kD5 : PySem.W.keepIn K (.ref fD5) = true)
    (aD6 : PySem.W.nsIn K mainGlobals "shared_signs" = some (some (.ref fD6))) (lD6 : K.lookup fD6 = some ⟨ocD6, odD6, .func (PySem.W.fnOf "shared_signs" "shared_signs" (defArgs s_shared_signs) (defBody s_shared_signs) (defScope s_shared_signs) .none kVD6 dcD6 pmD6 anD6 cdD6 ctD6), slD6⟩) (cD6 : PySem.W.codeIn K cdD6 "shared_signs" = true) (kD6 : PySem.W.keepIn K (.ref fD6) = true)
    (aD7 : PySem.W.nsIn K mainGlobals "shared_ahead" = some (some (.ref fD7))) (lD7 : K.lookup fD7 = some ⟨ocD7, odD7, .func (PySem.W.fnOf "shared_ahead" "shared_ahead" (defArgs s_shared_ahead) (defBody s_shared_ahead) (defScope s_shared_ahead) .none kVD7 dcD7 pmD7 anD7 cdD7 ctD7), slD7⟩) (cD7 : PySem.W.codeIn K cdD7 "shared_ahead" = true) (kD7 : PySem.W.keepIn K (.ref fD7) = true)
    (aD8 : PySem.W.nsIn K mainGlobals "ends_and_shared" = some (some (.ref fD8))) (lD8 : K.lookup fD8 = some ⟨ocD8, odD8, .func (PySem.W.fnOf "ends_and_shared" "ends_and_shared" (defArgs s_ends_and_shared) (defBody s_ends_and_shared) (defScope s_ends_and_shared) .none kVD8 dcD8 pmD8 anD8 cdD8 ctD8), slD8⟩) (cD8 : PySem.W.codeIn K cdD8 "ends_and_shared" = true) (kD8 : PySem.W.keepIn K (.ref fD8) = true)
    (aD9 : PySem.W.nsIn K mainGlobals "how_many_words" = some (some (.ref fD9))) (lD9 : K.lookup fD9 = some ⟨ocD9, odD9, .func (PySem.W.fnOf "how_many_words" "how_many_words" (defArgs s_how_many_words) (defBody s_how_many_words) (defScope s_how_many_words) .none kVD9 dcD9 pmD9 anD9 cdD9 ctD9), slD9⟩) (cD9 : PySem.W.codeIn K cdD9 "how_many_words" = true) (kD9 : PySem.W.keepIn K (.ref fD9) = true)
    (aD10 : PySem.W.nsIn K mainGlobals "word_at" = some (some (.ref fD10))) (lD10 : K.lookup fD10 = some ⟨ocD10, odD10, .func (PySem.W.fnOf "word_at" "word_at" (defArgs s_word_at) (defBody s_word_at) (defScope s_word_at) .none kVD10 dcD10 pmD10 anD10 cdD10 ctD10), slD10⟩) (cD10 : PySem.W.codeIn K cdD10 "word_at" = true) (kD10 : PySem.W.keepIn K (.ref fD10) = true)
    (aD11 : PySem.W.nsIn K mainGlobals "number_of" = some (some (.ref fD11))) (lD11 : K.lookup fD11 = some ⟨ocD11, odD11, .func (PySem.W.fnOf "number_of" "number_of" (defArgs s_number_of) (defBody s_number_of) (defScope s_number_of) .none kVD11 dcD11 pmD11 anD11 cdD11 ctD11), slD11⟩) (cD11 : PySem.W.codeIn K cdD11 "number_of" = true) (kD11 : PySem.W.keepIn K (.ref fD11) = true)
    (aD12 : PySem.W.nsIn K mainGlobals "_law_word_told" = some (some (.ref fD12))) (lD12 : K.lookup fD12 = some ⟨ocD12, odD12, .func (PySem.W.fnOf "_law_word_told" "_law_word_told" (defArgs s_law_word_told) (defBody s_law_word_told) (defScope s_law_word_told) .none kVD12 dcD12 pmD12 anD12 cdD12 ctD12), slD12⟩) (cD12 : PySem.W.codeIn K cdD12 "_law_word_told" = true) (kD12 : PySem.W.keepIn K (.ref fD12) = true)
    (aD13 : PySem.W.nsIn K mainGlobals "_law_number_told" = some (some (.ref fD13))) (lD13 : K.lookup fD13 = some ⟨ocD13, odD13, .func (PySem.W.fnOf "_law_number_told" "_law_number_told" (defArgs s_law_number_told) (defBody s_law_number_told) (defScope s_law_number_told) .none kVD13 dcD13 pmD13 anD13 cdD13 ctD13), slD13⟩) (cD13 : PySem.W.codeIn K cdD13 "_law_number_told" = true) (kD13 : PySem.W.keepIn K (.ref fD13) = true)
    (aD14 : PySem.W.nsIn K mainGlobals "law" = some (some (.ref fD14))) (lD14 : K.lookup fD14 = some ⟨ocD14, odD14, .func (PySem.W.fnOf "law" "law" (defArgs s_law) (defBody s_law) (defScope s_law) .none kVD14 dcD14 pmD14 anD14 cdD14 ctD14), slD14⟩) (cD14 : PySem.W.codeIn K cdD14 "law" = true) (kD14 : PySem.W.keepIn K (.ref fD14) = true)
    {C_NoWord C_EndError : Addr} (e_NoWord : PySem.W.nsIn K mainGlobals "NoWord" = some (some (.ref C_NoWord))) (e_EndError : PySem.W.nsIn K mainGlobals "EndError" = some (some (.ref C_EndError)))
    (x0 : PySem.W.nsIn K mainGlobals "ValueError" = some none) (x1 : OwnV K C_NoWord) (x2 : (PySem.W.clsIn K C_NoWord).isSome = true) (x3 : PySem.W.findIn K (.ref C_NoWord) "__getattribute__" = some (some (.builtin "BaseException.__getattribute__"))) (x4 : PySem.W.findIn K (.ref C_NoWord) "__getattr__" = some none)
    (x5 : PySem.W.findIn K (.ref C_NoWord) "__class__" = some (some (.builtin "object.__class__"))) (x6 : PySem.W.mroIn K C_NoWord (.type "BaseException") = some true) (x7 : PySem.W.mroIn K C_NoWord (.type "object") = some true) (x8 : PySem.W.exmOne K (.ref C_NoWord) (.ref C_EndError) = some true) (x9 : PySem.W.kitOne K (.ref C_NoWord) (.type "ValueError") = some true)
    
    (lC : K.lookup c = some ⟨oC, dC, .fields vC, sC⟩) (tC : vC[11]? = some (.ref T)) (tT : K.lookup T = none)
    (kb : PySem.W.kitOne K (.type "int") (.type "bool") = some false) (z_bool : PySem.W.nsIn K mainGlobals "bool" = some none) (z_enumerate : PySem.W.nsIn K mainGlobals "enumerate" = some none) (z_int : PySem.W.nsIn K mainGlobals "int" = some none) (z_isinstance : PySem.W.nsIn K mainGlobals "isinstance" = some none) (z_len : PySem.W.nsIn K mainGlobals "len" = some none) (z_list : PySem.W.nsIn K mainGlobals "list" = some none) (z_max : PySem.W.nsIn K mainGlobals "max" = some none) (z_range : PySem.W.nsIn K mainGlobals "range" = some none) (z_set : PySem.W.nsIn K mainGlobals "set" = some none) (z_sorted : PySem.W.nsIn K mainGlobals "sorted" = some none) (z_str : PySem.W.nsIn K mainGlobals "str" = some none) (z_sum : PySem.W.nsIn K mainGlobals "sum" = some none) (z_tuple : PySem.W.nsIn K mainGlobals "tuple" = some none) (z_zip : PySem.W.nsIn K mainGlobals "zip" = some none) :
    ∃ (c T : Addr) (fd : FuncData), PySem.W.tabIn K "ends" = some (c, T) ∧ K.lookup T = none ∧ (∀ (s : Shared) (v : Value), BindsTo s fd ⟨[v], []⟩ [("_law_script", v)]) ∧
      ∀ base : Heap, K.In base → base.Ns mainGlobals mg → PySem.W.CodeHd base c T → base.BuiltinsAt mg T → FnOk l.prog w K mg base CX0 20 fa fd ["_law_script"] (sp_law K T) := by
  have e := hfa.symm.trans (PySem.W.mg_of X G aD14)
  cases e
  have F_law_whole := fun_mk (st := s_law_whole) lD0 cD0 kD0
  have F_law_at := fun_mk (st := s_law_at) lD1 cD1 kD1
  have F_law_text_by := fun_mk (st := s_law_text_by) lD2 cD2 kD2
  have F_law_words_in := fun_mk (st := s_law_words_in) lD3 cD3 kD3
  have F_law_refused := fun_mk (st := s_law_refused) lD4 cD4 kD4
  have F_ends := fun_mk (st := s_ends) lD5 cD5 kD5
  have F_shared_signs := fun_mk (st := s_shared_signs) lD6 cD6 kD6
  have F_shared_ahead := fun_mk (st := s_shared_ahead) lD7 cD7 kD7
  have F_ends_and_shared := fun_mk (st := s_ends_and_shared) lD8 cD8 kD8
  have F_how_many_words := fun_mk (st := s_how_many_words) lD9 cD9 kD9
  have F_word_at := fun_mk (st := s_word_at) lD10 cD10 kD10
  have F_number_of := fun_mk (st := s_number_of) lD11 cD11 kD11
  have F_law_word_told := fun_mk (st := s_law_word_told) lD12 cD12 kD12
  have F_law_number_told := fun_mk (st := s_law_number_told) lD13 cD13 kD13
  have F_law := fun_mk (st := s_law) lD14 cD14 kD14
  have b_law_whole := F_law_whole.binds (ps := ["_law_found"]) fun _ _ _ _ _ _ us hl => match us, hl with | [_], _ => rfl
  have n_law_whole := PySem.W.mg_of X G aD0
  have b_law_at := F_law_at.binds (ps := ["_law_script", "_law_k"]) fun _ _ _ _ _ _ us hl => match us, hl with | [_, _], _ => rfl
  have n_law_at := PySem.W.mg_of X G aD1
  have b_law_text_by := F_law_text_by.binds (ps := ["_law_cells", "_law_seed"]) fun _ _ _ _ _ _ us hl => match us, hl with | [_, _], _ => rfl
  have n_law_text_by := PySem.W.mg_of X G aD2
  have b_law_words_in := F_law_words_in.binds (ps := ["_law_text"]) fun _ _ _ _ _ _ us hl => match us, hl with | [_], _ => rfl
  have n_law_words_in := PySem.W.mg_of X G aD3
  have b_law_refused := F_law_refused.binds (ps := ["_law_found"]) fun _ _ _ _ _ _ us hl => match us, hl with | [_], _ => rfl
  have n_law_refused := PySem.W.mg_of X G aD4
  have b_ends := F_ends.binds (ps := ["text"]) fun _ _ _ _ _ _ us hl => match us, hl with | [_], _ => rfl
  have n_ends := PySem.W.mg_of X G aD5
  have b_shared_signs := F_shared_signs.binds (ps := ["text", "one", "other"]) fun _ _ _ _ _ _ us hl => match us, hl with | [_, _, _], _ => rfl
  have n_shared_signs := PySem.W.mg_of X G aD6
  have b_shared_ahead := F_shared_ahead.binds (ps := ["text"]) fun _ _ _ _ _ _ us hl => match us, hl with | [_], _ => rfl
  have n_shared_ahead := PySem.W.mg_of X G aD7
  have b_ends_and_shared := F_ends_and_shared.binds (ps := ["text"]) fun _ _ _ _ _ _ us hl => match us, hl with | [_], _ => rfl
  have n_ends_and_shared := PySem.W.mg_of X G aD8
  have b_how_many_words := F_how_many_words.binds (ps := ["text"]) fun _ _ _ _ _ _ us hl => match us, hl with | [_], _ => rfl
  have n_how_many_words := PySem.W.mg_of X G aD9
  have b_word_at := F_word_at.binds (ps := ["text", "number"]) fun _ _ _ _ _ _ us hl => match us, hl with | [_, _], _ => rfl
  have n_word_at := PySem.W.mg_of X G aD10
  have b_number_of := F_number_of.binds (ps := ["text", "word"]) fun _ _ _ _ _ _ us hl => match us, hl with | [_, _], _ => rfl
  have n_number_of := PySem.W.mg_of X G aD11
  have b_law_word_told := F_law_word_told.binds (ps := ["_law_text", "_law_number"]) fun _ _ _ _ _ _ us hl => match us, hl with | [_, _], _ => rfl
  have n_law_word_told := PySem.W.mg_of X G aD12
  have b_law_number_told := F_law_number_told.binds (ps := ["_law_text", "_law_word"]) fun _ _ _ _ _ _ us hl => match us, hl with | [_, _], _ => rfl
  have n_law_number_told := PySem.W.mg_of X G aD13
  have m_bool := PySem.W.mg_none_of X G z_bool
  have m_enumerate := PySem.W.mg_none_of X G z_enumerate
  have m_int := PySem.W.mg_none_of X G z_int
  have m_isinstance := PySem.W.mg_none_of X G z_isinstance
  have m_len := PySem.W.mg_none_of X G z_len
  have m_list := PySem.W.mg_none_of X G z_list
  have m_max := PySem.W.mg_none_of X G z_max
  have m_range := PySem.W.mg_none_of X G z_range
  have m_set := PySem.W.mg_none_of X G z_set
  have m_sorted := PySem.W.mg_none_of X G z_sorted
  have m_str := PySem.W.mg_none_of X G z_str
  have m_sum := PySem.W.mg_none_of X G z_sum
  have m_tuple := PySem.W.mg_none_of X G z_tuple
  have m_zip := PySem.W.mg_none_of X G z_zip
  have X_NoWord : Errs K mg "NoWord" C_NoWord C_EndError := ⟨PySem.W.mg_of X G e_NoWord, PySem.W.mg_of X G e_EndError, PySem.W.mg_none_of X G x0, x1, ⟨x2, x3, x4, x5, x6, x7⟩, x8, x9⟩
  have ht : PySem.W.tabIn K "ends" = some (c, T) := by
    unfold PySem.W.tabIn
    rw [aD5]
    dsimp only
    rw [lD5]
    dsimp only
    rw [lC]
    dsimp only
    rw [tC]
  refine ⟨c, T, PySem.W.fnOf "law" "law" (defArgs s_law) (defBody s_law) (defScope s_law) .none kVD14 dcD14 pmD14 anD14 cdD14 ctD14, ht, tT, fun s v => .of_eq rfl, fun base _ _ hC hB => ?_⟩
  have G_law_whole : Has l.prog w K mg base CX0 _ "_law_whole" _ _ := ⟨_, _, ok_whole F_law_whole m_isinstance m_int m_bool kb, b_law_whole, kD0, n_law_whole⟩
  have G_law_at : Has l.prog w K mg base CX0 _ "_law_at" _ _ := ⟨_, _, ok_at F_law_at m_len, b_law_at, kD1, n_law_at⟩
  have G_law_text_by : Has l.prog w K mg base CX0 _ "_law_text_by" _ _ := ⟨_, _, ok_text F_law_text_by m_len m_range, b_law_text_by, kD2, n_law_text_by⟩
  have G_law_words_in : Has l.prog w K mg base CX0 _ "_law_words_in" _ _ := ⟨_, _, ok_words_in F_law_words_in m_len m_range m_sorted m_set, b_law_words_in, kD3, n_law_words_in⟩
  have G_law_refused : Has l.prog w K mg base CX0 _ "_law_refused" _ _ := ⟨_, _, ok_refused F_law_refused m_isinstance m_tuple, b_law_refused, kD4, n_law_refused⟩
  have G_ends : Has l.prog w K mg base CX0 _ "ends" _ _ := ⟨_, _, ok_ends F_ends rfl hC hB m_len m_range m_sorted, b_ends, kD5, n_ends⟩
  have G_shared_signs : Has l.prog w K mg base CX0 _ "shared_signs" _ _ := ⟨_, _, ok_shared_signs F_shared_signs m_len m_max, b_shared_signs, kD6, n_shared_signs⟩
  have G_shared_ahead : Has l.prog w K mg base CX0 _ "shared_ahead" _ _ := ⟨_, _, ok_shared_ahead F_shared_ahead G_ends G_shared_signs m_enumerate, b_shared_ahead, kD7, n_shared_ahead⟩
  have G_ends_and_shared : Has l.prog w K mg base CX0 _ "ends_and_shared" _ _ := ⟨_, _, ok_pairs F_ends_and_shared G_ends G_shared_ahead m_list m_zip, b_ends_and_shared, kD8, n_ends_and_shared⟩
  have G_how_many_words : Has l.prog w K mg base CX0 _ "how_many_words" _ _ := ⟨_, _, ok_how_many F_how_many_words G_ends_and_shared m_len m_sum, b_how_many_words, kD9, n_how_many_words⟩
  have G_word_at : Has l.prog w K mg base (CX1 l.prog w) _ "word_at" _ _ := ⟨_, _, ok_word_at F_word_at X_NoWord G_ends_and_shared m_len, b_word_at, kD10, n_word_at⟩
  have G_number_of : Has l.prog w K mg base (CX1 l.prog w) _ "number_of" _ _ := ⟨_, _, ok_number_of F_number_of X_NoWord G_ends_and_shared m_len, b_number_of, kD11, n_number_of⟩
  have G_law_word_told : Has l.prog w K mg base CX0 _ "_law_word_told" _ _ := ⟨_, _, ok_word_told F_law_word_told X_NoWord G_word_at m_isinstance, b_law_word_told, kD12, n_law_word_told⟩
  have G_law_number_told : Has l.prog w K mg base CX0 _ "_law_number_told" _ _ := ⟨_, _, ok_number_told F_law_number_told X_NoWord G_number_of m_isinstance, b_law_number_told, kD13, n_law_number_told⟩
  exact (ok_law F_law G_law_at G_law_text_by G_law_whole G_law_words_in G_how_many_words G_law_word_told G_law_number_told G_law_refused m_len m_isinstance m_str).mono (by decide)
theorem walk {l : PySem.W.OpenLaw} {q : Program} {loose : List Str} {XP : (Str → Option Value) → Heap → Prop} {YP : World → Heap → Prop} {d dy : DefRec} {K : Params → PySem.W.Frag} (hn : l.most = some 63) (hdf : d.params.defaults = [])
    (hY : ∀ (w : World) (h : Heap), YP w h → (K w.params).In h) (hrec : (PyProof.Rows.recsOf q).find? (fun e => e.name == Str.ofString "ends") = some dy)
    (F : ∀ (w : World) (mg : Str → Option Value) (fa : Addr) (h : Heap), (K w.params).In h → h.Ns mainGlobals mg → mg d.name = some (.ref fa) →
      ∃ (c T : Addr) (fd : FuncData), PySem.W.tabIn (K w.params) "ends" = some (c, T) ∧ (K w.params).lookup T = none ∧ (∀ (s : Shared) (v : Value), BindsTo s fd ⟨[v], []⟩ [("_law_script", v)]) ∧
        ∀ base : Heap, (K w.params).In base → base.Ns mainGlobals mg → PySem.W.CodeHd base c T → base.BuiltinsAt mg T → FnOk l.prog w (K w.params) mg base CX0 20 fa fd ["_law_script"] (sp_law (K w.params) T)) :
    PySem.W.WalkO q loose XP YP l.row.toRowW d [] (fun f vs => PySem.call f vs) :=
  Att.attach_call hn hdf fun w s₀ s₁ mg mb fa o pm cd doc a vs ns G Y ho hd hcd hmg hobj hints hlen hg => by
    have KX := hY w _ Y
    obtain ⟨c, T, fd, htab, hKT, hb, hF⟩ := F w mg fa _ KX G.T.g hmg
    obtain ⟨hC, hT⟩ := PySem.W.tab_of G.T KX hrec htab
    exact law_callT KX G.T.g G.T.b G.T.builtins G.T.nolimit hg hobj hints (Nat.le_trans hlen (by decide)) ⟨rfl, by decide, by decide⟩ hC hT hKT G.T.bmain hF hb fun H hS hT => ⟨a, ns, rfl, hS, hlen, hT, fun _ => rfl⟩
end K05
open PySem PySem.W PyProof.Rows
set_option maxRecDepth 100000 in
set_option maxHeartbeats 0 in
theorem PySem.Challenge.cw_endbook_k05_whole_words_by_number_holds : PySem.Challenge.rw_endbook_k05_whole_words_by_number.Holds := by
  w_on; o_law; k_head; (case hw => w_witness2)
  k_fill
  refine K05.walk (l := PySem.Challenge.rw_endbook_k05_whole_words_by_number) rfl rfl (fun w h Y => PySem.W.km_in_of Y) rfl ?F
  case F =>
    intro w mg fa h KX G hmg
    refine' K05.all_mk KX G hmg ?aD0 ?lD0 ?cD0 ?kD0 ?aD1 ?lD1 ?cD1 ?kD1 ?aD2 ?lD2 ?cD2 ?kD2 ?aD3 ?lD3 ?cD3 ?kD3 ?aD4 ?lD4 ?cD4 ?kD4 ?aD5 ?lD5 ?cD5 ?kD5 ?aD6 ?lD6 ?cD6 ?kD6 ?aD7 ?lD7 ?cD7 ?kD7 ?aD8 ?lD8 ?cD8 ?kD8 ?aD9 ?lD9 ?cD9 ?kD9 ?aD10 ?lD10 ?cD10 ?kD10 ?aD11 ?lD11 ?cD11 ?kD11 ?aD12 ?lD12 ?cD12 ?kD12 ?aD13 ?lD13 ?cD13 ?kD13 ?aD14 ?lD14 ?cD14 ?kD14 ?e_NoWord ?e_EndError ?x0 ?x1 ?x2 ?x3 ?x4 ?x5 ?x6 ?x7 ?x8 ?x9 ?lC ?tC ?tT ?kb ?z_bool ?z_enumerate ?z_int ?z_isinstance ?z_len ?z_list ?z_max ?z_range ?z_set ?z_sorted ?z_str ?z_sum ?z_tuple ?z_zip
    (case aD0 => k_is)
    (case lD0 => k_is)
    (case cD0 => k_is)
    (case kD0 => k_is)
    (case aD1 => k_is)
    (case lD1 => k_is)
    (case cD1 => k_is)
    (case kD1 => k_is)
    (case aD2 => k_is)
    (case lD2 => k_is)
    (case cD2 => k_is)
    (case kD2 => k_is)
    (case aD3 => k_is)
    (case lD3 => k_is)
    (case cD3 => k_is)
    (case kD3 => k_is)
    (case aD4 => k_is)
    (case lD4 => k_is)
    (case cD4 => k_is)
    (case kD4 => k_is)
    (case aD5 => k_is)
    (case lD5 => k_is)
    (case cD5 => k_is)
    (case kD5 => k_is)
    (case aD6 => k_is)
    (case lD6 => k_is)
    (case cD6 => k_is)
    (case kD6 => k_is)
    (case aD7 => k_is)
    (case lD7 => k_is)
    (case cD7 => k_is)
    (case kD7 => k_is)
    (case aD8 => k_is)
    (case lD8 => k_is)
    (case cD8 => k_is)
    (case kD8 => k_is)
    (case aD9 => k_is)
    (case lD9 => k_is)
    (case cD9 => k_is)
    (case kD9 => k_is)
    (case aD10 => k_is)
    (case lD10 => k_is)
    (case cD10 => k_is)
    (case kD10 => k_is)
    (case aD11 => k_is)
    (case lD11 => k_is)
    (case cD11 => k_is)
    (case kD11 => k_is)
    (case aD12 => k_is)
    (case lD12 => k_is)
    (case cD12 => k_is)
    (case kD12 => k_is)
    (case aD13 => k_is)
    (case lD13 => k_is)
    (case cD13 => k_is)
    (case kD13 => k_is)
    (case aD14 => k_is)
    (case lD14 => k_is)
    (case cD14 => k_is)
    (case kD14 => k_is)
    (case e_NoWord => k_is)
    (case e_EndError => k_is)
    (case x0 => k_is)
    (case x1 => kernel_rfl)
    (case x2 => kernel_rfl)
    (case x3 => kernel_rfl)
    (case x4 => kernel_rfl)
    (case x5 => kernel_rfl)
    (case x6 => kernel_rfl)
    (case x7 => kernel_rfl)
    (case x8 => kernel_rfl)
    (case x9 => kernel_rfl)
    (case lC => k_is)
    (case tC => rfl)
    (case tT => kernel_rfl)
    (case kb => kernel_rfl)
    (case z_bool => k_is)
    (case z_enumerate => k_is)
    (case z_int => k_is)
    (case z_isinstance => k_is)
    (case z_len => k_is)
    (case z_list => k_is)
    (case z_max => k_is)
    (case z_range => k_is)
    (case z_set => k_is)
    (case z_sorted => k_is)
    (case z_str => k_is)
    (case z_sum => k_is)
    (case z_tuple => k_is)
    (case z_zip => k_is)
