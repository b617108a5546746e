import PyProof.Rows.All
import Wide.All
import OpenK.AllK
import Wide.FinOn
import PyProof.EqAt
import PyProof.EqKinds
import PyProof.TupleCall
import KE.BitLaws
import Open.SpecLaws
import KE.OsHead
import KE.OsGo
import PySem.Challenge.RW_orderkeeping_s01_answers
section
-- CHANGE: your row's module here, as the last of these rows
set_option Elab.async false
set_option linter.all false
set_option maxRecDepth 100000
namespace L2
open PySem PySem.Spec PyProof.Rows

/-- a key: an int or a str -/
abbrev Key := Sum Int Str
def keyIs : Key → Value → Bool
  | .inl k, v => Value.isInt k v
  | .inr x, v => Value.isStrOf x v
def keyH (w : World) : Key → Int
  | .inl k => hashInt k
  | .inr x => hashStr w x
theorem keyIs_shape : ∀ {k : Key} {v : Value}, keyIs k v = true → (∃ i t, k = Sum.inl i ∧ v = Value.int i t) ∨ (∃ x t, k = Sum.inr x ∧ v = Value.str x t)
  | .inl i, v, h => by
    obtain ⟨t, e⟩ := Value.isInt_shape (k := i) (v := v) h
    exact .inl ⟨i, t, rfl, e⟩
  | .inr x, v, h => by
    obtain ⟨t, e⟩ := Value.isStrOf_shape (x := x) (v := v) h
    exact .inr ⟨x, t, rfl, e⟩
theorem key_ll (a b : Int) : decide ((Sum.inl a : Key) = Sum.inl b) = (a == b) := by
  by_cases e : a = b
  · subst e; simp
  · have h : ¬ (Sum.inl a : Key) = Sum.inl b := fun q => e (Sum.inl.inj q)
    rw [decide_eq_false h]
    exact (beq_eq_false_iff_ne.mpr e).symm
theorem key_rr (a b : Str) : decide ((Sum.inr a : Key) = Sum.inr b) = decide (a = b) := by
  by_cases e : a = b
  · subst e; simp
  · have h : ¬ (Sum.inr a : Key) = Sum.inr b := fun q => e (Sum.inr.inj q)
    rw [decide_eq_false h, decide_eq_false e]
theorem key_lr (a : Int) (b : Str) : decide ((Sum.inl a : Key) = Sum.inr b) = false := decide_eq_false (fun q => nomatch q)
theorem key_rl (a : Str) (b : Int) : decide ((Sum.inr a : Key) = Sum.inl b) = false := decide_eq_false (fun q => nomatch q)

def mixKind (prog : Program) (w : World) : PySem.KeyKind prog w Key where
  is := keyIs
  hash := keyH w
  inj := fun v a b ha hb => by
    rcases keyIs_shape ha with ⟨i, t, rfl, rfl⟩ | ⟨x, t, rfl, rfl⟩
    · rcases keyIs_shape hb with ⟨j, u, rfl, e⟩ | ⟨y, u, rfl, e⟩
      · injection e with e1 _; rw [e1]
      · exact nomatch e
    · rcases keyIs_shape hb with ⟨j, u, rfl, e⟩ | ⟨y, u, rfl, e⟩
      · exact nomatch e
      · injection e with e1 _; rw [e1]
  byValue := fun k v h => by
    rcases keyIs_shape h with ⟨i, t, rfl, rfl⟩ | ⟨x, t, rfl, rfl⟩ <;> rfl
  pyHash := fun hv h => by
    rcases keyIs_shape hv with ⟨i, t, rfl, rfl⟩ | ⟨x, t, rfl, rfl⟩
    · exact wpAny_pyHash_int h
    · exact wpAny_pyHash_str h
  eqBool := fun hu hv h => by
    rcases keyIs_shape hu with ⟨i, t, rfl, rfl⟩ | ⟨x, t, rfl, rfl⟩
    · rcases keyIs_shape hv with ⟨j, u, rfl, rfl⟩ | ⟨y, u, rfl, rfl⟩
      · rw [key_ll] at h; exact wpAny_eqBool_int h
      · rw [key_lr] at h; exact SeqAt.EqAt.int_str i t y u _ _ _ _ h
    · rcases keyIs_shape hv with ⟨j, u, rfl, rfl⟩ | ⟨y, u, rfl, rfl⟩
      · rw [key_rl] at h; exact SeqAt.EqAt.str_int x t j u _ _ _ _ h
      · rw [key_rr] at h; exact wpAny_eqBool_str h
  «strs» := fun k x t v h => by
    rcases keyIs_shape h with ⟨i, u, rfl, e⟩ | ⟨y, u, rfl, e⟩
    · exact nomatch e
    · injection e with e1 _
      subst e1
      cases v <;> rfl

end L2

namespace L2
open PySem PySem.Spec PyProof.Rows

/-- a value, without the heap -/
inductive V where
  | non | bl (b : Bool) | int (i : Int) | str (x : Str) | byt (b : Array UInt8) | flt (b : UInt64) | ref (a : Addr) | ty (n : String)
  deriving DecidableEq

def RelV : V → Value → Prop
  | .non, u => u = Value.none
  | .bl b, u => u = Value.bool b
  | .int i, u => ∃ t, u = Value.int i t
  | .str x, u => ∃ t, u = Value.str x t
  | .byt b, u => ∃ t, u = Value.bytes b t
  | .flt b, u => ∃ t, u = Value.float b t
  | .ref a, u => u = Value.ref a
  | .ty n, u => u = Value.type n

abbrev Vals : List V → List Value → Prop := Paired RelV
theorem Vals.length {xs : List V} {us : List Value} (r : Vals xs us) : xs.length = us.length := Paired.length r
theorem Vals.get : ∀ {xs : List V} {us : List Value} {i : Nat} {x : V}, Vals xs us → xs[i]? = some x → ∃ u, us[i]? = some u ∧ RelV x u
  | _, _, _, _, .nil, e => by simp at e
  | _, _, 0, _, .cons r _, e => by simp at e; subst e; exact ⟨_, rfl, r⟩
  | _, _, i + 1, x, .cons _ t, e => by
    obtain ⟨u, h1, h2⟩ := Vals.get (i := i) (x := x) t (by simpa using e)
    exact ⟨u, by simpa using h1, h2⟩
theorem Vals.set {x : V} {u : Value} (r : RelV x u) : ∀ {xs : List V} {us : List Value} (i : Nat), Vals xs us → Vals (xs.set i x) (us.set i u)
  | _, _, _, .nil => .nil
  | _, _, 0, .cons _ t => .cons r t
  | _, _, i + 1, .cons q t => .cons q (Vals.set r i t)
theorem Vals.append : ∀ {xs ys : List V} {us ws : List Value}, Vals xs us → Vals ys ws → Vals (xs ++ ys) (us ++ ws)
  | _, _, _, _, .nil, s => s
  | _, _, _, _, .cons r t, s => .cons r (Vals.append t s)
theorem Vals.take : ∀ {xs : List V} {us : List Value} (n : Nat), Vals xs us → Vals (xs.take n) (us.take n)
  | _, _, 0, _ => .nil
  | _, _, _ + 1, .nil => .nil
  | _, _, n + 1, .cons r t => .cons r (Vals.take n t)
theorem Vals.drop : ∀ {xs : List V} {us : List Value} (n : Nat), Vals xs us → Vals (xs.drop n) (us.drop n)
  | _, _, 0, r => r
  | _, _, _ + 1, .nil => .nil
  | _, _, n + 1, .cons _ t => Vals.drop n t
def RelO : Option V → Option Value → Prop
  | some v, some u => RelV v u
  | none, none => True
  | _, _ => False
def KV {κ : Type} : List (κ × V) → List (κ × Value) → Prop := Paired fun (p : κ × V) (q : κ × Value) => p.1 = q.1 ∧ RelV p.2 q.2

/-- a key of a dict (00_mix): an int or a text -/
def kV : Key → V
  | .inl i => .int i
  | .inr x => .str x

/-- what stands at a tracked address -/
inductive HO where
  /-- a list -/
  | lst (xs : List V)
  /-- a tuple (never changes) -/
  | tup (xs : List V)
  /-- a dict whose keys are ints and texts; one whose keys are tuples of ints and texts (the empty one is both) -/
  | dK (kvs : List (Key × V)) | dT (kvs : List (List Key × V))
  /-- a set of ints: its members, its size -/
  | set (S : Int → Bool) (n : Nat)
  /-- an instance of the class at C, its dict at dx, its attributes -/
  | ins (C dx : Addr) (fs : List (Str × V))
  /-- the dict of the instance at x -/
  | own (x : Addr)
  /-- the dict of an exception -/
  | xd (fs : List (Str × V))
  /-- a bound method, f of x -/
  | met (f x : Addr)
  /-- a range object lo, lo + 1, .. below hi -/
  | rng (lo hi : Int)
  /-- a thing that is known to the object (the script; a dict while a loop walks it): read, never written while it is so -/
  | frz (o : Obj) (u : HO)
  /-- a code object's table -/
  | tbl (ps : Array Value)
  /-- any other thing, by what is true of its one object (a def of one's own: SetO a S n := HO.ext fun h => ..) -/
  | ext (φ : Heap → Prop)

abbrev Hp := Addr → Option HO
def upd (H : Hp) (a : Addr) (o : HO) : Hp := fun b => if b = a then some o else H b
theorem upd_same {H : Hp} {a : Addr} {o : HO} : upd H a o a = some o := by unfold upd; rw [if_pos rfl]
theorem upd_ne {H : Hp} {a b : Addr} {o : HO} (h : b ≠ a) : upd H a o b = H b := by unfold upd; rw [if_neg h]
theorem upd_upd {H : Hp} {a : Addr} {o u : HO} : upd (upd H a o) a u = upd H a u := by
  funext b; unfold upd; split <;> rfl
/-- two objects of different content stand apart -/
theorem ne_of {H : Hp} {a b : Addr} {o u : HO} (h : H a = some o) (h' : H b = some u) (d : o ≠ u) : a ≠ b := by
  intro e; subst e; rw [h] at h'; exact d (Option.some.inj h')
theorem ne_of_none {H : Hp} {a b : Addr} {o : HO} (h : H a = some o) (h' : H b = none) : a ≠ b := by
  intro e; subst e; rw [h] at h'; cases h'

section
variable (P : Program) (w : World)
def ObjOk (H : Hp) (h : Heap) (a : Addr) : HO → Prop
  | .lst xs => xs.length ≤ sizeLine ∧ ∃ (its : List Value) (n : Nat), Vals xs its ∧ h.get? a = some { cls := .type "list", data := .seq its.toArray n }
  | .tup xs => xs.length ≤ sizeLine ∧ ∃ its : List Value, Vals xs its ∧ IsTup h a its.toArray
  | .dK kvs => kvs.length ≤ sizeLine ∧ (a == sysModules) = false ∧ ∃ vs, KV kvs vs ∧ h.DictOf (mixKind P w) a vs
  | .dT kvs => kvs.length ≤ sizeLine ∧ (a == sysModules) = false ∧ ∃ xs : List (List Key × Addr × Value),
      Paired (fun (p : List Key × V) (q : List Key × Addr × Value) => p.1 = q.1 ∧ H q.2.1 = some (.tup (p.1.map kV)) ∧ RelV p.2 q.2.2) kvs xs ∧
      ∃ o es ep, h.get? a = some o ∧ o.ExactDict ∧ o.data = .dict es ep ∧ es.toList = xs.map (entryOfKey (tupleKind (mixKind P w))) ∧ (xs.map (·.1)).Nodup
  | .set S n => h.SetOf (intKind P w) a S n
  | .ins C dx fs => H dx = some (.own a) ∧ fs.length ≤ 1000 ∧ dx ≠ a ∧ h.get? a = some (PySem.W.instObj C dx) ∧
      ∃ mA, h.Ns1 dx mA ∧ (∀ f, RelO (fs.lookup f) (mA f)) ∧ PySem.Within mA (fs.map (·.1))
  | .own _ => ∃ o, h.get? a = some o
  | .xd fs => ∃ mA, h.Ns1 a mA ∧ ∀ f, RelO (fs.lookup f) (mA f)
  | .rng lo hi => ∃ t u v, h.get? a = some { cls := .type "range", data := .fields #[.int lo t, .int hi u, .int 1 v] }
  | .frz o u => h.get? a = some o ∧ ObjOk H h a u
  | .tbl ps => h.get? a = some { cls := .none, data := .fields ps }
  | .met f x => h.get? a = some (PySem.W.methodObj (.ref f) (.ref x))
  | .ext φ => φ h ∧ (∃ o, h.get? a = some o) ∧ ∀ h1 h2 : Heap, φ h1 → (∀ o, h1.get? a = some o → h2.get? a = some o) → φ h2
/-- the abstract heap is held -/
def HOk (H : Hp) (h : Heap) : Prop := ∀ a o, H a = some o → ObjOk P w H h a o
end

section
variable {P : Program} {w : World} {H H' : Hp} {h h' : Heap} {a : Addr} {o : HO}
theorem ObjOk.lt (x : ObjOk P w H h a o) : a < h.objs.size := by
  cases o with
  | lst xs => obtain ⟨_, _, _, _, e⟩ := x; exact Heap.lt_size e
  | tup xs => obtain ⟨_, _, _, p⟩ := x; exact p.lt
  | dK kvs => obtain ⟨_, _, _, _, o, _, _, e, _⟩ := x; exact Heap.lt_size e
  | dT kvs => obtain ⟨_, _, _, _, o, _, _, e, _⟩ := x; exact Heap.lt_size e
  | set S n => obtain ⟨o, _, _, _, e, _⟩ := x; exact Heap.lt_size e
  | ins C dx fs => obtain ⟨_, _, _, e, _⟩ := x; exact Heap.lt_size e
  | own y => obtain ⟨_, e⟩ := x; exact Heap.lt_size e
  | xd fs => obtain ⟨_, ⟨_, _, _, e, _⟩, _⟩ := x; exact Heap.lt_size e
  | rng lo hi => obtain ⟨_, _, _, e⟩ := x; exact Heap.lt_size e
  | frz ob u => obtain ⟨e, _⟩ := x; exact Heap.lt_size e
  | tbl ps => exact Heap.lt_size (show h.get? a = some _ from x)
  | met f y => exact Heap.lt_size (show h.get? a = some _ from x)
  | ext φ => obtain ⟨_, ⟨_, e⟩, _⟩ := x; exact Heap.lt_size e
theorem Paired.mapP {α β : Type} {F G : α → β → Prop} : ∀ {l₁ : List α} {l₂ : List β}, Paired F l₁ l₂ → (∀ a b, F a b → G a b) → Paired G l₁ l₂
  | _, _, .nil, _ => .nil
  | _, _, .cons r t, f => .cons (f _ _ r) (Paired.mapP t f)
/-- what an object's description leans on: its own object, its own dict, the tuples -/
theorem ObjOk.stay (x : ObjOk P w H h a o) (k : ∀ b u, (b = a ∨ H b = some (.own a)) → h.get? b = some u → h'.get? b = some u)
    (ho : ∀ b, H b = some (.own a) → H' b = some (.own a)) (ht : ∀ b xs, H b = some (.tup xs) → H' b = some (.tup xs)) : ObjOk P w H' h' a o := by
  induction o with
  | lst xs => obtain ⟨z, its, n, r, e⟩ := x; exact ⟨z, its, n, r, k _ _ (.inl rfl) e⟩
  | tup xs => obtain ⟨z, its, r, ob, e, c⟩ := x; exact ⟨z, its, r, ob, k _ _ (.inl rfl) e, c⟩
  | dK kvs => obtain ⟨z, y, vs, r, ob, es, ep, e, c⟩ := x; exact ⟨z, y, vs, r, ob, es, ep, k _ _ (.inl rfl) e, c⟩
  | dT kvs =>
    obtain ⟨z, y, xs, r, ob, es, ep, e, c⟩ := x
    exact ⟨z, y, xs, Paired.mapP r fun p q z => ⟨z.1, ht _ _ z.2.1, z.2.2⟩, ob, es, ep, k _ _ (.inl rfl) e, c⟩
  | set S n => obtain ⟨ob, es, ep, t, e, c⟩ := x; exact ⟨ob, es, ep, t, k _ _ (.inl rfl) e, c⟩
  | ins C dx fs =>
    obtain ⟨d, z, ne, e, mA, ⟨od, es, ep, e2, c⟩, r⟩ := x
    exact ⟨ho _ d, z, ne, k _ _ (.inl rfl) e, mA, ⟨od, es, ep, k _ _ (.inr d) e2, c⟩, r⟩
  | own y => obtain ⟨ob, e⟩ := x; exact ⟨ob, k _ _ (.inl rfl) e⟩
  | xd fs => obtain ⟨mA, ⟨od, es, ep, e, c⟩, r⟩ := x; exact ⟨mA, ⟨od, es, ep, k _ _ (.inl rfl) e, c⟩, r⟩
  | rng lo hi => obtain ⟨t, u, v, e⟩ := x; exact ⟨t, u, v, k _ _ (.inl rfl) e⟩
  | frz ob u ih => obtain ⟨e, q⟩ := x; exact ⟨k _ _ (.inl rfl) e, ih q⟩
  | tbl ps =>
    have e : h.get? a = some { cls := .none, data := .fields ps } := x
    show h'.get? a = some { cls := .none, data := .fields ps }
    exact k a _ (.inl rfl) e
  | met f y =>
    have e : h.get? a = some (PySem.W.methodObj (.ref f) (.ref y)) := x
    show h'.get? a = some (PySem.W.methodObj (.ref f) (.ref y))
    exact k a _ (.inl rfl) e
  | ext φ => obtain ⟨p, ⟨o, e⟩, st⟩ := x; exact ⟨st _ _ p fun o q => k _ _ (.inl rfl) q, ⟨o, k _ _ (.inl rfl) e⟩, st⟩
theorem HOk.lt (x : HOk P w H h) (e : H a = some o) : a < h.objs.size := (x a o e).lt
theorem HOk.fresh (x : HOk P w H h) (e : h.objs.size ≤ a) : H a = none := by
  cases q : H a with
  | none => rfl
  | some u => exact absurd (Nat.lt_of_lt_of_le (x.lt q) e) (Nat.lt_irrefl _)
/-- every object of the heap is kept -/
theorem HOk.kept (x : HOk P w H h) (k : ∀ b u, h.get? b = some u → h'.get? b = some u) : HOk P w H h' := fun a o e =>
  (x a o e).stay (fun b u _ q => k b u q) (fun _ q => q) fun _ _ q => q
/-- a new object is laid and tracked -/
theorem HOk.laid (x : HOk P w H h) (k : ∀ b u, h.get? b = some u → h'.get? b = some u) (hp : h.objs.size ≤ a) (new : ObjOk P w (upd H a o) h' a o) : HOk P w (upd H a o) h' := fun b u e => by
  have hn := x.fresh hp
  by_cases hb : b = a
  · subst hb; rw [upd_same] at e; cases e; exact new
  · rw [upd_ne hb] at e
    exact (x b u e).stay (fun c v _ q => k c v q) (fun c q => by rw [upd_ne (ne_of_none q hn)]; exact q) fun c xs q => by rw [upd_ne (ne_of_none q hn)]; exact q
end

/-- what may be read as u: it is u, or a known u -/
def Rd (H : Hp) (a : Addr) (u : HO) : Prop := H a = some u ∨ ∃ o, H a = some (.frz o u)
theorem Rd.ok {P : Program} {w : World} {H : Hp} {h : Heap} {a : Addr} {u : HO} (r : Rd H a u) (x : HOk P w H h) : ObjOk P w H h a u := by
  rcases r with r | ⟨o, r⟩
  · exact x a u r
  · obtain ⟨_, q⟩ := x a _ r
    exact q
/-- what may be written -/
def Mut : Option HO → Prop
  | some (.lst _) => True
  | some (.dK _) => True
  | some (.dT _) => True
  | some (.set _ _) => True
  | some (.ins _ _ _) => True
  | some (.ext _) => True
  | _ => False
section
variable {P : Program} {w : World} {H : Hp} {h h' : Heap} {x e : Addr} {o' : HO}
/-- the object at e is changed: x itself, or the dict of the instance x -/
theorem HOk.write (ok : HOk P w H h) (mu : Mut (H x)) (he : e = x ∨ H e = some (.own x)) (k : ∀ b u, b ≠ e → h.get? b = some u → h'.get? b = some u) (heo : ∃ u, h'.get? e = some u)
    (new : ObjOk P w (upd H x o') h' x o') : HOk P w (upd H x o') h' := fun b u q => by
  have nown : ∀ c y, H c = some (.own y) → c ≠ x := fun c y r z => by subst z; rw [r] at mu; exact mu
  have ntup : ∀ c xs, H c = some (.tup xs) → c ≠ x := fun c xs r z => by subst z; rw [r] at mu; exact mu
  by_cases hb : b = x
  · subst hb; rw [upd_same] at q; cases q; exact new
  · rw [upd_ne hb] at q
    by_cases hbe : b = e
    · have q' : H b = some (.own x) := by
        rcases he with z | z
        · exact absurd (hbe.trans z) hb
        · rw [hbe]; exact z
      rw [q] at q'; cases q'
      obtain ⟨v, hv⟩ := heo
      exact ⟨v, by rw [hbe]; exact hv⟩
    · refine (ok b u q).stay (fun c v hc r => k c v ?_ r) (fun c r => by rw [upd_ne (nown c b r)]; exact r) fun c xs r => by rw [upd_ne (ntup c xs r)]; exact r
      rcases hc with rfl | hc
      · exact hbe
      · rintro rfl
        rcases he with z | z
        · exact nown c b hc z
        · rw [hc] at z; cases z; exact hb rfl
end

structure Un (fs ex : List Addr) (H H' : Hp) (h h' : Heap) : Prop where
  keep : ∀ b o, h.get? b = some o → H b = none → b ∉ fs → b ∉ ex → h'.get? b = some o
  slot : ∀ b o, h.get? b = some o → H b = none → b ∈ fs → b ∉ ex → ∃ sl, h'.get? b = some { o with slots := sl }
  free : ∀ b o, h.get? b = some o → H b = none → b ∉ ex → H' b = none
  there : ∀ b o, h.get? b = some o → b ∉ ex → ∃ o', h'.get? b = some o'
  tups : ∀ b xs, H b = some (.tup xs) → H' b = some (.tup xs)
  frzs : ∀ b o u, H b = some (.frz o u) → H' b = some (.frz o u)
  tbls : ∀ b ps, H b = some (.tbl ps) → ∃ more, H' b = some (.tbl (ps ++ more))
section
variable {fs fs' ex ex' : List Addr} {H H1 H2 : Hp} {h h1 h2 h' : Heap} {a x e : Addr} {o : HO}
theorem Un.any (u : Un fs ex H H1 h h1) {b : Addr} {ob : Obj} (q : h.get? b = some ob) (n : H b = none) (hx : b ∉ ex) : ∃ sl, h1.get? b = some { ob with slots := sl } := by
  by_cases hb : b ∈ fs
  · exact u.slot b ob q n hb hx
  · exact ⟨ob.slots, u.keep b ob q n hb hx⟩
theorem Un.kept (k : ∀ b u, h.get? b = some u → h'.get? b = some u) : Un fs ex H H h h' :=
  ⟨fun b ob q _ _ _ => k b ob q, fun b ob q _ _ _ => ⟨ob.slots, k b ob q⟩, fun _ _ _ n _ => n, fun b ob q _ => ⟨ob, k b ob q⟩, fun _ _ q => q, fun _ _ _ q => q, fun _ ps q => ⟨#[], by rw [q]; simp⟩⟩
theorem Un.refl : Un fs ex H H h h := Un.kept fun _ _ q => q
theorem Un.laid (k : ∀ b u, h.get? b = some u → h'.get? b = some u) (hp : h.objs.size ≤ a) (hn : H a = none) : Un fs ex H (upd H a o) h h' where
  keep := fun b u q _ _ _ => k b u q
  slot := fun b u q _ _ _ => ⟨u.slots, k b u q⟩
  free := fun b u q n _ => by rw [upd_ne (Nat.ne_of_lt (Nat.lt_of_lt_of_le (Heap.lt_size q) hp))]; exact n
  there := fun b u q _ => ⟨u, k b u q⟩
  tups := fun b xs q => by rw [upd_ne (ne_of_none q hn)]; exact q
  frzs := fun b u xs q => by rw [upd_ne (ne_of_none q hn)]; exact q
  tbls := fun b ps q => ⟨#[], by rw [upd_ne (ne_of_none q hn), q]; simp⟩
theorem Un.write (mu : Mut (H x)) (he : e = x ∨ H e = some (.own x)) (k : ∀ b u, b ≠ e → h.get? b = some u → h'.get? b = some u) (heo : ∃ u, h'.get? e = some u) : Un fs ex H (upd H x o) h h' := by
  have hx : ∀ b, H b = none → b ≠ x := fun b n z => by subst z; rw [n] at mu; exact mu
  have hb : ∀ b, H b = none → b ≠ e := fun b n z => by
    subst z
    rcases he with r | r
    · exact hx b n r
    · rw [n] at r; cases r
  have hm : ∀ b u, H b = some u → ¬ Mut (some u) → b ≠ x := fun b u q nm z => by subst z; rw [q] at mu; exact nm mu
  refine ⟨fun b u q n _ _ => k b u (hb b n) q, fun b u q n _ _ => ⟨u.slots, k b u (hb b n) q⟩, fun b u q n _ => by rw [upd_ne (hx b n)]; exact n, fun b u q _ => ?_,
    fun b xs q => by rw [upd_ne (hm b _ q fun z => z)]; exact q, fun b u xs q => by rw [upd_ne (hm b _ q fun z => z)]; exact q, fun b ps q => ⟨#[], by rw [upd_ne (hm b _ q fun z => z), q]; simp⟩⟩
  by_cases hbe : b = e
  · subst hbe; exact heo
  · exact ⟨u, k b u hbe q⟩
end

def trk (h : Heap) (H : Hp) : List Addr := (List.range h.objs.size).filter fun a => (H a).isSome
def hidT (h : Heap) (H : Hp) : Heap := PySem.W.hideAll h (trk h H)
theorem hidT_size (h : Heap) (H : Hp) : (hidT h H).objs.size = h.objs.size := PySem.W.hideAll_size _ _
theorem hidT_get {h : Heap} {H : Hp} {b : Addr} {o : Obj} (e : h.get? b = some o) (n : H b = none) : (hidT h H).get? b = some o :=
  PySem.W.hideAll_get _ e fun hm => by
    have q : (H b).isSome = true := (List.mem_filter.mp hm).2
    rw [n] at q; simp at q
theorem of_hidT {h : Heap} {H : Hp} {b : Addr} {o : Obj} (e : (hidT h H).get? b = some o) : h.get? b = some o ∧ H b = none := by
  have e' : h.get? b = some o := PySem.W.of_hideAll (trk h H) e
  refine ⟨e', ?_⟩
  cases q : H b with
  | none => rfl
  | some x =>
    have hm : b ∈ trk h H := List.mem_filter.mpr ⟨List.mem_range.mpr (Heap.lt_size e'), by simp [q]⟩
    have z : (hidT h H).get? b = none := PySem.W.hideAll_none (trk h H) hm
    rw [z] at e; cases e

end L2

namespace L2
open PySem PySem.Spec PyProof.Rows

/-- the module's facts, over the base: the heap at the law's entry without what is tracked there -/
structure Mod (K : PySem.W.Frag) (mg : Str → Option Value) (base : Heap) : Prop where
  kin : K.In base
  glob : base.Ns mainGlobals mg
  blt : ∃ mb, base.Ns builtinsNs mb ∧ ∀ x : Str, x ≠ "__name__" → mb x = bootBuiltins x
  nolimit : base.NoLimit

/-- the context: a def's body (or a comprehension's block) running. base: fixed through the whole law; s₀, H₀: the entry; outer: the frames whose slots others may change (a def's callers); stack: all frames that run;
   ex: iterators that were made ahead of the entry and are walked here (a comprehension's); fn: the names whose cells were made at the entry (a def: all; a comprehension's block: its own); calm: not within an except suite; pn: pins that every state bears; xe: what is wanted of an exception that leaves the code -/
structure Cx where
  prog : Program
  w : World
  K : PySem.W.Frag
  mg : Str → Option Value
  base : Heap
  A : Around
  N : List Str
  s_0 : Shared
  H_0 : Hp
  env : Env
  outer : List Env
  stack : List Env
  ex : List Addr
  fn : Str → Bool
  calm : Bool
  pn : List (Addr × Obj)
  xe : Value → Shared → Prop
/-- the callers' frames -/
def frs (l : List Env) : List Addr := l.filterMap (·.frame)
abbrev Cx.fs (X : Cx) : List Addr := frs X.outer

def Vis (sc : Scope) (x : Str) : Prop := sc.names.lookup x = some .local ∨ sc.names.lookup x = some .cell ∨ sc.names.lookup x = some .free
def Loc (sc : Scope) (x : Str) : Prop := sc.names.lookup x = some .local ∨ sc.names.lookup x = some .cell
def Look (env : Env) (h : Heap) (m : Str → Option Value) (x : Str) (u : Value) : Prop :=
  (env.kindOf x = some .local ∧ m x = some u) ∨ ((env.kindOf x = some .cell ∨ env.kindOf x = some .free) ∧ ∃ c, env.cells.lookup x = some c ∧ h.IsCell c (some u))

structure Cx.Ok (X : Cx) : Prop where
  mod : Mod X.K X.mg X.base
  kind : X.env.scope.kind = .function
  glob : X.env.globals = mainGlobals
  blt : X.env.builtins = builtinsNs
  above : X.s_0.heap.objs.size ≤ X.env.locals
  inj : ∀ x y c, X.env.cells.lookup x = some c → X.env.cells.lookup y = some c → x = y
  has : ∀ x, (X.env.kindOf x = some .cell ∨ X.env.kindOf x = some .free) → ∃ c, X.env.cells.lookup x = some c
  cab : ∀ x c, X.fn x = true → X.env.cells.lookup x = some c → X.s_0.heap.objs.size ≤ c
  hd : X.calm = true → X.A.handled = none
  frames : X.A.frames = some X.stack
  stk : X.stack = X.outer ∨ (X.stack = X.env :: X.outer ∧ X.env.frame = some X.env.locals)
  exf : ∀ b ∈ X.ex, b ≠ X.env.locals ∧ ∀ x c, X.env.cells.lookup x = some c → c ≠ b
  bs : ∀ b o, X.base.get? b = some o → X.s_0.heap.get? b = some o ∧ X.H_0 b = none
  bsz : X.base.objs.size ≤ X.s_0.heap.objs.size
  noex : ∀ b o, X.base.get? b = some o → b ∉ X.ex
  exfs : ∀ b ∈ X.ex, b ∉ X.fs
  funs : X.s_0.heap.FunFrames X.base X.outer
  frf : ∀ b ∈ X.fs, X.H_0 b = none

structure Inv (X : Cx) (pins : List (Addr × Obj)) (σ : List (Option V)) (H : Hp) (s : Shared) : Prop where
  ok : X.Ok
  os : s.os = X.s_0.os
  bare : AllBare s.gens
  base : Un X.fs X.ex X.H_0 H X.s_0.heap s.heap
  loc : ∃ m, s.heap.Ns X.env.locals m ∧ ∀ (i : Nat) (x : Str) (v : V), X.N[i]? = some x → σ[i]? = some (some v) → Vis X.env.scope x → ∃ u, RelV v u ∧ Look X.env s.heap m x u
  cell : ∀ x c, X.env.cells.lookup x = some c → ∃ v, s.heap.IsCell c v
  free : H X.env.locals = none
  freeC : ∀ x c, X.env.cells.lookup x = some c → H c = none
  pin : ∀ p ∈ X.pn ++ pins, s.heap.get? p.1 = some p.2 ∧ H p.1 = none ∧ p.1 ≠ X.env.locals ∧ p.1 ∉ X.fs ∧ ∀ v, p.2.data ≠ .cell v
  hok : HOk X.prog X.w H s.heap
  len : σ.length = X.N.length

section
variable {X : Cx} {pins : List (Addr × Obj)} {σ : List (Option V)} {H H' : Hp} {s : Shared} {h' : Heap}

theorem Cx.Ok.nofr (ok : X.Ok) {b : Addr} {o : Obj} (e : X.base.get? b = some o) : b ∉ X.fs := fun hb => by
  have := (ok.funs.mem hb).1
  rw [e] at this; cases this
theorem Inv.bs (I : Inv X pins σ H s) : ∀ b o, X.base.get? b = some o → s.heap.get? b = some o ∧ H b = none := fun b o e =>
  ⟨I.base.keep b o (I.ok.bs b o e).1 (I.ok.bs b o e).2 (I.ok.nofr e) (I.ok.noex b o e), I.base.free b o (I.ok.bs b o e).1 (I.ok.bs b o e).2 (I.ok.noex b o e)⟩
theorem Inv.bk (I : Inv X pins σ H s) : ∀ b o, X.base.get? b = some o → s.heap.get? b = some o := fun b o e => (I.bs b o e).1
theorem Inv.mod (I : Inv X pins σ H s) : Mod X.K X.mg X.base := I.ok.mod
theorem Inv.kIn (I : Inv X pins σ H s) : X.K.In s.heap := I.ok.mod.kin.keeps I.bk
theorem Inv.lt (I : Inv X pins σ H s) : X.env.locals < s.heap.objs.size := let ⟨_, hn, _⟩ := I.loc; hn.lt
theorem Inv.sz (I : Inv X pins σ H s) : X.s_0.heap.objs.size ≤ s.heap.objs.size := Nat.le_trans I.ok.above (Nat.le_of_lt I.lt)
theorem Inv.nofs (I : Inv X pins σ H s) {a : Addr} (h : s.heap.objs.size ≤ a) : a ∉ X.fs := fun hb => by
  obtain ⟨_, o, ho, _⟩ := I.ok.funs.mem hb
  exact absurd (Nat.lt_of_lt_of_le (Heap.lt_size ho) (Nat.le_trans I.sz h)) (Nat.lt_irrefl _)
theorem Inv.cne (I : Inv X pins σ H s) : ∀ x c, X.env.cells.lookup x = some c → c ≠ X.env.locals := fun x c e z => by
  obtain ⟨v, o, ho, hd⟩ := I.cell x c e
  obtain ⟨m, ⟨o', es, ep, ho', hd', _⟩, _⟩ := I.loc
  rw [z, ho'] at ho; cases ho; rw [hd'] at hd; cases hd
theorem Inv.funs (I : Inv X pins σ H s) : s.heap.FunFrames X.base X.outer := by
  have all : ∀ (l : List Env), (∀ b ∈ frs l, b ∈ X.fs) → X.s_0.heap.FunFrames X.base l → s.heap.FunFrames X.base l := by
    intro l
    induction l with
    | nil => intro _ _; trivial
    | cons env r ih =>
      intro hs hl
      obtain ⟨hk, ⟨L, o, hf, hn, ho, hd⟩, hr⟩ := hl
      have hL : L ∈ X.fs := hs L (by unfold frs; rw [List.filterMap_cons, hf]; exact List.mem_cons_self)
      obtain ⟨sl, e⟩ := I.base.slot L o ho (I.ok.frf L hL) hL fun z => I.ok.exfs L z hL
      exact ⟨hk, ⟨L, _, hf, hn, e, hd⟩, ih (fun b hb => hs b (by unfold frs; rw [List.filterMap_cons, hf]; exact List.mem_cons_of_mem _ hb)) hr⟩
  exact all X.outer (fun _ hb => hb) I.ok.funs

/-- the frames that run, for a call -/
theorem Inv.stack (I : Inv X pins σ H s) : s.heap.FunFrames X.base X.stack := by
  rcases I.ok.stk with e | ⟨e, hf⟩
  · rw [e]; exact I.funs
  · rw [e]
    obtain ⟨m, hn, _⟩ := I.loc
    refine .cons (by rw [I.ok.kind]; decide) hf hn ?_ I.funs
    exact Heap.get?_none_of_le (Nat.le_trans I.ok.bsz I.ok.above)
theorem Inv.stkSub (I : Inv X pins σ H s) : ∀ b ∈ frs X.stack, b ∈ X.env.locals :: X.fs := fun b hb => by
  rcases I.ok.stk with e | ⟨e, hf⟩
  · rw [e] at hb; exact List.mem_cons_of_mem _ hb
  · rw [e] at hb
    unfold frs at hb
    rw [List.filterMap_cons, hf] at hb
    exact hb
theorem Inv.stkFree (I : Inv X pins σ H s) : ∀ b ∈ frs X.stack, H b = none := fun b hb => by
  rcases List.mem_cons.mp (I.stkSub b hb) with e | hb
  · rw [e]; exact I.free
  · obtain ⟨_, o, ho, _⟩ := I.ok.funs.mem hb
    exact I.base.free b o ho (I.ok.frf b hb) fun z => I.ok.exfs b z hb

/-- THE STEP: the untracked objects but the frame and the records at ch are kept (the callers' frames up to slots), the frame's map is kept, the new abstract heap is held -/
theorem Inv.step {g' : Array GenState} {t' : Nat} {d' : Drawn} {ch : List Addr} (I : Inv X pins σ H s)
    (hch : ∀ b ∈ ch, (b ∈ X.ex ∨ X.s_0.heap.objs.size ≤ b) ∧ b ≠ X.env.locals ∧ (∀ x c, X.env.cells.lookup x = some c → c ≠ b) ∧ ∀ p ∈ X.pn ++ pins, p.1 ≠ b)
    (keep : ∀ b o, b ≠ X.env.locals → b ∉ X.fs → b ∉ ch → s.heap.get? b = some o → H b = none → h'.get? b = some o)
    (slot : ∀ b o, b ≠ X.env.locals → b ∈ X.fs → b ∉ ch → s.heap.get? b = some o → H b = none → ∃ sl, h'.get? b = some { o with slots := sl }) (free : ∀ b o, b ∉ ch → s.heap.get? b = some o → H b = none → H' b = none)
    (there : ∀ b o, b ∉ ch → s.heap.get? b = some o → ∃ o', h'.get? b = some o')
    (tups : ∀ b xs, H b = some (.tup xs) → H' b = some (.tup xs)) (frzs : ∀ b o u, H b = some (.frz o u) → H' b = some (.frz o u)) (tbls : ∀ b ps, H b = some (.tbl ps) → ∃ more, H' b = some (.tbl (ps ++ more)))
    (ns : ∀ m, s.heap.Ns X.env.locals m → h'.Ns X.env.locals m) (hok : HOk X.prog X.w H' h') (hg : AllBare g') :
    Inv X pins σ H' { s with heap := h', gens := g', drawn := d', toks := t' } := by
  have neL : ∀ b o, X.s_0.heap.get? b = some o → b ≠ X.env.locals := fun b o e => Nat.ne_of_lt (Nat.lt_of_lt_of_le (Heap.lt_size e) I.ok.above)
  have neC : ∀ b o, X.s_0.heap.get? b = some o → b ∉ X.ex → b ∉ ch := fun b o e hx hb => by
    rcases (hch b hb).1 with z | z
    · exact hx z
    · exact absurd (Nat.lt_of_lt_of_le (Heap.lt_size e) z) (Nat.lt_irrefl _)
  have cellK : ∀ x c, X.env.cells.lookup x = some c → ∀ v, s.heap.IsCell c v → h'.IsCell c v := fun x c e v ⟨o, ho, hd⟩ => by
    have nch : c ∉ ch := fun z => (hch c z).2.2.1 x c e rfl
    by_cases hc : c ∈ X.fs
    · obtain ⟨sl, q⟩ := slot c o (I.cne x c e) hc nch ho (I.freeC x c e)
      exact ⟨_, q, hd⟩
    · exact ⟨o, keep c o (I.cne x c e) hc nch ho (I.freeC x c e), hd⟩
  refine ⟨I.ok, I.os, hg, ⟨fun b o e n hb hx => ?_, fun b o e n hb hx => ?_, fun b o e n hx => ?_, fun b o e hx => ?_, fun b xs e => tups b xs (I.base.tups b xs e), fun b o xs e => frzs b o xs (I.base.frzs b o xs e), fun b ps e => ?_⟩, ?_, fun x c e => ?_, ?_, fun x c e => ?_, fun p hp => ?_, hok, I.len⟩
  · exact keep b o (neL b o e) hb (neC b o e hx) (I.base.keep b o e n hb hx) (I.base.free b o e n hx)
  · obtain ⟨sl, e1⟩ := I.base.slot b o e n hb hx
    obtain ⟨sl', e2⟩ := slot b _ (neL b o e) hb (neC b o e hx) e1 (I.base.free b o e n hx)
    exact ⟨sl', e2⟩
  · obtain ⟨o', e1⟩ := I.base.there b o e hx
    exact free b o' (neC b o e hx) e1 (I.base.free b o e n hx)
  · obtain ⟨o', e1⟩ := I.base.there b o e hx
    exact there b o' (neC b o e hx) e1
  · obtain ⟨m1, e1⟩ := I.base.tbls b ps e
    obtain ⟨m2, e2⟩ := tbls b _ e1
    exact ⟨m1 ++ m2, by rw [e2, Array.append_assoc]⟩
  · obtain ⟨m, hn, hl⟩ := I.loc
    refine ⟨m, ns m hn, fun i x v e1 e2 e3 => ?_⟩
    obtain ⟨u, r, l⟩ := hl i x v e1 e2 e3
    refine ⟨u, r, ?_⟩
    rcases l with l | ⟨k, c, e, z⟩
    · exact .inl l
    · exact .inr ⟨k, c, e, cellK x c e _ z⟩
  · obtain ⟨v, z⟩ := I.cell x c e
    exact ⟨v, cellK x c e v z⟩
  · obtain ⟨m, ⟨o, _, _, ho, _⟩, _⟩ := I.loc
    exact free _ o (fun z => (hch _ z).2.1 rfl) ho I.free
  · obtain ⟨v, o, ho, hd⟩ := I.cell x c e
    exact free c o (fun z => (hch c z).2.2.1 x c e rfl) ho (I.freeC x c e)
  · obtain ⟨e, n, ne, nf, d⟩ := I.pin p hp
    have nch : p.1 ∉ ch := fun z => (hch p.1 z).2.2.2 p hp rfl
    exact ⟨keep p.1 p.2 ne nf nch e n, free p.1 p.2 nch e n, ne, nf, d⟩
/-- .. where the frame's own object is kept too -/
theorem Inv.un {t' : Nat} (I : Inv X pins σ H s) (u : Un X.fs [] H H' s.heap h') (hok : HOk X.prog X.w H' h') : Inv X pins σ H' { s with heap := h', toks := t' } := by
  obtain ⟨m, ⟨o, es, ep, ho, r⟩, _⟩ := id I.loc
  obtain ⟨sl, hL⟩ := u.any ho I.free (by simp)
  exact I.step (g' := s.gens) (d' := s.drawn) (ch := []) (fun _ z => nomatch z) (fun b o _ hb _ e n => u.keep b o e n hb (by simp)) (fun b o _ hb _ e n => u.slot b o e n hb (by simp)) (fun b o _ e n => u.free b o e n (by simp)) (fun b o _ e => u.there b o e (by simp)) u.tups u.frzs u.tbls (fun m' hm => by
    obtain ⟨o', es', ep', ho', r'⟩ := hm
    rw [ho] at ho'; cases ho'
    exact ⟨_, es', ep', hL, r'⟩) hok I.bare
/-- behind a call (or a comprehension's block): the slots of this frame may have changed too, the records at ch may have turned -/
theorem Inv.call {g' : Array GenState} {t' : Nat} {d' : Drawn} {ch : List Addr} (I : Inv X pins σ H s) (u : Un (frs X.stack) ch H H' s.heap h') (hok : HOk X.prog X.w H' h') (hg : AllBare g')
    (hch : ∀ b ∈ ch, (b ∈ X.ex ∨ X.s_0.heap.objs.size ≤ b) ∧ b ≠ X.env.locals ∧ (∀ x c, X.env.cells.lookup x = some c → c ≠ b) ∧ ∀ p ∈ X.pn ++ pins, p.1 ≠ b) :
    Inv X pins σ H' { s with heap := h', gens := g', drawn := d', toks := t' } := by
  obtain ⟨m, ⟨o, es, ep, ho, r⟩, _⟩ := id I.loc
  obtain ⟨sl, hL⟩ := u.any ho I.free fun z => (hch _ z).2.1 rfl
  exact I.step (ch := ch) hch (fun b o hL hb hc e n => u.keep b o e n (fun z => (List.mem_cons.mp (I.stkSub b z)).elim hL hb) hc) (fun b o _ _ hc e n => u.any e n hc) (fun b o hc e n => u.free b o e n hc) (fun b o hc e => u.there b o e hc) u.tups u.frzs u.tbls (fun m' hm => by
    obtain ⟨o', es', ep', ho', r'⟩ := hm
    rw [ho] at ho'; cases ho'
    exact ⟨_, es', ep', hL, r'⟩) hok hg
/-- an untracked record of ours (an iterator) has turned -/
theorem Inv.turned {t' : Nat} {it : Addr} (I : Inv X pins σ H s) (k : ∀ b o, b ≠ it → s.heap.get? b = some o → h'.get? b = some o) (hn : H it = none) (hL : it ≠ X.env.locals)
    (h1 : it ∈ X.ex ∨ X.s_0.heap.objs.size ≤ it) (h2 : ∀ x c, X.env.cells.lookup x = some c → c ≠ it) (h3 : ∀ p ∈ X.pn ++ pins, p.1 ≠ it) : Inv X pins σ H { s with heap := h', toks := t' } := by
  have nit : ∀ b u, H b = some u → b ≠ it := fun b u e z => by rw [z, hn] at e; cases e
  refine I.step (g' := s.gens) (d' := s.drawn) (ch := [it]) (fun b hb => ?_) (fun b o _ _ hc e _ => k b o (fun z => hc (by simp [z])) e) (fun b o _ _ hc e _ => ⟨o.slots, k b o (fun z => hc (by simp [z])) e⟩) (fun _ _ _ _ n => n)
    (fun b o hc e => ⟨o, k b o (fun z => hc (by simp [z])) e⟩) (fun _ _ e => e) (fun _ _ _ e => e) (fun b ps e => ⟨#[], by rw [e]; simp⟩) (fun m hm => ?_) (fun b u e => ?_) I.bare
  · have e : b = it := by simpa using hb
    subst e
    exact ⟨h1, hL, h2, h3⟩
  · obtain ⟨o, es, ep, ho, r⟩ := hm
    exact ⟨o, es, ep, k _ o (Ne.symm hL) ho, r⟩
  · refine (I.hok b u e).stay (fun c v hc q => k c v ?_ q) (fun _ q => q) fun _ _ q => q
    rcases hc with z | z
    · rw [z]; exact nit b u e
    · exact nit c _ z
theorem Inv.tok (I : Inv X pins σ H s) (t : Nat) : Inv X pins σ H { s with toks := t } := I.un (h' := s.heap) (t' := t) Un.refl I.hok
/-- all objects kept -/
theorem Inv.kept {t' : Nat} (I : Inv X pins σ H s) (k : ∀ b u, s.heap.get? b = some u → h'.get? b = some u) : Inv X pins σ H { s with heap := h', toks := t' } := I.un (Un.kept k) (I.hok.kept k)
/-- a new object laid and tracked -/
theorem Inv.laid {a : Addr} {o : HO} {t' : Nat} (I : Inv X pins σ H s) (k : ∀ b u, s.heap.get? b = some u → h'.get? b = some u) (hp : s.heap.objs.size ≤ a) (new : ObjOk X.prog X.w (upd H a o) h' a o) :
    Inv X pins σ (upd H a o) { s with heap := h', toks := t' } := I.un (Un.laid k hp (I.hok.fresh hp)) (I.hok.laid k hp new)
/-- an object written -/
theorem Inv.write {x e : Addr} {o : HO} {t' : Nat} (I : Inv X pins σ H s) (mu : Mut (H x)) (he : e = x ∨ H e = some (.own x)) (k : ∀ b u, b ≠ e → s.heap.get? b = some u → h'.get? b = some u) (heo : ∃ u, h'.get? e = some u)
    (new : ObjOk X.prog X.w (upd H x o) h' x o) : Inv X pins σ (upd H x o) { s with heap := h', toks := t' } := I.un (Un.write mu he k heo) (I.hok.write mu he k heo new)
/-- forgetting slots, pins -/
theorem Inv.weak {σ' : List (Option V)} (I : Inv X pins σ H s) (hl : σ'.length = σ.length) (w : ∀ (i : Nat) v, σ'[i]? = some (some v) → σ[i]? = some (some v)) : Inv X pins σ' H s :=
  ⟨I.ok, I.os, I.bare, I.base, let ⟨m, hn, hl'⟩ := I.loc; ⟨m, hn, fun i x v e1 e2 e3 => hl' i x v e1 (w i v e2) e3⟩, I.cell, I.free, I.freeC, I.pin, I.hok, hl.trans I.len⟩
theorem Inv.pins_of {pins' : List (Addr × Obj)} (I : Inv X pins σ H s) (h : ∀ p ∈ pins', s.heap.get? p.1 = some p.2 ∧ H p.1 = none ∧ p.1 ≠ X.env.locals ∧ p.1 ∉ X.fs ∧ ∀ v, p.2.data ≠ .cell v) : Inv X pins' σ H s :=
  ⟨I.ok, I.os, I.bare, I.base, I.loc, I.cell, I.free, I.freeC, fun p hp => (List.mem_append.mp hp).elim (fun z => I.pin p (List.mem_append_left _ z)) (h p), I.hok, I.len⟩

theorem nodup_ix {N : List Str} (hN : N.Nodup) {i j : Nat} {x : Str} (a : N[i]? = some x) (b : N[j]? = some x) : i = j := by
  obtain ⟨h1, e1⟩ := List.getElem?_eq_some_iff.mp a
  obtain ⟨h2, e2⟩ := List.getElem?_eq_some_iff.mp b
  exact (List.getElem_inj hN).mp (e1.trans e2.symm)

/-- a name is stored; what changed -/
theorem store_ok2 {M : Model} {A : Around} {E : Value → Shared → Prop} {i : Nat} {x : Str} {v : V} {u : Value} {Q : Unit → Shared → Prop} (I : Inv X pins σ H s) (hN : X.N.Nodup) (hi : X.N[i]? = some x) (hx : Loc X.env.scope x) (r : RelV v u)
    (h : ∀ s', Inv X pins (σ.set i (some v)) H s' → (∃ a, Heap.SameBut a s.heap s'.heap ∧ (a = X.env.locals ∨ X.env.cells.lookup x = some a)) → Q () s') (hf : X.fn x = true ∨ X.env.scope.names.lookup x = some .local := by first | exact .inl rfl | exact .inr rfl | assumption) : wpAny M A (storeName X.env x u) Q E s := by
  obtain ⟨m, hn, hl⟩ := id I.loc
  have hcls : (X.env.scope.kind == .class || (X.env.scope.kind == .module && X.env.locals != X.env.globals)) = false := by rw [I.ok.kind]; rfl
  have hiσ : i < σ.length := by rw [I.len]; exact (List.getElem?_eq_some_iff.mp hi).1
  have cne := I.cne
  have tracked : ∀ {a : Addr} {h' : Heap}, (∃ o, s.heap.get? a = some o ∧ H a = none) → Heap.SameBut a s.heap h' → HOk X.prog X.w H h' := fun {a h'} ha hs b ob e => by
    obtain ⟨_, _, hfree⟩ := ha
    refine (I.hok b ob e).stay (fun c w' hc q => (hs.2 c ?_).trans q) (fun _ q => q) fun _ _ q => q
    rintro rfl
    rcases hc with rfl | hc
    · rw [hfree] at e; cases e
    · rw [hfree] at hc; cases hc
  rcases hx with hk | hk
  · refine wpAny_storeName_local hk hn (fun h' hn' hs => ?_) hcls
    obtain ⟨oL, _, _, hoL, _⟩ := id hn
    refine h _ ⟨I.ok, I.os, I.bare, ⟨fun b o e n hb hx => ?_, fun b o e n hb hx => ?_, I.base.free, fun b o e hx => ?_, I.base.tups, I.base.frzs, I.base.tbls⟩, ⟨_, hn', fun j y v' e1 e2 e3 => ?_⟩, fun y c e => ?_, I.free, I.freeC, fun p hp => ?_, tracked ⟨oL, hoL, I.free⟩ hs, by simpa using I.len⟩ ⟨_, hs, .inl rfl⟩
    · exact (hs.2 b (Nat.ne_of_lt (Nat.lt_of_lt_of_le (Heap.lt_size e) I.ok.above))).trans (I.base.keep b o e n hb hx)
    · obtain ⟨sl, e1⟩ := I.base.slot b o e n hb hx
      exact ⟨sl, (hs.2 b (Nat.ne_of_lt (Nat.lt_of_lt_of_le (Heap.lt_size e) I.ok.above))).trans e1⟩
    · obtain ⟨o', e1⟩ := I.base.there b o e hx
      exact ⟨o', (hs.2 b (Nat.ne_of_lt (Nat.lt_of_lt_of_le (Heap.lt_size e) I.ok.above))).trans e1⟩
    · by_cases hj : j = i
      · subst hj
        rw [hi] at e1; cases e1
        rw [List.getElem?_set_self hiσ] at e2
        cases e2
        exact ⟨u, r, .inl ⟨hk, by simp⟩⟩
      · rw [List.getElem?_set_ne (Ne.symm hj)] at e2
        obtain ⟨u', r', q⟩ := hl j y v' e1 e2 e3
        refine ⟨u', r', ?_⟩
        rcases q with ⟨k, e⟩ | ⟨k, c, e, z⟩
        · refine .inl ⟨k, ?_⟩
          have : y ≠ x := fun e => hj (nodup_ix hN e1 (e ▸ hi))
          simp [this, e]
        · exact .inr ⟨k, c, e, z.sameBut hs (cne y c e)⟩
    · obtain ⟨w', z⟩ := I.cell y c e
      exact ⟨w', z.sameBut hs (cne y c e)⟩
    · obtain ⟨e, n, ne, nf, d⟩ := I.pin p hp
      exact ⟨(hs.2 p.1 ne).trans e, n, ne, nf, d⟩
  · have hfn : X.fn x = true := by
      rcases hf with z | z
      · exact z
      · rw [z] at hk; cases hk
    obtain ⟨c, hc⟩ := I.ok.has x (.inl hk)
    obtain ⟨w', z⟩ := I.cell x c hc
    refine wpAny_storeName_cell I.ok.kind hk hc z (fun h' hc' hs => ?_)
    obtain ⟨oc, hoc, hocd⟩ := id z
    refine h { s with heap := h' } ⟨I.ok, I.os, I.bare, ⟨fun b o e n hb hx => ?_, fun b o e n hb hx => ?_, I.base.free, fun b o e hx => ?_, I.base.tups, I.base.frzs, I.base.tbls⟩, ⟨m, hn.sameBut hs (Ne.symm (cne x c hc)), fun j y v' e1 e2 e3 => ?_⟩, fun y c' e => ?_, I.free, I.freeC, fun p hp => ?_, tracked ⟨oc, hoc, I.freeC x c hc⟩ hs, by simpa using I.len⟩ ⟨c, hs, .inr hc⟩
    · exact (hs.2 b (Nat.ne_of_lt (Nat.lt_of_lt_of_le (Heap.lt_size e) (I.ok.cab x c hfn hc)))).trans (I.base.keep b o e n hb hx)
    · obtain ⟨sl, e1⟩ := I.base.slot b o e n hb hx
      exact ⟨sl, (hs.2 b (Nat.ne_of_lt (Nat.lt_of_lt_of_le (Heap.lt_size e) (I.ok.cab x c hfn hc)))).trans e1⟩
    · obtain ⟨o', e1⟩ := I.base.there b o e hx
      exact ⟨o', (hs.2 b (Nat.ne_of_lt (Nat.lt_of_lt_of_le (Heap.lt_size e) (I.ok.cab x c hfn hc)))).trans e1⟩
    · by_cases hj : j = i
      · subst hj
        rw [hi] at e1; cases e1
        rw [List.getElem?_set_self hiσ] at e2
        cases e2
        exact ⟨u, r, .inr ⟨.inl hk, c, hc, hc'⟩⟩
      · rw [List.getElem?_set_ne (Ne.symm hj)] at e2
        obtain ⟨u', r', q⟩ := hl j y v' e1 e2 e3
        refine ⟨u', r', ?_⟩
        rcases q with q | ⟨k, c', e, z'⟩
        · exact .inl q
        · refine .inr ⟨k, c', e, z'.sameBut hs ?_⟩
          rintro rfl
          exact hj (nodup_ix hN e1 (I.ok.inj _ _ _ e hc ▸ hi))
    · by_cases hcc : c' = c
      · subst hcc; exact ⟨_, hc'⟩
      · obtain ⟨w2, z2⟩ := I.cell y c' e
        exact ⟨w2, z2.sameBut hs hcc⟩
    · obtain ⟨e, n, ne, nf, d⟩ := I.pin p hp
      refine ⟨(hs.2 p.1 ?_).trans e, n, ne, nf, d⟩
      intro q
      rw [q, hoc] at e
      have q' : oc = p.2 := Option.some.inj e
      exact d w' (by rw [← q']; exact hocd)
theorem store_ok {M : Model} {A : Around} {E : Value → Shared → Prop} {i : Nat} {x : Str} {v : V} {u : Value} {Q : Unit → Shared → Prop} (I : Inv X pins σ H s) (hN : X.N.Nodup) (hi : X.N[i]? = some x) (hx : Loc X.env.scope x) (r : RelV v u)
    (h : ∀ s', Inv X pins (σ.set i (some v)) H s' → Q () s') (hf : X.fn x = true ∨ X.env.scope.names.lookup x = some .local := by first | exact .inl rfl | exact .inr rfl | assumption) : wpAny M A (storeName X.env x u) Q E s :=
  store_ok2 I hN hi hx r (fun s' I' _ => h s' I') hf
/-- behind a call or a block, the state as it is -/
theorem Inv.call' {s' : Shared} {ch : List Addr} (I : Inv X pins σ H s) (ho : s'.os = s.os) (u : Un (frs X.stack) ch H H' s.heap s'.heap) (hok : HOk X.prog X.w H' s'.heap) (hg : AllBare s'.gens)
    (hch : ∀ b ∈ ch, (b ∈ X.ex ∨ X.s_0.heap.objs.size ≤ b) ∧ b ≠ X.env.locals ∧ (∀ x c, X.env.cells.lookup x = some c → c ≠ b) ∧ ∀ p ∈ X.pn ++ pins, p.1 ≠ b) : Inv X pins σ H' s' := by
  obtain ⟨h', g', d', t', o'⟩ := s'
  have e : o' = s.os := ho
  subst e
  exact I.call (g' := g') (t' := t') (d' := d') u hok hg hch
end

/-- an exception: its class, its own dict's address (where it has one), the abstract heap behind it -/
abbrev XK := Value → Option Addr → Hp → Prop
abbrev St := List (Option V)
abbrev VK := V → Hp → Prop
/-- an expression's reading; a test's; an argument list's -/
abbrev TE := St → Hp → VK → Prop
abbrev TT := St → Hp → (Bool → Hp → Prop) → Prop
abbrev TA := St → Hp → (List V → Hp → Prop) → Prop
/-- what is wanted behind a statement -/
structure Ends where
  nx : St → Hp → Prop
  rt : VK
  bk : St → Hp → Prop := fun _ _ => False
  ct : St → Hp → Prop := fun _ _ => False
abbrev TS := Ends → St → Hp → Prop

def EP (X : Cx) (pins : List (Addr × Obj)) (σ : St) (Q : VK) (u : Value) (s' : Shared) : Prop := ∃ v H', Inv X pins σ H' s' ∧ RelV v u ∧ Q v H'
def TP (X : Cx) (pins : List (Addr × Obj)) (σ : St) (Q : Bool → Hp → Prop) (b : Bool) (s' : Shared) : Prop := ∃ H', Inv X pins σ H' s' ∧ Q b H'
def AP (X : Cx) (pins : List (Addr × Obj)) (σ : St) (Q : List V → Hp → Prop) (us : List Value) (s' : Shared) : Prop := ∃ vs H', Inv X pins σ H' s' ∧ Vals vs us ∧ Q vs H'
def SP (X : Cx) (pins : List (Addr × Obj)) (D : Ends) (f : Flow) (s' : Shared) : Prop :=
  match f with
  | .next => ∃ σ' H', Inv X pins σ' H' s' ∧ D.nx σ' H'
  | .brk => ∃ σ' H', Inv X pins σ' H' s' ∧ D.bk σ' H'
  | .cont => ∃ σ' H', Inv X pins σ' H' s' ∧ D.ct σ' H'
  | .ret u => ∃ v σ' H', Inv X pins σ' H' s' ∧ RelV v u ∧ D.rt v H'

def PE (X : Cx) (e : Expr) (t : TE) : Prop :=
  ∀ (pins : List (Addr × Obj)) (s : Shared) (σ : St) (H : Hp) (Q : VK), Inv X pins σ H s → t σ H Q → wpAny (model X.prog X.w) X.A (eval e X.env) (EP X pins σ Q) X.xe s
def PT (X : Cx) (e : Expr) (t : TT) : Prop :=
  ∀ (pins : List (Addr × Obj)) (s : Shared) (σ : St) (H : Hp) (Q : Bool → Hp → Prop), Inv X pins σ H s → t σ H Q → wpAny (model X.prog X.w) X.A (isTrue e X.env (eval e X.env)) (TP X pins σ Q) X.xe s
/-- a test whatever its 'whole' is (and, or) -/
def PW (X : Cx) (e : Expr) (t : TT) : Prop :=
  ∀ (whole : Sem Value) (pins : List (Addr × Obj)) (s : Shared) (σ : St) (H : Hp) (Q : Bool → Hp → Prop), Inv X pins σ H s → t σ H Q → wpAny (model X.prog X.w) X.A (isTrue e X.env whole) (TP X pins σ Q) X.xe s
theorem PW.pt {X : Cx} {e : Expr} {t : TT} (h : PW X e t) : PT X e t := h _
/-- an argument list (no star), from the left -/
def PA (X : Cx) (es : List Expr) (t : TA) : Prop :=
  ∀ (pos : Pos) (pins : List (Addr × Obj)) (s : Shared) (σ : St) (H : Hp) (Q : List V → Hp → Prop), Inv X pins σ H s → t σ H Q → wpAny (model X.prog X.w) X.A (spliced (backTo pos (starEach es X.env))) (AP X pins σ Q) X.xe s
def PS (X : Cx) (st : Stmt) (t : TS) : Prop :=
  ∀ (pins : List (Addr × Obj)) (s : Shared) (σ : St) (H : Hp) (D : Ends), Inv X pins σ H s → t D σ H → wpAny (model X.prog X.w) X.A (exec st X.env) (SP X pins D) X.xe s
def PSs (X : Cx) (st : List Stmt) (t : TS) : Prop :=
  ∀ (pins : List (Addr × Obj)) (s : Shared) (σ : St) (H : Hp) (D : Ends), Inv X pins σ H s → t D σ H → wpAny (model X.prog X.w) X.A (execs st X.env) (SP X pins D) X.xe s
/-- weaken the end -/
theorem thn {α : Type} {t : Sem α} {Q Q' : α → Shared → Prop} {M : Model} {A : Around} {E : Value → Shared → Prop} {s : Shared} (h : wpAny M A t Q E s) (hQ : ∀ a s, Q a s → Q' a s) : wpAny M A t Q' E s := wpAny_mono h hQ fun _ _ x => x
end L2

namespace L2
open PySem PySem.Spec PyProof.Rows
section
variable {X : Cx}

def tVar (i : Nat) : TE := fun σ H Q => ∃ v, σ[i]? = some (some v) ∧ Q v H
def tC (v : V) : TE := fun _ H Q => Q v H
theorem pe_var {i : Nat} {x : Str} {pos : Pos} (hN : X.N[i]? = some x) (hv : Vis X.env.scope x) (hd : (x == ("__debug__" : Str)) = false := by decide) (hcd : (x == ("__classdict__" : Str)) = false := by decide) : PE X (.Name x pos) (tVar i) := by
  intro pins s σ H Q I h
  obtain ⟨v, e, h⟩ := h
  obtain ⟨m, hn, hl⟩ := I.loc
  obtain ⟨u, r, l⟩ := hl i x v hN e hv
  have fin : EP X pins σ Q u s := ⟨v, H, I, r, h⟩
  rcases l with ⟨hk, hm⟩ | ⟨hk, c, hc, hcell⟩
  · exact wpAny_Name (wpAny_loadName_local I.ok.kind hk hn hm fin) hd
  · rcases hk with hk | hk
    · exact wpAny_Name (wpAny_loadName_cell I.ok.kind hk hc hcell fin) hd
    · exact wpAny_Name (wpAny_loadName_free I.ok.kind hk hc hcell fin hcd) hd
theorem pe_int {i j pos} : PE X (.Constant (.int i) j pos) (tC (.int i)) := fun _ _ _ H _ I h => wpAny_Constant_int ⟨.int i, H, I.tok _, ⟨_, rfl⟩, h⟩
/-- a global name of the def -/
def Gl (X : Cx) (x : Str) : Prop := X.env.kindOf x = some .globalImplicit
theorem ld_glob {E : Value → Shared → Prop} {pins : List (Addr × Obj)} {s : Shared} {σ : St} {H : Hp} {x : Str} {u : Value} {pos : Pos} {Q : Value → Shared → Prop} (I : Inv X pins σ H s) (hg : Gl X x) (hm : X.mg x = some u) (h : Q u s)
    (hd : (x == ("__debug__" : Str)) = false := by decide) : wpAny (model X.prog X.w) X.A (eval (.Name x pos) X.env) Q E s :=
  Calls.Name_function_global I.ok.kind hg (Calls.loadGlobal_global (by rw [I.ok.glob]; exact I.mod.glob.keeps I.bk) hm h) hd
theorem ld_blt {E : Value → Shared → Prop} {pins : List (Addr × Obj)} {s : Shared} {σ : St} {H : Hp} {x : Str} {u : Value} {pos : Pos} {Q : Value → Shared → Prop} (I : Inv X pins σ H s) (hg : Gl X x) (hm : X.mg x = none) (hv : bootBuiltins x = some u) (h : Q u s)
    (hn : x ≠ "__name__" := by decide) (hd : (x == ("__debug__" : Str)) = false := by decide) : wpAny (model X.prog X.w) X.A (eval (.Name x pos) X.env) Q E s := by
  obtain ⟨mb, h1, h2⟩ := I.mod.blt
  exact Calls.Name_function_global I.ok.kind hg (Calls.loadGlobal_builtin (by rw [I.ok.glob]; exact I.mod.glob.keeps I.bk) hm (by rw [I.ok.blt]; exact h1.keeps I.bk) ((h2 x hn).trans hv) h) hd
/-- a module's constant, a class, a function, as a value -/
theorem pe_glob {x : Str} {v : V} {u : Value} {pos : Pos} (hg : Gl X x) (hm : X.mg x = some u) (r : RelV v u) (hd : (x == ("__debug__" : Str)) = false := by decide) : PE X (.Name x pos) (tC v) :=
  fun _ _ _ H _ I h => ld_glob I hg hm ⟨v, H, I, r, h⟩ hd
variable {a b : Expr} {ta tb : TE} {pos : Pos}
/-- a comparison as a value, as a test -/
def tB (t : TE) : TT := fun σ H Q => t σ H fun x H1 => ∃ c, x = .bl c ∧ Q c H1
/-- an expression whose value is a bool, as a test -/
theorem pt_val {e : Expr} {t : TE} (h : PE X e t) (he : ∀ whole, isTrue e X.env whole = (do let v ← whole; standAt e.pos; holding [v] (truthy v)) := by intro _; rfl) : PT X e (tB t) := by
  intro pins s σ H Q I hw
  refine isTrue_plain (thn (h pins s σ H _ I hw) fun v s1 ⟨x, H1, I1, r1, q1⟩ => ?_) (he _)
  obtain ⟨d, rfl, q⟩ := q1
  cases r1
  exact wpAny_truthy_bool ⟨H1, I1, q⟩

variable {tA tB' : TT} {rest : List Expr}
def tAnd (t u : TT) : TT := fun σ H Q => t σ H fun c H1 => if c = true then u σ H1 Q else Q false H1
def tOr (t u : TT) : TT := fun σ H Q => t σ H fun c H1 => if c = true then Q true H1 else u σ H1 Q
theorem pw_and1 (ha : PT X a tA) : PW X (.BoolOp .And [a] pos) tA := by
  intro wh pins s σ H Q I h
  refine isTrue_and (thn (ha pins s σ H Q I h) fun c s1 e => ?_)
  cases c with
  | true => exact isTrue_and_nil e
  | false => exact e
theorem pw_or1 (ha : PT X a tA) : PW X (.BoolOp .Or [a] pos) tA := by
  intro wh pins s σ H Q I h
  refine isTrue_or (thn (ha pins s σ H Q I h) fun c s1 e => ?_)
  cases c with
  | false => exact isTrue_or_nil e
  | true => exact e
theorem pw_and (ha : PT X a tA) (hb : PW X (.BoolOp .And (b :: rest) pos) tB') : PW X (.BoolOp .And (a :: b :: rest) pos) (tAnd tA tB') := by
  intro wh pins s σ H Q I h
  refine isTrue_and (thn (ha pins s σ H _ I h) fun c s1 ⟨H1, I1, q1⟩ => ?_)
  cases c with
  | true => exact hb wh pins s1 σ H1 Q I1 q1
  | false => exact ⟨H1, I1, q1⟩
theorem pw_or (ha : PT X a tA) (hb : PW X (.BoolOp .Or (b :: rest) pos) tB') : PW X (.BoolOp .Or (a :: b :: rest) pos) (tOr tA tB') := by
  intro wh pins s σ H Q I h
  refine isTrue_or (thn (ha pins s σ H _ I h) fun c s1 ⟨H1, I1, q1⟩ => ?_)
  cases c with
  | true => exact ⟨H1, I1, q1⟩
  | false => exact hb wh pins s1 σ H1 Q I1 q1
/-- a if t else b -/
def tIf (t : TT) (ta tb : TE) : TE := fun σ H Q => t σ H fun c H1 => if c = true then ta σ H1 Q else tb σ H1 Q
theorem pe_ifExp {c : Expr} (hc : PT X c tA) (ha : PE X a ta) (hb : PE X b tb) : PE X (.IfExp c a b pos) (tIf tA ta tb) := by
  intro pins s σ H Q I h
  refine wpAny_IfExp (thn (hc pins s σ H _ I h) fun d s1 ⟨H1, I1, q1⟩ => ?_)
  cases d with
  | true => exact ha pins s1 σ H1 Q I1 q1
  | false => exact hb pins s1 σ H1 Q I1 q1
end
end L2

namespace L2
open PySem PySem.Spec PyProof.Rows

def SqL (K : PySem.W.Frag) (H : Hp) (a : Addr) (xs : List V) : Prop :=
  Rd H a (.lst xs) ∨
    ∃ (o : Obj) (its : Array Value) (n : Nat), K.lookup a = some o ∧ o.cls = .type "list" ∧ o.dict = none ∧ o.data = .seq its n ∧ its.size ≤ sizeLine ∧ Vals xs its.toList
def SqT (K : PySem.W.Frag) (H : Hp) (a : Addr) (xs : List V) : Prop :=
  Rd H a (.tup xs) ∨
    ∃ (o : Obj) (its : Array Value) (n : Nat), K.lookup a = some o ∧ o.cls = .type "tuple" ∧ o.data = .seq its n ∧ its.size ≤ sizeLine ∧ Vals xs its.toList
section
variable {X : Cx} {pins : List (Addr × Obj)} {σ : St} {H : Hp} {s : Shared} {a : Addr} {xs ys : List V}
theorem SqL.of {K : PySem.W.Frag} (h : H a = some (.lst xs)) : SqL K H a xs := .inl (.inl h)
theorem Inv.list (I : Inv X pins σ H s) (h : SqL X.K H a xs) : ∃ its : List Value, Vals xs its ∧ PlainL s.heap a its.toArray ∧ xs.length ≤ sizeLine := by
  rcases h with h | ⟨o, its, n, hk, hc, hd, hs, hz, r⟩
  · obtain ⟨z, its, n, r, e⟩ := h.ok I.hok
    exact ⟨its, r, ⟨_, n, e, rfl, rfl, rfl⟩, z⟩
  · refine ⟨its.toList, r, ⟨o, n, I.kIn a o hk, hc, hd, by simpa using hs⟩, ?_⟩
    have e := r.length
    simp only [Array.length_toList] at e
    omega
theorem Inv.tuple (I : Inv X pins σ H s) (h : SqT X.K H a xs) : ∃ its : List Value, Vals xs its ∧ IsTup s.heap a its.toArray ∧ xs.length ≤ sizeLine := by
  rcases h with h | ⟨o, its, n, hk, hc, hs, hz, r⟩
  · obtain ⟨z, its, r, p⟩ := h.ok I.hok
    exact ⟨its, r, p, z⟩
  · refine ⟨its.toList, r, ⟨o, I.kIn a o hk, hc, n, by simpa using hs⟩, ?_⟩
    have e := r.length
    simp only [Array.length_toList] at e
    omega
end

abbrev Cx.wish (X : Cx) (E : Value → Shared → Prop) : Cx := { X with xe := E }
/-- no exception leaves -/
abbrev Cx.nox (X : Cx) : Cx := X.wish fun _ _ => False
theorem Cx.Ok.wish {X : Cx} (ok : X.Ok) (E : Value → Shared → Prop) : (X.wish E).Ok :=
  ⟨ok.mod, ok.kind, ok.glob, ok.blt, ok.above, ok.inj, ok.has, ok.cab, ok.hd, ok.frames, ok.stk, ok.exf, ok.bs, ok.bsz, ok.noex, ok.exfs, ok.funs, ok.frf⟩
theorem Cx.Ok.unwish {X : Cx} {E : Value → Shared → Prop} (ok : (X.wish E).Ok) : X.Ok :=
  ⟨ok.mod, ok.kind, ok.glob, ok.blt, ok.above, ok.inj, ok.has, ok.cab, ok.hd, ok.frames, ok.stk, ok.exf, ok.bs, ok.bsz, ok.noex, ok.exfs, ok.funs, ok.frf⟩
section
variable {X : Cx} {pins : List (Addr × Obj)} {σ : St} {H : Hp} {s : Shared} {E : Value → Shared → Prop}
theorem Inv.wish (I : Inv X pins σ H s) (E : Value → Shared → Prop) : Inv (X.wish E) pins σ H s := ⟨I.ok.wish E, I.os, I.bare, I.base, I.loc, I.cell, I.free, I.freeC, I.pin, I.hok, I.len⟩
theorem Inv.unwish (I : Inv (X.wish E) pins σ H s) : Inv X pins σ H s := ⟨I.ok.unwish, I.os, I.bare, I.base, I.loc, I.cell, I.free, I.freeC, I.pin, I.hok, I.len⟩
theorem SP.unwish {D : Ends} {f : Flow} {s' : Shared} (h : SP (X.wish E) pins D f s') : SP X pins D f s' := by
  cases f with
  | next => obtain ⟨σ', H', I, q⟩ := h; exact ⟨σ', H', I.unwish, q⟩
  | brk => obtain ⟨σ', H', I, q⟩ := h; exact ⟨σ', H', I.unwish, q⟩
  | cont => obtain ⟨σ', H', I, q⟩ := h; exact ⟨σ', H', I.unwish, q⟩
  | ret u => obtain ⟨v, σ', H', I, r, q⟩ := h; exact ⟨v, σ', H', I.unwish, r, q⟩
theorem PSs.nox {st : List Stmt} {t : TS} (h : PSs X.nox st t) : PSs X st t := fun pins s σ H D I hw =>
  wpAny_mono (h pins s σ H D (I.wish _) hw) (fun _ _ q => q.unwish) fun _ _ z => False.elim z
end

section
variable {X : Cx} {st : Stmt} {rest : List Stmt} {t u : TS} {e : Expr} {te : TE} {pos : Pos}
def tNext : TS := fun D σ H => D.nx σ H
def tSeq (t u : TS) : TS := fun D σ H => t { D with nx := u D } σ H
theorem pss_nil : PSs X [] tNext := fun _ _ σ H _ I h => wpAny_execs_nil ⟨σ, H, I, h⟩
theorem pss_cons (h1 : PS X st t) (h2 : PSs X rest u) : PSs X (st :: rest) (tSeq t u) := by
  intro pins s σ H D I h
  refine wpAny_execs_cons (thn (h1 pins s σ H { D with nx := u D } I h) fun f s1 q => ?_)
  cases f with
  | next =>
    obtain ⟨σ', H', I', q⟩ := q
    exact h2 pins s1 σ' H' D I' q
  | ret v => exact q
  | brk => exact q
  | cont => exact q
theorem pss_one (h1 : PS X st t) : PSs X [st] t := by
  intro pins s σ H D I h
  refine wpAny_execs_cons (thn (h1 pins s σ H D I h) fun f s1 q => ?_)
  cases f with
  | next => exact wpAny_execs_nil q
  | ret v => exact q
  | brk => exact q
  | cont => exact q
/-- in a def's body nothing is shown -/
theorem Inv.quiet {pins : List (Addr × Obj)} {σ : St} {H : Hp} {s : Shared} (I : Inv X pins σ H s) : interactive X.env = false := by simp [interactive, I.ok.kind]
/-- an expression whose value is dropped -/
def tDrop (te : TE) : TS := fun D σ H => te σ H fun _ H1 => D.nx σ H1
theorem ps_expr (he : PE X e te) (hs : swapsWith e none pos.line X.env = pure false := by rfl) : PS X (.Expr e pos) (tDrop te) := by
  intro pins s σ H D I h
  exact wpAny_Expr_any (thn (he pins s σ H _ I h) fun v s1 ⟨x, H1, I1, r1, q1⟩ => ⟨σ, H1, I1, q1⟩) I.quiet hs
def tRet (te : TE) : TS := fun D σ H => te σ H D.rt
theorem ps_ret (he : PE X e te) : PS X (.Return (some e) pos) (tRet te) := by
  intro pins s σ H D I h
  exact wpAny_Return_some (thn (he pins s σ H _ I h) fun v s1 ⟨x, H1, I1, r1, q1⟩ => ⟨x, σ, H1, I1, r1, q1⟩)
def tIfS (c : TT) (t u : TS) : TS := fun D σ H => c σ H fun b H1 => if b = true then t D σ H1 else u D σ H1
theorem ps_if {c : Expr} {a b : List Stmt} {tc : TT} (hc : PT X c tc) (ha : PSs X a t) (hb : PSs X b u) : PS X (.If c a b pos) (tIfS tc t u) := by
  intro pins s σ H D I h
  refine wpAny_If (thn (hc pins s σ H _ I h) fun d s1 ⟨H1, I1, q1⟩ => ?_)
  cases d with
  | true => exact ha pins s1 σ H1 D I1 q1
  | false => exact hb pins s1 σ H1 D I1 q1
end

abbrev TG := V → St → Hp → (St → Hp → Prop) → Prop
def PG (X : Cx) (target : Expr) (t : TG) : Prop :=
  ∀ (pins : List (Addr × Obj)) (s : Shared) (σ : St) (H : Hp) (v : V) (u : Value) (Q : St → Hp → Prop), Inv X pins σ H s → RelV v u → t v σ H Q →
    wpAny (model X.prog X.w) X.A (assign target X.env u) (fun _ s' => ∃ σ' H', Inv X pins σ' H' s' ∧ Q σ' H') X.xe s
/-- o[i] = v, by values -/
abbrev TSet := V → V → V → Hp → (Hp → Prop) → Prop
def PSet (X : Cx) (t : TSet) : Prop :=
  ∀ (pins : List (Addr × Obj)) (s : Shared) (σ : St) (H : Hp) (o i v : V) (ov iv u : Value) (Q : Hp → Prop), Inv X pins σ H s → RelV o ov → RelV i iv → RelV v u → t o i v H Q →
    wpAny (model X.prog X.w) X.A (setItem ov iv u) (fun _ s' => ∃ H', Inv X pins σ H' s' ∧ Q H') X.xe s
section
variable {X : Cx} {pos : Pos}
def gName (i : Nat) : TG := fun v σ H Q => Q (σ.set i (some v)) H
theorem pg_name {i : Nat} {x : Str} (hN : X.N.Nodup) (hi : X.N[i]? = some x) (hx : Loc X.env.scope x) (hf : X.fn x = true ∨ X.env.scope.names.lookup x = some .local := by first | exact .inl rfl | exact .inr rfl | assumption) : PG X (.Name x pos) (gName i) := by
  intro pins s σ H v u Q I r h
  exact wpAny_assign_Name (store_ok I hN hi hx r (fun s' I' => ⟨_, H, I', h⟩) hf)
/-- o[i] = .. -/
def gSub (to ti : TE) (t : TSet) : TG := fun v σ H Q => to σ H fun o H1 => ti σ H1 fun i H2 => t o i v H2 fun H3 => Q σ H3
theorem pg_sub {o i : Expr} {to ti : TE} {t : TSet} (ho : PE X o to) (hi : PE X i ti) (hs : PSet X t)
    (ha : ∀ v, assign (.Subscript o i pos) X.env v = (do
      let ov ← holding [v] (eval o X.env)
      let iv ← holding [v, ov] (eval i X.env)
      standAt pos
      holding [v, ov, iv] (setItem ov iv v)
      release [v, ov, iv] []) := by intro _; rfl) : PG X (.Subscript o i pos) (gSub to ti t) := by
  intro pins s σ H v u Q I r h
  rw [ha]
  refine wpAny_bind (wpAny_holding (thn (ho pins s σ H _ I h) fun ov s1 ⟨x, H1, I1, r1, q1⟩ => ?_))
  refine wpAny_bind (wpAny_holding (thn (hi pins s1 σ H1 _ I1 q1) fun iv s2 ⟨y, H2, I2, r2, q2⟩ => ?_))
  refine wpAny_bind (wpAny_standAt (wpAny_bind (wpAny_holding (thn (hs pins s2 σ H2 x y v ov iv u _ I2 r1 r2 r q2) fun _ s3 ⟨H3, I3, q3⟩ => ?_))))
  exact wpAny_release ⟨σ, H3, I3, q3⟩
/-- target = value -/
def tAsg (te : TE) (g : TG) : TS := fun D σ H => te σ H fun x H1 => g x σ H1 D.nx
theorem ps_asg {tg e : Expr} {te : TE} {g : TG} (he : PE X e te) (hg : PG X tg g) (hs : swapsWithSole [tg] e pos.line X.env = pure false := by rfl) (hw : swappedStores [tg] e X.env = pure none := by rfl)
    (h1 : (assignEach [tg] X.env).map (·.2) = [assign tg X.env] := by rfl) : PS X (.Assign [tg] e pos) (tAsg te g) := by
  intro pins s σ H D I h
  refine wpAny_Assign_stores (thn (he pins s σ H _ I h) fun v s1 ⟨x, H1, I1, r1, q1⟩ => ?_) hs hw
  rw [h1]
  exact thn (hg pins s1 σ H1 x v _ I1 r1 q1) fun _ s2 q => q
/-- name = value -/
theorem ps_set {i : Nat} {x : Str} {e : Expr} {te : TE} {pos' : Pos} (hN : X.N.Nodup) (hi : X.N[i]? = some x) (hx : Loc X.env.scope x) (he : PE X e te) (hs : swapsWith e (some (.Name x pos')) pos.line X.env = pure false := by rfl) (hf : X.fn x = true ∨ X.env.scope.names.lookup x = some .local := by first | exact .inl rfl | exact .inr rfl | assumption) :
    PS X (.Assign [.Name x pos'] e pos) (tAsg te (gName i)) := by
  intro pins s σ H D I h
  refine wpAny_Assign_Name (thn (he pins s σ H _ I h) fun v s1 ⟨y, H1, I1, r1, q1⟩ => ?_) hs
  exact store_ok I1 hN hi hx r1 (fun s2 I2 => ⟨_, H1, I2, q1⟩) hf
end

section
variable {X : Cx} {pos : Pos}
/-- the invariant W with its measure -/
def tWhile (c : TT) (tb : TS) : TS := fun D σ H => ∃ W : Nat → St → Hp → Prop, (∃ m, W m σ H) ∧ ∀ m σ H, W m σ H →
  c σ H fun b H1 => if b = true then ∃ N : St → Hp → Prop, (∀ σ' H', N σ' H' → ∃ m', m' < m ∧ W m' σ' H') ∧ tb { D with nx := N, ct := N, bk := D.nx } σ H1 else D.nx σ H1
theorem ps_while {c : Expr} {body : List Stmt} {tc : TT} {tb : TS} (hp : PassesOwn (model X.prog X.w) X.A X.env X.xe) (hc : PT X c tc) (hb : PSs X body tb) : PS X (.While c body [] pos) (tWhile tc tb) := by
  intro pins s σ H D I h
  obtain ⟨W, ⟨m0, w0⟩, turn⟩ := h
  refine wpAny_While (codeAny_whileLoop (fun n s' => ∃ σ' H', Inv X pins σ' H' s' ∧ W n σ' H') ?_ m0 ⟨σ, H, I, w0⟩)
  rintro n s1 ⟨σ1, H1, I1, w1⟩
  refine wpAny_passesOwn hp (thn (hc pins s1 σ1 H1 _ I1 (turn n σ1 H1 w1)) fun b s2 ⟨H2, I2, q2⟩ => ?_)
  cases b with
  | true =>
    obtain ⟨N, hN, q2⟩ := q2
    rw [if_pos rfl]
    refine wpAny_passesOwn hp (thn (hb pins s2 σ1 H2 _ I2 q2) fun f s3 q3 => ?_)
    cases f with
    | next =>
      obtain ⟨σ3, H3, I3, n3⟩ := q3
      obtain ⟨m', hm, w3⟩ := hN σ3 H3 n3
      exact ⟨m', hm, σ3, H3, I3, w3⟩
    | cont =>
      obtain ⟨σ3, H3, I3, n3⟩ := q3
      obtain ⟨m', hm, w3⟩ := hN σ3 H3 n3
      exact ⟨m', hm, σ3, H3, I3, w3⟩
    | brk => exact q3
    | ret v => exact q3
  | false =>
    rw [if_neg Bool.false_ne_true]
    exact wpAny_execs_nil ⟨σ1, H2, I2, q2⟩
end

/-- at turn i: it yields x (the heap may grow), or it stops -/
structure It where
  go : Nat → Hp → Prop
  yld : Nat → Hp → V → Hp → Prop
  stop : Nat → Hp → Prop
/-- the iterator's own objects may turn: they are not the frame's, not pinned, younger than the entry (or a comprehension's own) -/
def FpOk (X : Cx) (pins : List (Addr × Obj)) (H : Hp) (b : Addr) : Prop :=
  H b = none ∧ b ≠ X.env.locals ∧ b ∉ X.fs ∧ (b ∈ X.ex ∨ X.s_0.heap.objs.size ≤ b) ∧ (∀ x c, X.env.cells.lookup x = some c → c ≠ b) ∧ ∀ p ∈ X.pn ++ pins, p.1 ≠ b
theorem Inv.fpOk {X : Cx} {pins : List (Addr × Obj)} {σ : St} {H H' : Hp} {s : Shared} {b : Addr} (I : Inv X pins σ H s) (hb : s.heap.objs.size ≤ b) (hn : H' b = none) : FpOk X pins H' b := by
  refine ⟨hn, Nat.ne_of_gt (Nat.lt_of_lt_of_le I.lt hb), I.nofs hb, .inr (Nat.le_trans I.sz hb), fun x c e z => ?_, fun p hp z => ?_⟩
  · obtain ⟨v, q⟩ := I.cell x c e
    exact absurd (Nat.lt_of_lt_of_le q.lt (by rw [z]; exact hb)) (Nat.lt_irrefl _)
  · exact absurd (Nat.lt_of_lt_of_le (Heap.lt_size (I.pin p hp).1) (by rw [z]; exact hb)) (Nat.lt_irrefl _)
structure Turn (P : Program) (w : World) (K : PySem.W.Frag) (tg : Expr) (J : It) (fp : List Addr) (it : Addr) (tn : Nat → Heap → Prop) : Prop where
  mem : it ∈ fp
  obj : ∀ i h, tn i h → ∀ b ∈ fp, ∃ o, h.get? b = some o ∧ ∀ v, o.data ≠ .cell v
  keep : ∀ i h h', tn i h → (∀ b ∈ fp, ∀ o, h.get? b = some o → h'.get? b = some o) → tn i h'
  item : ∀ (X : Cx), X.prog = P → X.w = w → X.K = K → X.calm = true → ∀ (i : Nat) (pins : List (Addr × Obj)) (s : Shared) (σ : St) (H : Hp) (E : Value → Shared → Prop), Inv X pins σ H s → (∀ b ∈ fp, FpOk X pins H b) → tn i s.heap → J.go i H →
    wpAny (model P w) X.A (pyNext (.ref it)) (fun r s1 => ∃ u, r = some u ∧
      wpAny (model P w) X.A (letOwnedTupleGo tg (.ref it) u) (fun _ s2 => ∃ x H', Inv X pins σ H' s2 ∧ RelV x u ∧ J.yld i H x H' ∧ tn (i + 1) s2.heap ∧ ∀ b ∈ fp, H' b = none) E s1) E s
  done : ∀ (X : Cx), X.prog = P → X.w = w → X.K = K → X.calm = true → ∀ (i : Nat) (pins : List (Addr × Obj)) (s : Shared) (σ : St) (H : Hp) (E : Value → Shared → Prop), Inv X pins σ H s → (∀ b ∈ fp, FpOk X pins H b) → tn i s.heap → J.stop i H →
    wpAny (model P w) X.A (pyNext (.ref it)) (fun r s1 => r = none ∧ Inv X pins σ H s1) E s
  self : ∀ (A : Around) (i : Nat) (s : Shared) (Q : Value → Shared → Prop) (E : Value → Shared → Prop), tn i s.heap → Q (.ref it) s → wpAny (model P w) A (pyIter (.ref it)) Q E s
abbrev TI := St → Hp → (It → Hp → Prop) → Prop
/-- an iterator has come -/
def PIE (X : Cx) (pins : List (Addr × Obj)) (σ : St) (tg : Expr) (R : It → Hp → Prop) (itv : Value) (s2 : Shared) : Prop :=
  ∃ (it : Addr) (fp : List Addr) (tn : Nat → Heap → Prop) (J : It) (H' : Hp), itv = .ref it ∧ Inv X pins σ H' s2 ∧ Turn X.prog X.w X.K tg J fp it tn ∧ tn 0 s2.heap ∧ (∀ b ∈ fp, FpOk X pins H' b) ∧ R J H'
def PI (X : Cx) (tg iter : Expr) (wi : TI) : Prop :=
  ∀ (pins : List (Addr × Obj)) (s : Shared) (σ : St) (H : Hp) (R : It → Hp → Prop), Inv X pins σ H s → wi σ H R →
    wpAny (model X.prog X.w) X.A (eval iter X.env) (fun v s1 => wpAny (model X.prog X.w) X.A (pyIter v) (PIE X pins σ tg R) X.xe s1) X.xe s

/-- the step ahead of the store is nothing for an iterator that keeps no tuple -/
theorem go_of {M : Model} {A : Around} {E : Value → Shared → Prop} {s : Shared} {tg : Expr} {it : Addr} {u : Value} {o : Obj} {n : String} {vs : Array Value} {Q : Unit → Shared → Prop} (ho : s.heap.get? it = some o) (hc : o.cls = .type n) (hd : o.data = .fields vs)
    (hn : ["enumerate", "zip", "dict_itemiterator", "dict_reverseitemiterator", "odict_iterator", "itertools.zip_longest", "itertools.pairwise"].contains n = false) (hQ : Q () s) : wpAny M A (letOwnedTupleGo tg (.ref it) u) Q E s := by
  unfold letOwnedTupleGo
  cases tg <;> first
    | exact wpAny_pure hQ
    | (cases u <;> first
        | exact wpAny_pure hQ
        | (refine wpAny_bind (wpAny_load ho ?_)
           rw [hc, hd]
           show wpAny M A (if (["enumerate", "zip", "dict_itemiterator", "dict_reverseitemiterator", "odict_iterator", "itertools.zip_longest", "itertools.pairwise"].contains n && vs[0]? == some (rawInt _)) = true then _ else _) Q E s
           rw [if_neg (by intro h; rw [hn, Bool.false_and] at h; cases h)]
           exact wpAny_pure hQ))

/-- lo, lo + 1, .. (n of them) -/
def Itr (lo : Int) (n : Nat) : It := ⟨fun i _ => i < n, fun i H x H' => H' = H ∧ x = .int (lo + i), fun i _ => n ≤ i⟩
theorem turn_range {P : Program} {w : World} {K : PySem.W.Frag} {tg : Expr} (it : Addr) (lo : Int) (n : Nat) : Turn P w K tg (Itr lo n) [it] it (fun i h => IsRangeIter h it (lo + (i : Nat) * 1) ((n : Int) - (i : Nat)) 1) where
  mem := by simp
  obj := fun i h st b hb => by
    have e : b = it := by simpa using hb
    subst e
    exact ⟨_, st, fun v z => by
      have z' : Data.fields _ = Data.cell v := z
      cases z'⟩
  keep := fun i h h' st k => k it (by simp) _ st
  item := by
    intro X hP hw hK hc i pins s σ H E I hf st hg
    subst hP hw hK
    obtain ⟨f0, f1, f2, f3, f4, f5⟩ := hf it (by simp)
    have W := Walks.range (prog := X.prog) (w := X.w) (I.ok.hd hc) it lo 1 n
    refine W.item i s _ _ hg st fun v h' tk hv st' kk => ?_
    obtain ⟨t, rfl⟩ := hv
    have I1 : Inv X pins σ H { s with heap := h', toks := tk } := I.turned (fun b o hb e => kk b o (by simpa using hb) e) f0 f1 f3 f4 f5
    refine ⟨_, rfl, go_of (s := { s with heap := h', toks := tk }) (n := "range_iterator") st' rfl rfl (by decide) ⟨.int (lo + i), H, I1, ⟨t, ?_⟩, ⟨rfl, rfl⟩, st', fun b hb => (hf b hb).1⟩⟩
    rw [Int.mul_one]
  done := by
    intro X hP hw hK hc i pins s σ H E I hf st hg
    subst hP hw hK
    obtain ⟨f0, f1, f2, f3, f4, f5⟩ := hf it (by simp)
    exact wpAny_pyNext_range_end (I.ok.hd hc) st (by have : n ≤ i := hg; omega) fun h' eb => ⟨rfl, I.turned (t' := s.toks) (fun b o hb e => eb b o hb e) f0 f1 f3 f4 f5⟩
  self := fun _ _ _ _ _ st h => wpAny_pyIter_rangeiter st h
end L2

namespace L2
open PySem PySem.Spec PyProof.Rows
section
variable {X : Cx} {tg : Expr}
/-- a range object just made, walked -/
theorem range_it {pins : List (Addr × Obj)} {σ : St} {H : Hp} {s : Shared} {R : It → Hp → Prop} {E : Value → Shared → Prop} {lo hi : Int} {t u v : Tok} {tk : Nat} (I : Inv X pins σ H s) (h1 : -(2 ^ 62) ≤ lo) (h2 : lo < 2 ^ 62) (h3 : -(2 ^ 62) ≤ hi) (h4 : hi < 2 ^ 62)
    (q : R (Itr lo (hi - lo).toNat) H) : wpAny (model X.prog X.w) X.A (pyIter (.ref s.heap.objs.size)) (PIE X pins σ tg R) E { s with heap := s.heap.push { cls := .type "range", data := .fields #[.int lo t, .int hi u, .int 1 v] }, toks := tk } := by
  refine wpAny_pyIter_range (IsRange.new ..) (small_one h1 h2 h3 h4) ?_
  have I1 : Inv X pins σ H { s with heap := s.heap.push { cls := .type "range", data := .fields #[.int lo t, .int hi u, .int 1 v] }, toks := tk } := I.kept fun b o e => Heap.get?_push_of_some _ e
  refine ⟨(s.heap.push { cls := .type "range", data := .fields #[.int lo t, .int hi u, .int 1 v] }).objs.size, [(s.heap.push { cls := .type "range", data := .fields #[.int lo t, .int hi u, .int 1 v] }).objs.size], _, _, H, rfl,
    I1.kept (t' := tk) fun b o e => Heap.get?_push_of_some _ e, turn_range _ lo (hi - lo).toNat, ?_, fun b hb => ?_, q⟩
  · have e1 : lo + ((0 : Nat) : Int) * 1 = lo := by simp
    have e2 : (((hi - lo).toNat : Nat) : Int) - ((0 : Nat) : Int) = Builtin.Range.rangeSize lo hi 1 := by rw [rangeSize_one]; split <;> omega
    show IsRangeIter _ _ (lo + ((0 : Nat) : Int) * 1) ((((hi - lo).toNat : Nat) : Int) - ((0 : Nat) : Int)) 1
    rw [e1, e2]
    exact Heap.get?_push_size _ rfl
  · have e : b = (s.heap.push { cls := .type "range", data := .fields #[.int lo t, .int hi u, .int 1 v] }).objs.size := by simpa using hb
    subst e
    exact I1.fpOk (Nat.le_refl _) (I1.hok.fresh (Nat.le_refl _))
def iRng1 (ta : TA) : TI := fun σ H R => ta σ H fun vs H1 => ∃ j : Int, vs = [.int j] ∧ -(2 ^ 62) ≤ j ∧ j < 2 ^ 62 ∧ R (Itr 0 j.toNat) H1
def iRng2 (ta : TA) : TI := fun σ H R => ta σ H fun vs H1 => ∃ i j : Int, vs = [.int i, .int j] ∧ (-(2 ^ 62) ≤ i ∧ i < 2 ^ 62 ∧ -(2 ^ 62) ≤ j ∧ j < 2 ^ 62) ∧ R (Itr i (j - i).toNat) H1
theorem pi_range1 {a : Expr} {ta : TA} {p pos : Pos} (hg : Gl X "range") (hm : X.mg "range" = none) (ha : PA X [a] ta) (hs : starEach [a] X.env = [(false, eval a X.env)] := by rfl) : PI X tg (.Call (.Name "range" p) [a] [] pos) (iRng1 ta) := by
  intro pins s σ H R I h
  refine Call_ (ld_blt I hg hm boot_range (PyProof.Rows.callWith_type1 (thn (ha pos pins s σ H _ I h) fun us s1 ⟨vs, H1, I1, r1, q1⟩ => ?_) hs rfl))
  obtain ⟨j, e, q1, q2, q⟩ := q1
  subst e
  cases r1 with
  | cons r rr =>
    cases rr
    obtain ⟨t, rfl⟩ := r
    exact call_range_1 (range_it I1 (by omega) (by omega) q1 q2 (by simpa using q))
theorem pi_range2 {a b : Expr} {ta : TA} {p pos : Pos} (hg : Gl X "range") (hm : X.mg "range" = none) (ha : PA X [a, b] ta) (hs : starEach [a, b] X.env = [(false, eval a X.env), (false, eval b X.env)] := by rfl) (hs2 : starEach [b] X.env = [(false, eval b X.env)] := by rfl) :
    PI X tg (.Call (.Name "range" p) [a, b] [] pos) (iRng2 ta) := by
  intro pins s σ H R I h
  refine Call_ (ld_blt I hg hm boot_range (PyProof.Rows.callWith_type1 (thn (ha pos pins s σ H _ I h) fun us s1 ⟨vs, H1, I1, r1, q1⟩ => ?_) (by rw [hs, hs2]) (by rw [hs2]; rfl)))
  obtain ⟨i, j, e, ⟨q1, q2, q3, q4⟩, q⟩ := q1
  subst e
  cases r1 with
  | cons r rr =>
    cases rr with
    | cons r' rr =>
      cases rr
      obtain ⟨t, rfl⟩ := r
      obtain ⟨t', rfl⟩ := r'
      exact call_range_2 (range_it I1 q1 q2 q3 q4 q)

/-- W: the invariant by the turn and a measure; N: what the body is to reach -/
def tFor (wi : TI) (g : TG) (tb : TS) : TS := fun D σ H => wi σ H fun J H1 => ∃ W : Nat → Nat → St → Hp → Prop, (∃ m, W 0 m σ H1) ∧ ∀ i m σ H, W i m σ H →
  (J.stop i H ∧ D.nx σ H) ∨ (J.go i H ∧ ∃ N : St → Hp → Prop, (∀ σ' H', N σ' H' → ∃ m', m' < m ∧ W (i + 1) m' σ' H') ∧ ∀ x H', J.yld i H x H' → g x σ H' fun σ2 H2 => tb { D with nx := N, ct := N, bk := D.nx } σ2 H2)
/-- the records at fp as they stand -/
def pinsAt (fp : List Addr) (h : Heap) : List (Addr × Obj) := fp.filterMap fun b => (h.get? b).map fun o => (b, o)
theorem mem_pinsAt {fp : List Addr} {h : Heap} {b : Addr} {o : Obj} (hb : b ∈ fp) (e : h.get? b = some o) : (b, o) ∈ pinsAt fp h := List.mem_filterMap.mpr ⟨b, hb, by rw [e]; rfl⟩
theorem of_pinsAt {fp : List Addr} {h : Heap} {p : Addr × Obj} (hp : p ∈ pinsAt fp h) : p.1 ∈ fp ∧ h.get? p.1 = some p.2 := by
  obtain ⟨b, hb, e⟩ := List.mem_filterMap.mp hp
  cases q : h.get? b with
  | none => rw [q] at e; cases e
  | some o =>
    rw [q] at e
    have e' : (b, o) = p := Option.some.inj e
    subst e'
    exact ⟨hb, q⟩
theorem Inv.pinned {pins : List (Addr × Obj)} {σ : St} {H : Hp} {s : Shared} {fp : List Addr} (I : Inv X pins σ H s) (hf : ∀ b ∈ fp, FpOk X pins H b) (ho : ∀ b ∈ fp, ∃ o, s.heap.get? b = some o ∧ ∀ v, o.data ≠ .cell v) : Inv X (pins ++ pinsAt fp s.heap) σ H s :=
  I.pins_of fun p hp => (List.mem_append.mp hp).elim (fun z => I.pin p (List.mem_append_right _ z)) fun z => by
    obtain ⟨hb, e⟩ := of_pinsAt z
    obtain ⟨f0, f1, f2, _⟩ := hf p.1 hb
    obtain ⟨o, e', d⟩ := ho p.1 hb
    rw [e] at e'; cases e'
    exact ⟨e, f0, f1, f2, d⟩
theorem Inv.unpinned {pins pl : List (Addr × Obj)} {σ : St} {H : Hp} {s : Shared} (I : Inv X (pins ++ pl) σ H s) : Inv X pins σ H s := I.pins_of fun p hp => I.pin p (List.mem_append_right _ (List.mem_append_left _ hp))
theorem ps_for {iter : Expr} {body : List Stmt} {wi : TI} {g : TG} {tb : TS} {pos : Pos} (hp : PassesOwn (model X.prog X.w) X.A X.env X.xe) (hc : X.calm = true) (hi : PI X tg iter wi) (hg : PG X tg g) (hb : PSs X body tb)
    (hs : ∀ x, foldedSetIterable iter X.env x = pure x := by intro _; rfl) : PS X (.For tg iter body [] pos) (tFor wi g tb) := by
  intro pins s σ H D I h
  refine wpAny_For (thn (hi pins s σ H _ I h) fun v s1 h1 => thn h1 fun itv s2 h2 => ?_) hs
  obtain ⟨it, fp, tn, J, H2, e, I2, T, st2, f2, W, ⟨m0, w0⟩, turn⟩ := h2
  subst e
  -- what stays true of the iterator's objects through the loop
  have stat : ∀ {H' : Hp}, (∀ b ∈ fp, H' b = none) → ∀ b ∈ fp, FpOk X pins H' b := fun hn b hb => ⟨hn b hb, (f2 b hb).2⟩
  refine codeAny_forLoop_any (fun n s' => ∃ i σ' H', Inv X pins σ' H' s' ∧ tn i s'.heap ∧ (∀ b ∈ fp, H' b = none) ∧ W i n σ' H') ?_ m0 ⟨0, σ, H2, I2, st2, fun b hb => (f2 b hb).1, w0⟩
  rintro n s3 ⟨i, σ3, H3, I3, st3, fr3, w3⟩
  rcases turn i n σ3 H3 w3 with ⟨stop, qn⟩ | ⟨go, N, hN, step⟩
  · refine wpAny_passesOwn hp (thn (T.done X rfl rfl rfl hc i pins s3 σ3 H3 X.xe I3 (stat fr3) st3 stop) fun r s4 ⟨hr, I4⟩ => ?_)
    subst hr
    exact wpAny_execs_nil ⟨σ3, H3, I4, qn⟩
  · refine wpAny_passesOwn hp (thn (T.item X rfl rfl rfl hc i pins s3 σ3 H3 X.xe I3 (stat fr3) st3 go) fun r s4 ⟨u, hr, h4⟩ => ?_)
    subst hr
    refine wpAny_passesOwn hp (thn h4 fun _ s5 ⟨x, H5, I5, r5, y5, st5, fr5⟩ => ?_)
    have I5' := I5.pinned (stat fr5) (T.obj _ _ st5)
    refine wpAny_passesOwn hp (thn (hg _ s5 σ3 H5 x u _ I5' r5 (step x H5 y5)) fun _ s6 ⟨σ6, H6, I6, q6⟩ => ?_)
    refine wpAny_passesOwn hp (thn (hb _ s6 σ6 H6 _ I6 q6) fun f s7 q7 => ?_)
    have again : ∀ {σ7 : St} {H7 : Hp}, Inv X (pins ++ pinsAt fp s5.heap) σ7 H7 s7 → N σ7 H7 → ∃ m, m < n ∧ ∃ i σ' H', Inv X pins σ' H' s7 ∧ tn i s7.heap ∧ (∀ b ∈ fp, H' b = none) ∧ W i m σ' H' := fun {σ7 H7} I7 n7 => by
      obtain ⟨m', hm, w7⟩ := hN σ7 H7 n7
      refine ⟨m', hm, i + 1, σ7, H7, I7.unpinned, T.keep _ _ _ st5 fun b hb o e => (I7.pin (b, o) (List.mem_append_right _ (List.mem_append_right _ (mem_pinsAt hb e)))).1, fun b hb => ?_, w7⟩
      obtain ⟨o, e, d⟩ := T.obj _ _ st5 b hb
      exact (I7.pin (b, o) (List.mem_append_right _ (List.mem_append_right _ (mem_pinsAt hb e)))).2.1
    cases f with
    | next => obtain ⟨σ7, H7, I7, n7⟩ := q7; exact again I7 n7
    | cont => obtain ⟨σ7, H7, I7, n7⟩ := q7; exact again I7 n7
    | brk => obtain ⟨σ7, H7, I7, q7⟩ := q7; exact ⟨σ7, H7, I7.unpinned, q7⟩
    | ret v => obtain ⟨x7, σ7, H7, I7, r7, q7⟩ := q7; exact ⟨x7, σ7, H7, I7.unpinned, r7, q7⟩
end

theorem for_range {lo : Int} {n : Nat} {g : TG} {tb : TS} {D : Ends} {σ : St} {H : Hp} (Pv : Nat → St → Hp → Prop) (h0 : Pv 0 σ H)
    (hs : ∀ i σ H, i < n → Pv i σ H → g (.int (lo + i)) σ H fun σ2 H2 => tb { D with nx := Pv (i + 1), ct := Pv (i + 1), bk := D.nx } σ2 H2) (hd : ∀ σ H, Pv n σ H → D.nx σ H) :
    ∃ W : Nat → Nat → St → Hp → Prop, (∃ m, W 0 m σ H) ∧ ∀ i m σ H, W i m σ H →
      ((Itr lo n).stop i H ∧ D.nx σ H) ∨ ((Itr lo n).go i H ∧ ∃ N : St → Hp → Prop, (∀ σ' H', N σ' H' → ∃ m', m' < m ∧ W (i + 1) m' σ' H') ∧ ∀ x H', (Itr lo n).yld i H x H' → g x σ H' fun σ2 H2 => tb { D with nx := N, ct := N, bk := D.nx } σ2 H2) := by
  refine ⟨fun i m σ H => m = n - i ∧ i ≤ n ∧ Pv i σ H, ⟨n, by simp, Nat.zero_le _, h0⟩, ?_⟩
  rintro i m σ H ⟨rfl, hi, p⟩
  by_cases hlt : i < n
  · refine .inr ⟨hlt, Pv (i + 1), fun σ' H' p' => ⟨n - (i + 1), by omega, rfl, hlt, p'⟩, fun x H' y => ?_⟩
    obtain ⟨e, y⟩ := y
    subst e y
    exact hs i σ _ hlt p
  · have e : i = n := by omega
    subst e
    exact .inl ⟨Nat.le_refl _, hd σ H p⟩
/-- while, by a word and a measure of the state -/
theorem while_by {c : TT} {tb : TS} {D : Ends} {σ : St} {H : Hp} (Pv : St → Hp → Prop) (μ : St → Hp → Nat) (h0 : Pv σ H)
    (hs : ∀ σ H, Pv σ H → c σ H fun b H1 => if b = true then tb { D with nx := fun σ' H' => Pv σ' H' ∧ μ σ' H' < μ σ H, ct := fun σ' H' => Pv σ' H' ∧ μ σ' H' < μ σ H, bk := D.nx } σ H1 else D.nx σ H1)
    (mono : ∀ σ H Q Q', (∀ b H1, Q b H1 → Q' b H1) → c σ H Q → c σ H Q') : tWhile c tb D σ H := by
  refine ⟨fun m σ H => m = μ σ H ∧ Pv σ H, ⟨_, rfl, h0⟩, ?_⟩
  rintro m σ H ⟨rfl, p⟩
  refine mono σ H _ _ (fun b H1 q => ?_) (hs σ H p)
  cases b with
  | true => exact ⟨_, fun σ' H' ⟨p', l⟩ => ⟨_, l, rfl, p'⟩, q⟩
  | false => exact q
end L2

namespace L2
open PySem PySem.Spec PyProof.Rows

abbrev R2 := V → V → Hp → VK → Prop
/-- a two-place operation on values: f is binaryOp op, inplaceOp op or compareOp op -/
def OpR (X : Cx) (f : Value → Value → Sem Value) (r : R2) : Prop :=
  ∀ (pins : List (Addr × Obj)) (s : Shared) (σ : St) (H : Hp) (x y : V) (v u : Value) (Q : VK), Inv X pins σ H s → RelV x v → RelV y u → r x y H Q →
    wpAny (model X.prog X.w) X.A (f v u) (EP X pins σ Q) X.xe s
/-- a one-place operation -/
def UnR (X : Cx) (f : Value → Sem Value) (r : V → Hp → VK → Prop) : Prop :=
  ∀ (pins : List (Addr × Obj)) (s : Shared) (σ : St) (H : Hp) (x : V) (v : Value) (Q : VK), Inv X pins σ H s → RelV x v → r x H Q →
    wpAny (model X.prog X.w) X.A (f v) (EP X pins σ Q) X.xe s
/-- a call of a value that is known (a builtin, a type) with values -/
def CallR (X : Cx) (f : Value) (r : List V → Hp → VK → Prop) : Prop :=
  ∀ (pins : List (Addr × Obj)) (s : Shared) (σ : St) (H : Hp) (xs : List V) (us : List Value) (Q : VK), Inv X pins σ H s → Vals xs us → r xs H Q →
    wpAny (model X.prog X.w) X.A (call f us) (EP X pins σ Q) X.xe s
def tOp (r : R2) (ta tb : TE) : TE := fun σ H Q => ta σ H fun x H1 => tb σ H1 fun y H2 => r x y H2 Q
def tUn (r : V → Hp → VK → Prop) (ta : TE) : TE := fun σ H Q => ta σ H fun x H1 => r x H1 Q
/-- ints in, under C, and a value out -/
def rI (C : Int → Int → Prop) (g : Int → Int → V) : R2 := fun x y H Q => ∃ i j, x = .int i ∧ y = .int j ∧ C i j ∧ Q (g i j) H
def rI0 (g : Int → Int → V) : R2 := fun x y H Q => ∃ i j, x = .int i ∧ y = .int j ∧ Q (g i j) H
def rU (g : Int → V) : V → Hp → VK → Prop := fun x H Q => ∃ i, x = .int i ∧ Q (g i) H

section
variable {X : Cx} {a b c : Expr} {ta tb tc : TE} {pos : Pos}

theorem binT (ha : PE X a ta) (hb : PE X b tb) {pins : List (Addr × Obj)} {s : Shared} {σ : St} {H : Hp} {R : V → V → Hp → Prop} (I : Inv X pins σ H s)
    (h : ta σ H fun x H1 => tb σ H1 fun y H2 => R x y H2) {Q : Value → Shared → Prop} {f : Value → Value → Sem Value}
    (hf : ∀ v u s2 x y H2, Inv X pins σ H2 s2 → RelV x v → RelV y u → R x y H2 → wpAny (model X.prog X.w) X.A (f v u) Q X.xe s2) :
    wpAny (model X.prog X.w) X.A (eval a X.env) (fun v s₁ => wpAny (model X.prog X.w) X.A (eval b X.env) (fun u s₂ => wpAny (model X.prog X.w) X.A (f v u) Q X.xe s₂) X.xe s₁) X.xe s := by
  refine thn (ha pins s σ H _ I h) fun v s1 ⟨x, H1, I1, r1, q1⟩ => ?_
  refine thn (hb pins s1 σ H1 _ I1 q1) fun u s2 ⟨y, H2, I2, r2, q2⟩ => ?_
  exact hf v u s2 x y H2 I2 r1 r2 q2

theorem pe_op {op : Operator} {r : R2} (ho : OpR X (binaryOp op) r) (ha : PE X a ta) (hb : PE X b tb) : PE X (.BinOp a op b pos) (tOp r ta tb) := by
  intro pins s σ H Q I h
  exact wpAny_BinOp (binT ha hb I h fun v u s2 x y H2 I2 rx ry q => ho pins s2 σ H2 x y v u Q I2 rx ry q)
theorem pe_un {op : UnaryOp} {r : V → Hp → VK → Prop} (ho : UnR X (unaryOp op) r) (ha : PE X a ta) : PE X (.UnaryOp op a pos) (tUn r ta) := by
  intro pins s σ H Q I h
  exact UnaryOp_ (thn (ha pins s σ H _ I h) fun v s1 ⟨x, H1, I1, r1, q1⟩ => ho pins s1 σ H1 x v Q I1 r1 q1)
theorem opI {f : Value → Value → Sem Value} {C : Int → Int → Prop} {g : Int → Int → Int}
    (rule : ∀ (i j : Int) (t u : Tok) (s : Shared) (Q : Value → Shared → Prop) (E : Value → Shared → Prop), C i j → Q (.int (g i j) s.toks) { s with toks := s.toks + 1 } → wpAny (model X.prog X.w) X.A (f (.int i t) (.int j u)) Q E s) :
    OpR X f (rI C fun i j => .int (g i j)) := by
  intro pins s σ H x y v u Q I rx ry h
  obtain ⟨i, j, rfl, rfl, hc, q⟩ := h
  obtain ⟨t, rfl⟩ := rx
  obtain ⟨t', rfl⟩ := ry
  exact rule i j t t' s _ _ hc ⟨.int (g i j), H, I.tok _, ⟨_, rfl⟩, q⟩
theorem opI0 {f : Value → Value → Sem Value} {g : Int → Int → Int}
    (rule : ∀ (i j : Int) (t u : Tok) (s : Shared) (Q : Value → Shared → Prop) (E : Value → Shared → Prop), Q (.int (g i j) s.toks) { s with toks := s.toks + 1 } → wpAny (model X.prog X.w) X.A (f (.int i t) (.int j u)) Q E s) :
    OpR X f (rI0 fun i j => .int (g i j)) := by
  intro pins s σ H x y v u Q I rx ry h
  obtain ⟨i, j, rfl, rfl, q⟩ := h
  obtain ⟨t, rfl⟩ := rx
  obtain ⟨t', rfl⟩ := ry
  exact rule i j t t' s _ _ ⟨.int (g i j), H, I.tok _, ⟨_, rfl⟩, q⟩
theorem opB0 {f : Value → Value → Sem Value} {g : Int → Int → Bool}
    (rule : ∀ (i j : Int) (t u : Tok) (s : Shared) (Q : Value → Shared → Prop) (E : Value → Shared → Prop), Q (.bool (g i j)) s → wpAny (model X.prog X.w) X.A (f (.int i t) (.int j u)) Q E s) :
    OpR X f (rI0 fun i j => .bl (g i j)) := by
  intro pins s σ H x y v u Q I rx ry h
  obtain ⟨i, j, rfl, rfl, q⟩ := h
  obtain ⟨t, rfl⟩ := rx
  obtain ⟨t', rfl⟩ := ry
  exact rule i j t t' s _ _ ⟨.bl (g i j), H, I, rfl, q⟩

def CMul (i j : Int) : Prop := (-(2 ^ 64) < i ∧ i < 2 ^ 64) ∨ (-(2 ^ 64) < j ∧ j < 2 ^ 64)
theorem CMul.ok {i j : Int} (h : CMul i j) : IntMulOk i j := by
  rcases h with ⟨h1, h2⟩ | ⟨h1, h2⟩
  · exact .of_left (intBits_le_64 h1 h2)
  · exact .of_right (intBits_le_64 h1 h2)
theorem op_add : OpR X (binaryOp .Add) (rI0 fun i j => .int (i + j)) := opI0 fun _ _ _ _ _ _ _ q => add_int q
theorem op_sub : OpR X (binaryOp .Sub) (rI0 fun i j => .int (i - j)) := opI0 fun _ _ _ _ _ _ _ q => sub_int q
theorem op_mul : OpR X (binaryOp .Mult) (rI CMul fun i j => .int (i * j)) := opI fun _ _ _ _ _ _ _ hc q => mul_int q hc.ok
theorem unI {f : Value → Sem Value} {g : Int → Int}
    (rule : ∀ (i : Int) (t : Tok) (s : Shared) (Q : Value → Shared → Prop) (E : Value → Shared → Prop), Q (.int (g i) s.toks) { s with toks := s.toks + 1 } → wpAny (model X.prog X.w) X.A (f (.int i t)) Q E s) :
    UnR X f (rU fun i => .int (g i)) := by
  intro pins s σ H x v Q I rx h
  obtain ⟨i, rfl, q⟩ := h
  obtain ⟨t, rfl⟩ := rx
  exact rule i t s _ _ ⟨.int (g i), H, I.tok _, ⟨_, rfl⟩, q⟩
theorem un_neg : UnR X (unaryOp .USub) (rU fun i => .int (-i)) := unI fun _ _ _ _ _ q => neg_int q
end

/-- the scalars that == tells apart as data does -/
def scal : V → V → Bool
  | .non, .non => true | .non, .int _ => true | .int _, .non => true | .non, .bl _ => true | .bl _, .non => true | .non, .str _ => true | .str _, .non => true
  | .int _, .int _ => true | .bl _, .bl _ => true | .str _, .str _ => true | .byt _, .byt _ => true
  | .int _, .str _ => true | .str _, .int _ => true | .bl _, .str _ => true | .str _, .bl _ => true
  | _, _ => false
def rEq : R2 := fun x y H Q => scal x y = true ∧ Q (.bl (decide (x = y))) H
def rNe : R2 := fun x y H Q => scal x y = true ∧ Q (.bl (!decide (x = y))) H

theorem dec_int {i j : Int} : decide (V.int i = V.int j) = (i == j) := by
  rw [Bool.eq_iff_iff]
  simp
theorem dec_bl {i j : Bool} : decide (V.bl i = V.bl j) = (i == j) := by
  rw [Bool.eq_iff_iff]
  simp
theorem dec_str {i j : Str} : decide (V.str i = V.str j) = (i == j) := by
  rw [Bool.eq_iff_iff]
  simp
theorem dec_byt {i j : Array UInt8} : decide (V.byt i = V.byt j) = (i.toList == j.toList) := by
  rw [Bool.eq_iff_iff]
  cases i
  cases j
  simp

section
variable {X : Cx} {a b c : Expr} {ta tb tc : TE} {pos : Pos}
theorem fin_bl {pins : List (Addr × Obj)} {σ : St} {H : Hp} {s : Shared} {Q : VK} {k k' : Bool} (I : Inv X pins σ H s) (q : Q (.bl k) H) (e : k = k') : EP X pins σ Q (.bool k') s := by
  subst e
  exact ⟨.bl k, H, I, rfl, q⟩
theorem op_eq : OpR X (compareOp .Eq) rEq := by
  intro pins s σ H x y v u Q I rx ry h
  obtain ⟨hs, q⟩ := h
  cases x with
  | non =>
    cases rx
    cases y with
    | non => cases ry; exact PySem.EqNone.eq_none_none (fin_bl I q (by simp))
    | bl j => cases ry; exact PySem.EqNone.eq_none_bool (fin_bl I q (by simp))
    | int j => obtain ⟨t', rfl⟩ := ry; exact PySem.EqNone.eq_none_int (fin_bl I q (by simp))
    | str j => obtain ⟨t', rfl⟩ := ry; exact PySem.EqNone.eq_none_str (fin_bl I q (by simp))
    | _ => exact absurd (show false = true from hs) Bool.false_ne_true
  | bl i =>
    cases rx
    cases y with
    | non => cases ry; exact PySem.EqNone.eq_bool_none (fin_bl I q (by simp))
    | bl j => cases ry; exact eq_bool (fin_bl I q dec_bl)
    | str j => obtain ⟨t', rfl⟩ := ry; exact PySem.EqMixed.eq_bool_str (fin_bl I q (by simp))
    | _ => exact absurd (show false = true from hs) Bool.false_ne_true
  | int i =>
    obtain ⟨t, rfl⟩ := rx
    cases y with
    | non => cases ry; exact PySem.EqNone.eq_int_none (fin_bl I q (by simp))
    | int j => obtain ⟨t', rfl⟩ := ry; exact eq_int (fin_bl I q dec_int)
    | str j => obtain ⟨t', rfl⟩ := ry; exact PySem.EqMixed.eq_int_str (fin_bl I q (by simp))
    | _ => exact absurd (show false = true from hs) Bool.false_ne_true
  | str i =>
    obtain ⟨t, rfl⟩ := rx
    cases y with
    | non => cases ry; exact PySem.EqNone.eq_str_none (fin_bl I q (by simp))
    | bl j => cases ry; exact PySem.EqMixed.eq_str_bool (fin_bl I q (by simp))
    | int j => obtain ⟨t', rfl⟩ := ry; exact PySem.EqMixed.eq_str_int (fin_bl I q (by simp))
    | str j => obtain ⟨t', rfl⟩ := ry; exact eq_str (fin_bl I q dec_str)
    | _ => exact absurd (show false = true from hs) Bool.false_ne_true
  | byt i =>
    obtain ⟨t, rfl⟩ := rx
    cases y with
    | byt j => obtain ⟨t', rfl⟩ := ry; exact PySem.W.eq_bytes (fin_bl I q dec_byt)
    | _ => exact absurd (show false = true from hs) Bool.false_ne_true
  | _ => cases y <;> exact absurd (show false = true from hs) Bool.false_ne_true
theorem op_ne : OpR X (compareOp .NotEq) rNe := by
  intro pins s σ H x y v u Q I rx ry h
  obtain ⟨hs, q⟩ := h
  cases x with
  | non =>
    cases rx
    cases y with
    | non => cases ry; exact PySem.EqNone.ne_none_none (fin_bl I q (by simp))
    | bl j => cases ry; exact PySem.EqNone.ne_none_bool (fin_bl I q (by simp))
    | int j => obtain ⟨t', rfl⟩ := ry; exact PySem.EqNone.ne_none_int (fin_bl I q (by simp))
    | str j => obtain ⟨t', rfl⟩ := ry; exact PySem.EqNone.ne_none_str (fin_bl I q (by simp))
    | _ => exact absurd (show false = true from hs) Bool.false_ne_true
  | bl i =>
    cases rx
    cases y with
    | non => cases ry; exact PySem.EqNone.ne_bool_none (fin_bl I q (by simp))
    | bl j => cases ry; exact ne_bool (fin_bl I q (congrArg not dec_bl))
    | str j => obtain ⟨t', rfl⟩ := ry; exact PySem.EqMixed.ne_bool_str (fin_bl I q (by simp))
    | _ => exact absurd (show false = true from hs) Bool.false_ne_true
  | int i =>
    obtain ⟨t, rfl⟩ := rx
    cases y with
    | non => cases ry; exact PySem.EqNone.ne_int_none (fin_bl I q (by simp))
    | int j => obtain ⟨t', rfl⟩ := ry; exact ne_int (fin_bl I q (congrArg not dec_int))
    | str j => obtain ⟨t', rfl⟩ := ry; exact PySem.EqMixed.ne_int_str (fin_bl I q (by simp))
    | _ => exact absurd (show false = true from hs) Bool.false_ne_true
  | str i =>
    obtain ⟨t, rfl⟩ := rx
    cases y with
    | non => cases ry; exact PySem.EqNone.ne_str_none (fin_bl I q (by simp))
    | bl j => cases ry; exact PySem.EqMixed.ne_str_bool (fin_bl I q (by simp))
    | int j => obtain ⟨t', rfl⟩ := ry; exact PySem.EqMixed.ne_str_int (fin_bl I q (by simp))
    | str j => obtain ⟨t', rfl⟩ := ry; exact ne_str (fin_bl I q (congrArg not dec_str))
    | _ => exact absurd (show false = true from hs) Bool.false_ne_true
  | byt i =>
    obtain ⟨t, rfl⟩ := rx
    cases y with
    | byt j => obtain ⟨t', rfl⟩ := ry; exact PySem.W.ne_bytes (fin_bl I q (congrArg not dec_byt))
    | _ => exact absurd (show false = true from hs) Bool.false_ne_true
  | _ => cases y <;> exact absurd (show false = true from hs) Bool.false_ne_true

theorem op_lt : OpR X (compareOp .Lt) (rI0 fun i j => .bl (decide (i < j))) := opB0 fun _ _ _ _ _ _ _ q => lt_int q
theorem op_gt : OpR X (compareOp .Gt) (rI0 fun i j => .bl (decide (j < i))) := opB0 fun _ _ _ _ _ _ _ q => gt_int q
theorem op_ge : OpR X (compareOp .GtE) (rI0 fun i j => .bl (decide (j ≤ i))) := opB0 fun _ _ _ _ _ _ _ q => ge_int q
theorem nomark (b : Expr) {op : CmpOp} (h : op ≠ .In := by decide) (h2 : op ≠ .NotIn := by decide) : behindInMarks op b = false := by
  have e1 : (op == CmpOp.In) = false := by cases op <;> first | rfl | exact absurd rfl h
  have e2 : (op == CmpOp.NotIn) = false := by cases op <;> first | rfl | exact absurd rfl h2
  cases b <;> simp [behindInMarks, e1, e2]
/-- a comparison as a value; hm: nomark b, or (for in, not in) by with_unfolding_all rfl -/
theorem pe_cmpR {op : CmpOp} {r : R2} (ho : OpR X (compareOp op) r) (ha : PE X a ta) (hb : PE X b tb) (hm : behindInMarks op b = false) : PE X (.Compare a [op] [b] pos) (tOp r ta tb) := by
  intro pins s σ H Q I h
  exact wpAny_Compare1 (binT ha hb I h fun v u s2 x y H2 I2 rx ry q => ho pins s2 σ H2 x y v u Q I2 rx ry q) hm
/-- a reading of a value as a test -/
def tTest (t : TE) : TT := fun σ H Q => t σ H fun x H' => ∃ k, x = .bl k ∧ Q k H'
theorem pt_cmpR {op : CmpOp} {r : R2} (ho : OpR X (compareOp op) r) (ha : PE X a ta) (hb : PE X b tb) (hm : behindInMarks op b = false) : PT X (.Compare a [op] [b] pos) (tTest (tOp r ta tb)) := by
  intro pins s σ H Q I h
  refine wpAny_isTrue_Compare1 (thn (ha pins s σ H _ I h) fun v s1 ⟨x, H1, I1, r1, q1⟩ => thn (hb pins s1 σ H1 _ I1 q1) fun u s2 ⟨y, H2, I2, r2, q2⟩ =>
    thn (ho pins s2 σ H2 x y v u _ I2 r1 r2 q2) fun c s3 ⟨z, H3, I3, r3, k, e, q3⟩ => ?_) hm
  subst e
  cases r3
  exact wpAny_truthy_bool ⟨H3, I3, q3⟩
theorem line63 : (sizeLine : Nat) < 2 ^ 63 := by rw [sizeLine_eq]; decide
theorem vals1 {x : V} {us : List Value} (r : Vals [x] us) : ∃ u, us = [u] ∧ RelV x u := by
  cases r with
  | cons r1 r2 => cases r2; exact ⟨_, rfl, r1⟩
end
end L2

namespace L2
open PySem PySem.Spec PyProof.Rows

structure ObjM (h : Heap) (x dx C : Addr) (mA : Str → Option Value) : Prop where
  obj : h.get? x = some (PySem.W.instObj C dx)
  ns : h.Ns1 dx mA
  ne : dx ≠ x

theorem lookIn_ns {h : Heap} {dx : Addr} {mA : Str → Option Value} (n : h.Ns1 dx mA) : ∃ od, h.get? dx = some od ∧ ∀ name, PySem.W.lookIn name od = some (mA name) := by
  obtain ⟨o, es, ep, ho, hd, hk, _, hm⟩ := n
  refine ⟨o, ho, fun name => ?_⟩
  have e := hm name
  unfold nsFind findBy at e
  rw [← Array.find?_toList] at e
  unfold PySem.W.lookIn
  rw [hd]
  dsimp only
  split
  · rename_i y q
    rw [q] at e
    exact congrArg some e
  · rename_i q
    rw [q] at e
    have a : es.toList.any (·.refKey) = false := by
      rw [List.any_eq_false]
      intro y hy
      obtain ⟨z, t, hkey⟩ := hk y (Array.mem_toList_iff.mp hy)
      simp [DictEntry.refKey, hkey]
    have a' : ¬ es.toList.any (·.refKey) = true := by rw [a]; exact Bool.false_ne_true
    rw [if_neg a']
    exact congrArg some e

theorem ObjM.look {h : Heap} {x dx C : Addr} {mA : Str → Option Value} (I : ObjM h x dx C mA) : ∃ od, PySem.W.InstAt h x (PySem.W.instObj C dx) C (some od) ∧ ∀ name, PySem.W.lookIn name od = some (mA name) :=
  let ⟨od, ho, hl⟩ := lookIn_ns I.ns
  ⟨od, ⟨I.obj, rfl, rfl, ho⟩, hl⟩

section
variable {prog : Program} {w : World} {A : Around} {E : Value → Shared → Prop} {s : Shared} {K : PySem.W.Frag} {x dx C f : Addr} {mA : Str → Option Value} {name : Str} {v : Value}

theorem get_map {expr : Bool} {Q : Value → Shared → Prop} (X : K.In s.heap) (I : ObjM s.heap x dx C mA) (hg : PySem.W.plainGet K C name = true) (hh : PySem.W.hasDictIn K C = true)
    (ha : PySem.W.findIn K (.ref C) name = some none) (hv : mA name = some v) (hv' : PySem.W.handedIn v = true) (h : Q v { s with toks := s.toks + 1 }) :
    wpAny (model prog w) A (getAttr (.ref x) name expr) Q E s := by
  obtain ⟨od, J, hl⟩ := I.look
  exact PySem.W.get_value X J (PySem.W.plainGet_of hg).1 (PySem.W.findObj_own hh ha rfl (by rw [hl, hv])) hv' h

theorem set_map {ns : List Str} {Q : Unit → Shared → Prop} (X : K.In s.heap) (I : ObjM s.heap x dx C mA)
    (hs : PySem.W.findIn K (.ref C) "__setattr__" = some (some (.builtin "object.__setattr__"))) (hp : PySem.W.plainOver K C = true) (ht : PySem.W.takerIn K C name = some none) (hh : PySem.W.hasDictIn K C = true)
    (hw : PySem.Within mA ns) (hsz : ns.length ≤ sizeLine)
    (h : ∀ h', ObjM h' x dx C (fun y => if y = name then some v else mA y) → Heap.SameBut dx s.heap h' → Q () { s with heap := h', toks := s.toks + 2 }) :
    wpAny (model prog w) A (setAttr (.ref x) name v) Q E s := by
  obtain ⟨od, J, hl⟩ := I.look
  refine PySem.W.set_plain X J hs (PySem.W.osa_open (s := { s with toks := s.toks + 1 }) (r := none) X J hp ht fun b => ?_)
  obtain ⟨cd, hc, hd'⟩ := PySem.W.any_some hh
  have hx : s.heap.get? x = some ⟨.ref C, some dx, .plain, #[]⟩ := I.obj
  refine wpAny_bind (wpAny_pure (wpAny_bind (wpAny_bind (wpAny_loadPart hx (wpAny_bind (PySem.W.Looks.here (s := { s with toks := s.toks + 1 }) (PySem.W.looks_clsIn X hc) ?_))))))
  rw [hd']
  refine wpAny_pure (a := some dx) (wpAny_bind (wpAny_pure (wpAny_bind ?_)))
  refine wpAny_nsSet1 (s := { s with toks := s.toks + 1 }) I.ns fun h' hn2 hs2 => ?_
  obtain ⟨oD, esD, epD, hoD, hdD, hcD⟩ := hn2.count (PySem.Within.cons name v hw)
  refine wpAny_bind (wpAny_lookBehind hoD (by rw [hdD]; exact pastItsLine_dict (Nat.le_trans hcD (by rw [List.length_cons]; omega))) ?_)
  exact wpAny_pure (h _ ⟨(hs2.2 _ (Ne.symm I.ne)).trans I.obj, hn2, I.ne⟩ hs2)

/-- C(..): the dict at the heap's end, the instance behind it; then its __init__ -/
theorem make_map {R : Result → Shared → Prop} {vs : List Value} {kw : List (Str × Value)} (X : K.In s.heap) (hm : PySem.W.makesIn K C = true)
    (hi : PySem.W.findIn K (.ref C) "__init__" = some (some (.ref f))) (hf : PySem.W.typeIn K (.ref f) = some (.type "function"))
    (h : codeAny (model prog w) (A.under (.builtin "type.__call__" ⟨.ref C :: vs, kw⟩)) (.call (.ref f) ⟨.ref (s.heap.objs.size + 1) :: vs, kw⟩) (PySem.W.InitBack (s.heap.objs.size + 1) R)
      { s with heap := (s.heap.push PySem.W.emptyDict).push (PySem.W.instObj C s.heap.objs.size) }) :
    codeAny (model prog w) A (.call (.ref C) ⟨vs, kw⟩) R s := by
  obtain ⟨hh, g, d, t, os⟩ := s
  exact PySem.W.make_core (PySem.W.makes_of X hm) (PySem.W.looks_findIn X hi) (fun self => PySem.W.bind_fn X self hf) (.inl rfl) h
end

def putF (f : Str) (v : V) : List (Str × V) → List (Str × V)
  | [] => [(f, v)]
  | (g, x) :: r => if g = f then (g, v) :: r else (g, x) :: putF f v r
theorem lookup_putF (f g : Str) (v : V) : ∀ fs : List (Str × V), (putF f v fs).lookup g = if g = f then some v else fs.lookup g
  | [] => by
    show List.lookup g [(f, v)] = _
    by_cases h : g = f
    · have hb : (g == f) = true := beq_iff_eq.mpr h
      simp only [List.lookup, hb, if_pos h]
    · have hb : (g == f) = false := beq_eq_false_iff_ne.mpr h
      simp only [List.lookup, hb, if_neg h]
  | (k, x) :: r => by
    have ih := lookup_putF f g v r
    rw [show putF f v ((k, x) :: r) = (if k = f then (k, v) :: r else (k, x) :: putF f v r) from rfl]
    by_cases hk : k = f
    · rw [if_pos hk]
      by_cases h : g = k
      · have hb : (g == k) = true := beq_iff_eq.mpr h
        simp only [List.lookup, hb, if_pos (h.trans hk)]
      · have hb : (g == k) = false := beq_eq_false_iff_ne.mpr h
        simp only [List.lookup, hb, if_neg (fun e : g = f => h (e.trans hk.symm))]
    · rw [if_neg hk]
      by_cases h : g = k
      · have hb : (g == k) = true := beq_iff_eq.mpr h
        simp only [List.lookup, hb, if_neg (fun e : g = f => hk (h.symm.trans e))]
      · have hb : (g == k) = false := beq_eq_false_iff_ne.mpr h
        simp only [List.lookup, hb]
        exact ih
theorem keys_putF (f : Str) (v : V) : ∀ fs : List (Str × V), f ∈ (putF f v fs).map (·.1) ∧ ∀ g, g ∈ fs.map (·.1) → g ∈ (putF f v fs).map (·.1)
  | [] => ⟨by simp [putF], fun g h => by simp at h⟩
  | (k, x) :: r => by
    obtain ⟨i1, i2⟩ := keys_putF f v r
    rw [show putF f v ((k, x) :: r) = (if k = f then (k, v) :: r else (k, x) :: putF f v r) from rfl]
    by_cases hk : k = f
    · rw [if_pos hk]
      subst hk
      exact ⟨by simp, fun g h => by simpa using h⟩
    · rw [if_neg hk]
      refine ⟨?_, fun g h => ?_⟩
      · rw [List.map_cons]
        exact List.mem_cons_of_mem _ i1
      · rw [List.map_cons] at h ⊢
        rcases List.mem_cons.mp h with e | e
        · exact List.mem_cons.mpr (.inl e)
        · exact List.mem_cons_of_mem _ (i2 g e)
theorem length_putF (f : Str) (v : V) : ∀ fs : List (Str × V), (putF f v fs).length ≤ fs.length + 1
  | [] => by simp [putF]
  | (k, x) :: r => by
    have ih := length_putF f v r
    rw [show putF f v ((k, x) :: r) = (if k = f then (k, v) :: r else (k, x) :: putF f v r) from rfl]
    by_cases hk : k = f
    · rw [if_pos hk, List.length_cons, List.length_cons]; omega
    · rw [if_neg hk, List.length_cons, List.length_cons]; omega

theorem RelO.some_of {v : V} {o : Option Value} (r : RelO (some v) o) : ∃ u, o = some u ∧ RelV v u := by
  cases o with
  | none => exact (show False from r).elim
  | some u => exact ⟨u, rfl, r⟩
theorem handed_of {v : V} {u : Value} (r : RelV v u) : PySem.W.handedIn u = true := by
  cases v with
  | non => cases (show u = Value.none from r); rfl
  | bl b => cases (show u = Value.bool b from r); rfl
  | int i => obtain ⟨t, e⟩ := (show ∃ t, u = Value.int i t from r); cases e; rfl
  | str x => obtain ⟨t, e⟩ := (show ∃ t, u = Value.str x t from r); cases e; rfl
  | byt b => obtain ⟨t, e⟩ := (show ∃ t, u = Value.bytes b t from r); cases e; rfl
  | flt b => obtain ⟨t, e⟩ := (show ∃ t, u = Value.float b t from r); cases e; rfl
  | ref a => cases (show u = Value.ref a from r); rfl
  | ty n => cases (show u = Value.type n from r); rfl

section
variable {P : Program} {w : World} {H H' : Hp} {h h' : Heap} {a C dx : Addr} {fs fs' : List (Str × V)}
theorem ins_get (hok : HOk P w H h) (e : H a = some (.ins C dx fs)) : ∃ mA, ObjM h a dx C mA ∧ (∀ f, RelO (fs.lookup f) (mA f)) ∧ PySem.Within mA (fs.map (·.1)) ∧ fs.length ≤ 1000 ∧ H dx = some (.own a) := by
  obtain ⟨d, z, ne, ob, mA, n, r, q⟩ := (show ObjOk P w H h a (.ins C dx fs) from hok a _ e)
  exact ⟨mA, ⟨ob, n, ne⟩, r, q, z, d⟩
end

structure Cls (K : PySem.W.Frag) (C : Addr) : Prop where
  pg : PySem.W.plainGet K C Str.empty = true
  hd : PySem.W.hasDictIn K C = true
  po : PySem.W.plainOver K C = true
  sa : PySem.W.findIn K (.ref C) "__setattr__" = some (some (.builtin "object.__setattr__"))
theorem Cls.get {K : PySem.W.Frag} {C : Addr} (c : Cls K C) (f : Str) : PySem.W.plainGet K C f = true := c.pg
/-- no class of it has the name -/
def NoAttr (K : PySem.W.Frag) (C : Addr) (f : Str) : Prop := PySem.W.findIn K (.ref C) f = some none
theorem NoAttr.taker {K : PySem.W.Frag} {C : Addr} {f : Str} (n : NoAttr K C f) : PySem.W.takerIn K C f = some none := by
  unfold PySem.W.takerIn
  rw [show PySem.W.findIn K (.ref C) f = some none from n]
  rfl
section
variable {X : Cx} {pins : List (Addr × Obj)} {σ : St} {H : Hp} {s : Shared} {a C dx : Addr} {fs : List (Str × V)} {f : Str} {v : V} {A : Around} {E : Value → Shared → Prop}

theorem getattr_ok {b : Bool} {Q : Value → Shared → Prop} (I : Inv X pins σ H s) (e : H a = some (.ins C dx fs)) (c : Cls X.K C) (n : NoAttr X.K C f) (l : fs.lookup f = some v)
    (h : ∀ u s', Inv X pins σ H s' → RelV v u → Q u s') : wpAny (model X.prog X.w) A (getAttr (.ref a) f b) Q E s := by
  obtain ⟨mA, O, r, _, _, _⟩ := ins_get I.hok e
  obtain ⟨u, hu, ru⟩ := RelO.some_of (v := v) (o := mA f) (by rw [← l]; exact r f)
  exact get_map I.kIn O (c.get f) c.hd n hu (handed_of ru) (h u _ (I.tok _) ru)

theorem setattr_ok {y : V} {u : Value} {Q : Unit → Shared → Prop} (I : Inv X pins σ H s) (e : H a = some (.ins C dx fs)) (c : Cls X.K C) (n : NoAttr X.K C f) (hl : fs.length < 1000) (ry : RelV y u)
    (h : ∀ s', Inv X pins σ (upd H a (.ins C dx (putF f y fs))) s' → Q () s') : wpAny (model X.prog X.w) A (setAttr (.ref a) f u) Q E s := by
  obtain ⟨mA, O, r, wi, _, ho⟩ := ins_get I.hok e
  have hz : (fs.map (·.1)).length ≤ sizeLine := by rw [List.length_map, sizeLine_eq]; omega
  refine set_map I.kIn O c.sa c.po n.taker c.hd wi hz fun h' O' sb => h _ ?_
  have hd : ∃ o, h'.get? dx = some o := let ⟨o, _, _, e', _⟩ := O'.ns; ⟨o, e'⟩
  refine I.write (x := a) (e := dx) (by rw [e]; exact True.intro) (.inr ho) (fun b q hb z => (sb.2 b hb).trans z) hd ?_
  refine ⟨by rw [upd_ne O.ne]; exact ho, ?_, O.ne, O'.obj, _, O'.ns, fun g => ?_, fun g hg => ?_⟩
  · have := length_putF f y fs; omega
  · show RelO ((putF f y fs).lookup g) (if g = f then some u else mA g)
    rw [lookup_putF]
    by_cases q : g = f
    · rw [if_pos q, if_pos q]; exact ry
    · rw [if_neg q, if_neg q]; exact r g
  · by_cases q : g = f
    · rw [q]; exact (keys_putF f y fs).1
    · refine (keys_putF f y fs).2 g (wi g fun z => hg ?_)
      show (if g = f then some u else mA g) = none
      rw [if_neg q]; exact z

/-- a new instance, tracked, without attributes -/
theorem Inv.made (I : Inv X pins σ H s) : Inv X pins σ (upd (upd H s.heap.objs.size (.own (s.heap.objs.size + 1))) (s.heap.objs.size + 1) (.ins C s.heap.objs.size []))
    { s with heap := (s.heap.push PySem.W.emptyDict).push (PySem.W.instObj C s.heap.objs.size) } := by
  have e1 : (s.heap.push PySem.W.emptyDict).get? s.heap.objs.size = some PySem.W.emptyDict := Heap.get?_push_size s.heap rfl
  have e2 : ((s.heap.push PySem.W.emptyDict).push (PySem.W.instObj C s.heap.objs.size)).get? (s.heap.objs.size + 1) = some (PySem.W.instObj C s.heap.objs.size) := by
    have := Heap.get?_push_size (s.heap.push PySem.W.emptyDict) (o := PySem.W.instObj C s.heap.objs.size) rfl
    rwa [Heap.size_push] at this
  have e3 : (s.heap.push PySem.W.emptyDict).Ns s.heap.objs.size (fun _ => none) := ⟨PySem.W.emptyDict, #[], _, e1, rfl, (fun e he => absurd he (by simp)), fun _ => rfl⟩
  have I1 := I.laid (a := s.heap.objs.size) (o := .own (s.heap.objs.size + 1)) (h' := s.heap.push PySem.W.emptyDict) (t' := s.toks) (fun b u q => Heap.get?_push_of_some _ q) (Nat.le_refl _) ⟨_, e1⟩
  refine I1.laid (a := s.heap.objs.size + 1) (o := .ins C s.heap.objs.size []) (t' := s.toks) (fun b u q => Heap.get?_push_of_some _ q) (Nat.le_of_eq (Heap.size_push _ _)) ?_
  have ne : s.heap.objs.size ≠ s.heap.objs.size + 1 := Nat.ne_of_lt (Nat.lt_succ_self _)
  refine ⟨by rw [upd_ne ne, upd_same], Nat.zero_le _, ne, e2, fun _ => none, (Heap.Ns1.of_empty e3).at fun o q => Heap.get?_push_of_some _ q, fun _ => True.intro, fun y hy => absurd rfl hy⟩

/-- e.f where nothing but the object is asked: through attributeBase (super) and the last hold -/
theorem attr_of {prog : Program} {w : World} {env : Env} {e : Expr} {f : Str} {pos : Pos} {s : Shared} {Q : Value → Shared → Prop} (hb : attributeBase e f env (eval e env) = eval e env)
    (h : wpAny (model prog w) A (eval e env) (fun o s₁ => wpAny (model prog w) A (getAttr o f true) Q E s₁) E s) : wpAny (model prog w) A (eval (.Attribute e f pos) env) Q E s :=
  Attribute_any_ h (by rw [arm_eval_Attribute, hb])
end

/-- e.f, an attribute of the instance -/
def tFld (K : PySem.W.Frag) (ta : TE) (f : Str) : TE := fun σ H Q => ta σ H fun x H1 => ∃ a C dx fs v, x = .ref a ∧ H1 a = some (.ins C dx fs) ∧ Cls K C ∧ NoAttr K C f ∧ fs.lookup f = some v ∧ Q v H1
/-- e.f = value -/
def sFld (K : PySem.W.Frag) (ta tv : TE) (f : Str) : TS := fun D σ H => tv σ H fun y H1 => ta σ H1 fun x H2 => ∃ a C dx fs, x = .ref a ∧ H2 a = some (.ins C dx fs) ∧ Cls K C ∧ NoAttr K C f ∧ fs.length < 1000 ∧
  D.nx σ (upd H2 a (.ins C dx (putF f y fs)))
section
variable {X : Cx} {o e value : Expr} {f : Str} {pos pos' tpos : Pos} {ta tv : TE}
theorem pe_fld (he : PE X e ta) (hb : attributeBase e f X.env (eval e X.env) = eval e X.env) : PE X (.Attribute e f pos) (tFld X.K ta f) := by
  intro pins s σ H Q I h
  refine attr_of hb (thn (he pins s σ H _ I h) fun u s1 ⟨x, H1, I1, rx, a, C, dx, fs, v, ex, ea, c, n, l, q⟩ => ?_)
  subst ex
  obtain rfl : u = Value.ref a := rx
  exact getattr_ok I1 ea c n l fun u' s2 I2 ru => ⟨v, H1, I2, ru, q⟩
theorem ps_fld (ha : PE X o ta) (hv : PE X value tv) (hs : swapsWith value (some (.Attribute o f pos')) pos.line X.env = pure false) : PS X (.Assign [.Attribute o f pos'] value pos) (sFld X.K ta tv f) := by
  intro pins s σ H D I h
  refine plainObj_wpAny_Assign_Attribute (thn (hv pins s σ H _ I h) fun u s1 ⟨y, H1, I1, ry, q⟩ => thn (ha pins s1 σ H1 _ I1 q) fun ov s2 ⟨x, H2, I2, rx, a, C, dx, fs, ex, ea, c, n, l, q2⟩ => ?_) hs
  subst ex
  obtain rfl : ov = Value.ref a := rx
  exact setattr_ok I2 ea c n l ry fun s3 I3 => ⟨σ, _, I3, q2⟩
end

section
variable {X : Cx} {pins : List (Addr × Obj)} {σ : St} {H : Hp} {s : Shared} {A : Around} {E : Value → Shared → Prop} {Q : Value → Shared → Prop} {c : Value} {b : Bool}
end
end L2

namespace L2
open PySem PySem.Spec PyProof.Rows

structure Room (k : Nat) (A : Around) : Prop where
  hd : A.handled = none
  dp : A.depth + 3 * k + 5 < recursionLimit
  un : A.units + 16 * k + 200 < cLine
theorem Room.mono {j k : Nat} {A : Around} (r : Room k A) (h : j ≤ k) : Room j A := ⟨r.hd, by have := r.dp; omega, by have := r.un; omega⟩
theorem Room.deeper {k : Nat} {A : Around} (r : Room (k + 1) A) (env : Env) : Room k (A.deeper env) :=
  ⟨r.hd, by have := r.dp; show A.depth + 1 + 3 * k + 5 < _; omega, by have := r.un; show A.units + 3 + 16 * k + 200 < _; omega⟩
theorem make_depth {A : Around} {C : Addr} {us : List Value} {kw : List (Str × Value)} : (A.under (.builtin "type.__call__" ⟨.ref C :: us, kw⟩)).depth = A.depth + 1 := by
  first | rfl | simp [Around.under, Code.weight, Code.isCreation, Code.isGuard, Code.isCaller, Code.frames, Code.isFrame, guardIds]
theorem make_units {A : Around} {C : Addr} {us : List Value} {kw : List (Str × Value)} : (A.under (.builtin "type.__call__" ⟨.ref C :: us, kw⟩)).units = A.units + 1 := by
  first | rfl | simp [Around.under, Code.cUnits, Code.frames, Code.isFrame]
theorem Room.make {k : Nat} {A : Around} (r : Room (k + 1) A) (C : Addr) (us : List Value) (kw : List (Str × Value)) : Room k (A.under (.builtin "type.__call__" ⟨.ref C :: us, kw⟩)) :=
  ⟨r.hd, by have := r.dp; rw [make_depth]; omega, by have := r.un; rw [make_units]; omega⟩
theorem Room.depth {k : Nat} {A : Around} (r : Room k A) : A.depth < recursionLimit := by have := r.dp; omega
def tNil : TA := fun _ H Q => Q [] H
def tCons (ta : TE) (tr : TA) : TA := fun σ H Q => ta σ H fun x H1 => tr σ H1 fun xs H2 => Q (x :: xs) H2
section
variable {X : Cx} {e : Expr} {es : List Expr} {te : TE} {t : TA} {pos : Pos}
theorem pa_nil : PA X [] tNil := fun _ _ _ _ H Q I h => Calls.spliced_nil ⟨[], H, I, .nil, h⟩
theorem pa_cons (ha : PE X e te) (hr : PA X es t) (hs : starEach (e :: es) X.env = (false, eval e X.env) :: starEach es X.env := by rfl) : PA X (e :: es) (tCons te t) := by
  intro pos pins s σ H Q I h
  rw [hs]
  show wpAny _ _ (spliced ((false, eval e X.env) :: backTo pos (starEach es X.env))) _ _ s
  refine Calls.spliced_cons (thn (ha pins s σ H _ I h) fun u s1 ⟨x, H1, I1, r1, q1⟩ => ?_)
  exact thn (hr pos pins s1 σ H1 _ I1 q1) fun us s2 ⟨xs, H2, I2, r2, q2⟩ => ⟨x :: xs, H2, I2, .cons r1 r2, q2⟩

def tLst (t : TA) : TE := fun σ H Q => t σ H fun xs H1 => xs.length ≤ sizeLine ∧ ∀ p, H1 p = none → Q (.ref p) (upd H1 p (.lst xs))
theorem pe_lst (h : PA X es t) : PE X (.List es pos) (tLst t) := by
  intro pins s σ H Q I hq
  refine wpAny_List_spliced (thn (h pos pins s σ H _ I hq) fun us s1 ⟨xs, H1, I1, r, z, q⟩ => ⟨by rw [← r.length]; exact z, ?_⟩)
  have hf : H1 s1.heap.objs.size = none := I1.hok.fresh (Nat.le_refl _)
  refine ⟨.ref s1.heap.objs.size, upd H1 s1.heap.objs.size (.lst xs), I1.laid (t' := s1.toks) (fun b u e => Heap.get?_push_of_some _ e) (Nat.le_refl _) ?_, rfl, q _ hf⟩
  exact ⟨z, us, 0, r, Heap.get?_push_size _ rfl⟩
end

/-- a def's promise: the bound arguments in the parameters' order, the heap, the wanted end, the wanted exception -/
abbrev Sp := List V → Hp → VK → XK → Prop
/-- how an exception lies behind a call (file 08 gives it): the callers' frames, abstract heap and state ahead of the call, the wish, the exception, the state -/
abbrev CXT := List Env → Hp → Shared → XK → Value → Shared → Prop

/-- the state at a call -/
structure Env0 (P : Program) (w : World) (K : PySem.W.Frag) (mg : Str → Option Value) (base : Heap) (A : Around) (outer : List Env) (s : Shared) (H : Hp) : Prop where
  frames : A.frames = some outer
  mod : Mod K mg base
  bs : ∀ b o, base.get? b = some o → s.heap.get? b = some o ∧ H b = none
  bsz : base.objs.size ≤ s.heap.objs.size
  funs : s.heap.FunFrames base outer
  frf : ∀ b ∈ frs outer, H b = none
  hok : HOk P w H s.heap
  bare : AllBare s.gens
/-- a call's end -/
def CE (outer : List Env) (P : Program) (w : World) (H : Hp) (s : Shared) (Q : VK) (u : Value) (s' : Shared) : Prop :=
  ∃ v H', s'.os = s.os ∧ AllBare s'.gens ∧ Un (frs outer) [] H H' s.heap s'.heap ∧ HOk P w H' s'.heap ∧ RelV v u ∧ Q v H'
def CR (CX : CXT) (outer : List Env) (P : Program) (w : World) (H : Hp) (s : Shared) (Q : VK) (E : XK) (r : Result) (s' : Shared) : Prop :=
  match r with
  | .ok (.ret u) => CE outer P w H s Q u s'
  | .ok _ => False
  | .error e => CX outer H s E e s'
structure FnOk (P : Program) (w : World) (K : PySem.W.Frag) (mg : Str → Option Value) (base : Heap) (CX : CXT) (k : Nat) (f : Addr) (fd : FuncData) (ps : List Str) (sp : Sp) : Prop where
  len : ∀ vs H Q E, sp vs H Q E → vs.length = ps.length
  run : ∀ (A : Around) (outer : List Env) (s : Shared) (H : Hp) (args : Args) (us : List Value) (vs : List V) (Q : VK) (E : XK), Room k A → Env0 P w K mg base A outer s H → BindsTo s fd args (ps.zip us) → Vals vs us → sp vs H Q E →
    codeAny (model P w) A (.call (.ref f) args) (CR CX outer P w H s Q E) s
theorem FnOk.mono {P : Program} {w : World} {K : PySem.W.Frag} {mg : Str → Option Value} {base : Heap} {CX : CXT} {j k : Nat} {f : Addr} {fd : FuncData} {ps : List Str} {sp : Sp} (F : FnOk P w K mg base CX j f fd ps sp) (h : j ≤ k) :
    FnOk P w K mg base CX k f fd ps sp := ⟨F.len, fun A outer s H args us vs Q E hr => F.run A outer s H args us vs Q E (hr.mono h)⟩
theorem Env0.make {P : Program} {w : World} {K : PySem.W.Frag} {mg : Str → Option Value} {base : Heap} {A : Around} {outer : List Env} {s : Shared} {H : Hp} (e : Env0 P w K mg base A outer s H) (C : Addr) (us : List Value) (kw : List (Str × Value)) :
    Env0 P w K mg base (A.under (.builtin "type.__call__" ⟨.ref C :: us, kw⟩)) outer s H := ⟨by first | exact e.frames | (simpa [Around.under, Code.envs, Code.isFrame, pushEnvs] using e.frames), e.mod, e.bs, e.bsz, e.funs, e.frf, e.hok, e.bare⟩
section
variable {X : Cx} {pins : List (Addr × Obj)} {σ : St} {H : Hp} {s s' : Shared}
/-- from a body: what a callee wants -/
theorem Inv.env0 (I : Inv X pins σ H s) : Env0 X.prog X.w X.K X.mg X.base X.A X.stack s H :=
  ⟨I.ok.frames, I.ok.mod, I.bs, Nat.le_trans I.ok.bsz I.sz, I.stack, I.stkFree, I.hok, I.bare⟩
/-- behind a call -/
theorem Inv.after {Q : VK} {u : Value} (I : Inv X pins σ H s) (h : CE X.stack X.prog X.w H s Q u s') : EP X pins σ Q u s' := by
  obtain ⟨v, H', os, bare, un, hok, r, q⟩ := h
  obtain ⟨hh, g, d, t, os'⟩ := s'
  obtain rfl : os' = s.os := os
  exact ⟨v, H', I.call (h' := hh) (g' := g) (d' := d) (t' := t) (ch := []) un hok bare (fun b z => absurd z (by simp)), r, q⟩
end

/-- f(..): the written arguments, then the defaults dvs; E: what is wanted of an exception -/
def tCall (sp : Sp) (dvs : List V) (E : XK) (t : TA) : TE := fun σ H Q => t σ H fun vs H1 => sp (vs ++ dvs) H1 Q E
/-- C(..): a new instance and its dict, then __init__ -/
def tMake (C : Addr) (sp : Sp) (dvs : List V) (E : XK) (t : TA) : TE := fun σ H Q => t σ H fun vs H1 => ∀ x dx, H1 x = none → H1 dx = none → dx ≠ x →
  sp (.ref x :: (vs ++ dvs)) (upd (upd H1 dx (.own x)) x (.ins C dx [])) (fun v H2 => v = .non ∧ Q (.ref x) H2) E

/-- how the parameters are bound: us the positional arguments, kw the keywords' values by name, ds the defaults that fill up -/
def Binds (K : PySem.W.Frag) (fd : FuncData) (ps : List Str) (ds : List Value) : Prop :=
  ∀ (s : Shared) (us : List Value), K.In s.heap → (us ++ ds).length = ps.length → BindsTo s fd ⟨us, []⟩ (ps.zip (us ++ ds))
/-- every parameter is given -/
theorem Binds.all {K : PySem.W.Frag} {fd : FuncData} {ps : List Str} (h : ∀ us : List Value, us.length = ps.length → bindArgs fd ⟨us, []⟩ = pure (ps.zip us)) : Binds K fd ps [] := fun s us _ hl => by
  rw [List.append_nil] at hl ⊢
  exact .of_eq (h us hl)

/-- an exception of a callee reaches what this body wants of exceptions -/
def Passes (CX : CXT) (X : Cx) (E : XK) : Prop := ∀ (pins : List (Addr × Obj)) (σ : St) (H : Hp) (s : Shared) (e : Value) (s' : Shared), Inv X pins σ H s → CX X.stack H s E e s' → X.xe e s'

section
variable {X : Cx} {CX : CXT} {k : Nat} {f C : Addr} {fd : FuncData} {ps : List Str} {sp : Sp} {dvs : List V} {ds : List Value} {E : XK} {x m : Str} {p pos apos : Pos} {e o : Expr} {es : List Expr} {ta : TE} {t : TA}

/-- the callee runs -/
theorem run_fn {pins : List (Addr × Obj)} {σ : St} {H : Hp} {s : Shared} {Q : VK} {us : List Value} {vs : List V} (F : FnOk X.prog X.w X.K X.mg X.base CX k f fd ps sp) (hr : Room k X.A) (hb : Binds X.K fd ps ds) (hd : Vals dvs ds) (hx : Passes CX X E)
    (I : Inv X pins σ H s) (r : Vals vs us) (h : sp (vs ++ dvs) H Q E) : wpAny (model X.prog X.w) X.A (call (.ref f) us) (EP X pins σ Q) X.xe s := by
  have r2 : Vals (vs ++ dvs) (us ++ ds) := r.append hd
  have hl : (us ++ ds).length = ps.length := by rw [← r2.length]; exact F.len _ _ _ _ h
  refine wpAny_call (codeAny_mono (F.run X.A X.stack s H ⟨us, []⟩ (us ++ ds) (vs ++ dvs) Q E hr I.env0 (hb s us I.kIn hl) r2 h) fun r s' hq => ?_)
  cases r with
  | error e => exact hx pins σ H s e s' I hq
  | ok fl =>
    cases fl with
    | ret u => exact I.after hq
    | next => exact False.elim hq
    | brk => exact False.elim hq
    | cont => exact False.elim hq

theorem pe_call (F : FnOk X.prog X.w X.K X.mg X.base CX k f fd ps sp) (hr : Room k X.A) (hg : Gl X x) (hm : X.mg x = some (.ref f)) (hk : PySem.W.keepIn X.K (.ref f) = true) (hb : Binds X.K fd ps ds) (hd : Vals dvs ds) (hx : Passes CX X E)
    (ha : PA X (e :: es) t) (hdb : (x == ("__debug__" : Str)) = false := by decide) (he : starEach (e :: es) X.env = (false, eval e X.env) :: starEach es X.env := by rfl) (hpl : (backTo pos (starEach es X.env)).any (·.1) = false := by rfl) :
    PE X (.Call (.Name x p) (e :: es) [] pos) (tCall sp dvs E t) := by
  intro pins s σ H Q I h
  refine wpAny_Call_Name_kw (ld_glob I hg hm ?_ hdb)
  refine PySem.W.callWith_K (h₀ := X.base) I.ok.mod.kin hk (thn (ha pos pins s σ H _ I h) fun us s1 ⟨vs, H1, I1, r, q⟩ => ⟨I1.kIn, ?_⟩) he hpl
  exact run_fn F hr hb hd hx I1 r q
/-- what a class must have to be made -/
structure Mk (K : PySem.W.Frag) (C f : Addr) : Prop where
  makes : PySem.W.makesIn K C = true
  init : PySem.W.findIn K (.ref C) "__init__" = some (some (.ref f))
  fn : PySem.W.isFn K (.ref f) = true
  kp : PySem.W.keepIn K (.ref C) = true

theorem run_make {pins : List (Addr × Obj)} {σ : St} {H : Hp} {s : Shared} {Q : VK} {us : List Value} {vs : List V} (M : Mk X.K C f) (F : FnOk X.prog X.w X.K X.mg X.base CX k f fd ps sp) (hr : Room (k + 1) X.A) (hb : Binds X.K fd ps ds) (hd : Vals dvs ds)
    (hx : Passes CX X E) (I : Inv X pins σ H s) (r : Vals vs us)
    (h : ∀ x dx, H x = none → H dx = none → dx ≠ x → sp (.ref x :: (vs ++ dvs)) (upd (upd H dx (.own x)) x (.ins C dx [])) (fun v H2 => v = .non ∧ Q (.ref x) H2) E) :
    wpAny (model X.prog X.w) X.A (call (.ref C) us) (EP X pins σ Q) X.xe s := by
  have hq := h (s.heap.objs.size + 1) s.heap.objs.size (I.hok.fresh (Nat.le_succ _)) (I.hok.fresh (Nat.le_refl _)) (Nat.ne_of_lt (Nat.lt_succ_self _))
  have I2 := Inv.made (C := C) I
  have r2 : Vals (V.ref (s.heap.objs.size + 1) :: (vs ++ dvs)) (Value.ref (s.heap.objs.size + 1) :: (us ++ ds)) := .cons rfl (r.append hd)
  have hl : (Value.ref (s.heap.objs.size + 1) :: us ++ ds).length = ps.length := by
    have e := r2.length
    rw [F.len _ _ _ _ hq] at e
    exact e.symm
  refine wpAny_call (make_map (f := f) I.kIn M.makes M.init (beq_iff_eq.mp M.fn) (codeAny_mono (F.run _ X.stack _ _ ⟨Value.ref (s.heap.objs.size + 1) :: us, []⟩ (Value.ref (s.heap.objs.size + 1) :: (us ++ ds)) _ _ E (hr.make C us [])
    (I2.env0.make C us []) (hb _ (Value.ref (s.heap.objs.size + 1) :: us) I2.kIn hl) r2 hq) fun r s' hq' => ?_))
  cases r with
  | error e => exact hx pins σ _ _ e s' I2 hq'
  | ok fl =>
    cases fl with
    | ret u =>
      obtain ⟨v, H', I3, rv, ev, q3⟩ := I2.after hq'
      subst ev
      exact ⟨rv, ⟨V.ref (s.heap.objs.size + 1), H', I3, rfl, q3⟩⟩
    | next => exact False.elim hq'
    | brk => exact False.elim hq'
    | cont => exact False.elim hq'
theorem pe_make0 (M : Mk X.K C f) (F : FnOk X.prog X.w X.K X.mg X.base CX k f fd ps sp) (hr : Room (k + 1) X.A) (hg : Gl X x) (hm : X.mg x = some (.ref C)) (hb : Binds X.K fd ps ds) (hd : Vals dvs ds) (hx : Passes CX X E)
    (hdb : (x == ("__debug__" : Str)) = false := by decide) : PE X (.Call (.Name x p) [] [] pos) (tMake C sp dvs E tNil) := by
  intro pins s σ H Q I h
  refine wpAny_Call_Name_kw (ld_glob I hg hm ?_ hdb)
  exact PySem.W.callWith_K0 I.kIn M.kp (run_make (us := []) M F hr hb hd hx I .nil h)
end

section
variable {X : Cx} {CX : CXT} {k : Nat} {f C : Addr} {fd : FuncData} {ps ks : List Str} {sp : Sp} {E : XK} {x m : Str} {p pos apos kpos : Pos} {e o : Expr} {es : List Expr} {kws : List Keyword} {te ta : TE} {t tk : TA} {nm : Option Str}
variable {g : List Value → List Value → List Value} {gV : List V → List V → List V}
end

/-- names: the parameters first -/
structure FnScope (N P : List Str) (sc : Scope) : Prop where
  kind : sc.kind = .function
  co : sc.isCoroutine = false
  gen : sc.isGenerator = false
  nd : N.Nodup
  pre : N.take P.length = P
  par : ∀ x ∈ P, sc.names.lookup x = some .local ∨ sc.names.lookup x = some .cell
  nofree : ∀ y ∈ sc.names, y.2 ≠ .free

theorem bindL_out {kindOf : Str → Option NameKind} {x : Str} : ∀ {binds : List (Str × Value)} {m : Str → Option Value}, (∀ v, (x, v) ∉ binds) → bindL kindOf binds m x = m x
  | [], _, _ => rfl
  | (n, v) :: r, m, h => by
    unfold bindL
    rw [bindL_out fun w hw => h w (List.mem_cons_of_mem _ hw)]
    split
    · have : x ≠ n := by rintro rfl; exact h v List.mem_cons_self
      simp [this]
    · rfl
theorem bindC_out {kindOf : Str → Option NameKind} {x : Str} : ∀ {binds : List (Str × Value)} {m : Str → Option Value}, (∀ v, (x, v) ∉ binds) → bindC kindOf binds m x = m x
  | [], _, _ => rfl
  | (n, v) :: r, m, h => by
    unfold bindC
    rw [bindC_out fun w hw => h w (List.mem_cons_of_mem _ hw)]
    split
    · rfl
    · have : x ≠ n := by rintro rfl; exact h v List.mem_cons_self
      simp [this]
theorem bindL_get {kindOf : Str → Option NameKind} {x : Str} {v : Value} : ∀ {P : List Str} {vs : List Value} {i : Nat} {m : Str → Option Value}, P.Nodup → P[i]? = some x → vs[i]? = some v → kindOf x = some .local →
    bindL kindOf (P.zip vs) m x = some v
  | [], _, _, _, _, h, _, _ => by simp at h
  | _ :: _, [], _, _, _, _, h, _ => by simp at h
  | p :: P, w :: vs, 0, m, nd, h1, h2, hk => by
    simp at h1 h2; subst h1; subst h2
    show bindL kindOf ((p, w) :: P.zip vs) m p = _
    unfold bindL
    rw [bindL_out fun v hv => (List.nodup_cons.mp nd).1 (List.of_mem_zip hv).1, if_pos hk]
    simp
  | p :: P, w :: vs, i + 1, m, nd, h1, h2, hk => by
    show bindL kindOf ((p, w) :: P.zip vs) m x = _
    unfold bindL
    exact bindL_get (i := i) (List.nodup_cons.mp nd).2 (by simpa using h1) (by simpa using h2) hk
theorem bindC_get {kindOf : Str → Option NameKind} {x : Str} {v : Value} : ∀ {P : List Str} {vs : List Value} {i : Nat} {m : Str → Option Value}, P.Nodup → P[i]? = some x → vs[i]? = some v → kindOf x ≠ some .local →
    bindC kindOf (P.zip vs) m x = some v
  | [], _, _, _, _, h, _, _ => by simp at h
  | _ :: _, [], _, _, _, _, h, _ => by simp at h
  | p :: P, w :: vs, 0, m, nd, h1, h2, hk => by
    simp at h1 h2; subst h1; subst h2
    show bindC kindOf ((p, w) :: P.zip vs) m p = _
    unfold bindC
    rw [bindC_out fun v hv => (List.nodup_cons.mp nd).1 (List.of_mem_zip hv).1, if_neg hk]
    simp
  | p :: P, w :: vs, i + 1, m, nd, h1, h2, hk => by
    show bindC kindOf ((p, w) :: P.zip vs) m x = _
    unfold bindC
    exact bindC_get (i := i) (List.nodup_cons.mp nd).2 (by simpa using h1) (by simpa using h2) hk

/-- the names' values at the entry -/
def start (N : List Str) (vs : List V) : St := vs.map some ++ List.replicate (N.length - vs.length) none

/-- the context of a def's body, at its entry; an exception leaves the frame, then lies as CX says -/
def cxOf (CX : CXT) (P : Program) (w : World) (K : PySem.W.Frag) (mg : Str → Option Value) (base : Heap) (N : List Str) (qual : Str) (scope : Scope) (f : Addr) (cd : Value) (A : Around) (outer : List Env) (s : Shared) (H : Hp) (E : XK) : Cx where
  prog := P
  w := w
  K := K
  mg := mg
  base := base
  A := A.deeper (envOfC qual scope s.heap.objs.size f cd)
  N := N
  s_0 := s
  H_0 := H
  env := envOfC qual scope s.heap.objs.size f cd
  outer := outer
  stack := envOfC qual scope s.heap.objs.size f cd :: outer
  ex := []
  calm := true
  fn := fun _ => true
  pn := []
  xe := fun e s' => wpAny (model P w) (A.deeper (envOfC qual scope s.heap.objs.size f cd)) (leaving (envOfC qual scope s.heap.objs.size f cd) e) (fun _ s'' => CX outer H s E e s'') (fun e' s'' => CX outer H s E e' s'') s'

theorem cell_has {sc : Scope} {n : Nat} {x : Str} (h : sc.names.lookup x = some .cell) : ∃ c, (cellsFrom n sc.names []).lookup x = some c := by
  have q := PySem.W.cellsFrom_some sc.names n [] (.inl h)
  exact Option.isSome_iff_exists.mp q

theorem inv_start {CX : CXT} {P : Program} {w : World} {K : PySem.W.Frag} {mg : Str → Option Value} {base : Heap} {N ps : List Str} {qual : Str} {scope : Scope} {f : Addr} {cd : Value} {A : Around} {outer : List Env} {s s1 : Shared} {H : Hp} {E : XK} {us : List Value} {vs : List V}
    (S : FnScope N ps scope) (hd : A.handled = none) (e0 : Env0 P w K mg base A outer s H) (hl : vs.length = ps.length) (r : Vals vs us)
    (x : InCallC s s.heap.objs.size (bindL (envOfC qual scope s.heap.objs.size f cd).kindOf (ps.zip us) fun _ => none) (cellsFrom (s.heap.objs.size + 1) scope.names []) (bindC (envOfC qual scope s.heap.objs.size f cd).kindOf (ps.zip us) fun _ => none) s1) :
    Inv (cxOf CX P w K mg base N qual scope f cd A outer s H E) [] (start N vs) H s1 := by
  have hpl : ps.length ≤ N.length := by have := congrArg List.length S.pre; rw [List.length_take] at this; omega
  obtain ⟨h1, tk, rfl, hk⟩ := x.done
  have noA : ∀ b : Addr, b ∉ (cxOf CX P w K mg base N qual scope f cd A outer s H E).ex := fun b z => absurd (show b ∈ ([] : List Addr) from z) (by simp)
  refine ⟨⟨e0.mod, S.kind, rfl, rfl, Nat.le_refl _, fun y z c h1 h2 => ?_, fun y hy => ?_, fun y c _ h => ?_, fun _ => hd, Around.frames_deeper e0.frames, .inr ⟨rfl, rfl⟩, fun b z => absurd z (noA b), e0.bs, e0.bsz, fun b _ _ => noA b, fun b z => absurd z (noA b), e0.funs, e0.frf⟩,
    rfl, e0.bare, Un.kept hk, ⟨_, x.toInCall.ns, fun i y v h1 h2 h3 => ?_⟩, fun y c h => ⟨_, x.cell y c h⟩, e0.hok.fresh (Nat.le_refl _), fun y c h => ?_, fun p hp => absurd (show p ∈ ([] : List (Addr × Obj)) from hp) (by simp), e0.hok.kept hk, ?_⟩
  · exact name_of_addr x.apart (PySem.mem_of_lookup h1) (PySem.mem_of_lookup h2)
  · have hy : scope.names.lookup y = some .cell ∨ scope.names.lookup y = some .free := hy
    rcases hy with hy | hy
    · exact cell_has hy
    · exact absurd rfl (S.nofree _ (PySem.mem_of_lookup hy))
  · exact Nat.le_of_lt (x.above y c (PySem.mem_of_lookup h))
  · have hi : i < vs.length := by
      unfold start at h2
      by_cases hi : i < vs.length
      · exact hi
      · rw [List.getElem?_append_right (by simpa using hi)] at h2
        rw [List.getElem?_replicate] at h2
        split at h2 <;> cases h2
    have ha : vs[i]? = some v := by
      unfold start at h2
      rw [List.getElem?_append_left (by simpa using hi), List.getElem?_map] at h2
      cases e : vs[i]? with
      | none => rw [e] at h2; cases h2
      | some a => rw [e] at h2; cases h2; rfl
    obtain ⟨u, hu, rv⟩ := r.get ha
    have hp : ps[i]? = some y := by
      rw [← S.pre, List.getElem?_take_of_lt (by omega)]; exact h1
    have ndP : ps.Nodup := by rw [← S.pre]; exact S.nd.sublist (List.take_sublist _ _)
    refine ⟨u, rv, ?_⟩
    rcases S.par y (List.mem_of_getElem? hp) with k | k
    · exact .inl ⟨k, bindL_get ndP hp hu k⟩
    · obtain ⟨c, e⟩ := cell_has (n := s.heap.objs.size + 1) k
      refine .inr ⟨.inl k, c, e, ?_⟩
      have q := x.cell y c e
      rw [bindC_get ndP hp hu (by show scope.names.lookup y ≠ _; rw [k]; decide)] at q
      exact q
  · exact e0.hok.fresh (Nat.le_of_lt (x.above y c (PySem.mem_of_lookup h)))
  · unfold start
    show _ = N.length
    rw [List.length_append, List.length_map, List.length_replicate]
    omega

/-- THE RULE: a def (or a method) of the text, by its body. The body's reading t is chosen for each entry; it is run at the parameters' values -/
theorem fn_of {CX : CXT} {P : Program} {w : World} {K : PySem.W.Frag} {mg : Str → Option Value} {base : Heap} {k : Nat} {f : Addr} {name qual : Str} {params : Arguments} {body : List Stmt} {scope : Scope} {dV kV doc pm cdv ct oc : Value} {an od : Option Addr}
    {osl : Array (Option Value)} {N ps : List Str} {sp : Sp} (lk : K.lookup f = some ⟨oc, od, .func (PySem.W.fnOf name qual params body scope dV kV doc pm an cdv ct), osl⟩) (hcd : PySem.W.codeIn K cdv qual = true) (S : FnScope N ps scope)
    (len : ∀ vs H Q E, sp vs H Q E → vs.length = ps.length)
    (hbody : ∀ (A : Around) (outer : List Env) (s : Shared) (H : Hp) (vs : List V) (Q : VK) (E : XK), Room k (A.deeper (envOfC qual scope s.heap.objs.size f cdv)) → sp vs H Q E →
      ∃ t, PSs (cxOf CX P w K mg base N qual scope f cdv A outer s H E) body t ∧ t { nx := fun _ H' => Q .non H', rt := Q } (start N vs) H) :
    FnOk P w K mg base CX (k + 1) f (PySem.W.fnOf name qual params body scope dV kV doc pm an cdv ct) ps sp := by
  refine ⟨len, fun A outer s H args us vs Q E hr e0 hb r hsp => ?_⟩
  have hl := len _ _ _ _ hsp
  have KX : K.In s.heap := e0.mod.kin.keeps fun b o e => (e0.bs b o e).1
  have lim : s.heap.NoLimit := e0.mod.nolimit.keeps fun b o e => (e0.bs b o e).1
  have hkind : ∀ y ∈ ps.zip us, scope.names.lookup y.1 = some .local ∨ (scope.names.lookup y.1 = some .cell ∧ ((cellsFrom (s.heap.objs.size + 1) scope.names []).lookup y.1).isSome = true) := fun ⟨n, v⟩ hy => by
    rcases S.par n (List.of_mem_zip hy).1 with q | q
    · exact .inl q
    · exact .inr ⟨q, PySem.W.cellsFrom_some _ _ _ (.inl q)⟩
  refine codeAny_call_function hr.depth (KX _ _ lk) rfl S.co S.gen rfl (PySem.W.codeRec_of KX hcd) (hb _ _ _ _ ?_)
  refine wpAny_newFunctionEnv_cells S.kind hkind fun env he s1 x => ?_
  subst he
  refine ⟨lim.keeps x.toInCall.keep, codeAny_func ?_⟩
  obtain ⟨t, ht, hq⟩ := hbody A outer s H vs Q E (hr.deeper _) hsp
  have I : Inv (cxOf CX P w K mg base N qual scope f cdv A outer s H E) [] (start N vs) H s1 := inv_start S hr.hd e0 hl r x
  refine wpAny_mono (ht [] s1 (start N vs) H _ I hq) (fun fl s' hs => ?_) fun e s' hs => hs
  have fin : ∀ {σ' : St} {H' : Hp} {v : V} {u : Value}, Inv (cxOf CX P w K mg base N qual scope f cdv A outer s H E) [] σ' H' s' → RelV v u → Q v H' → CE outer P w H s Q u s' :=
    fun {σ' H' v u} J rv q => ⟨v, H', J.os, J.bare, J.base, J.hok, rv, q⟩
  cases fl with
  | ret u =>
    obtain ⟨v, σ', H', J, rv, q⟩ := hs
    exact fin J rv q
  | next =>
    obtain ⟨σ', H', J, q⟩ := hs
    exact fin (v := V.non) (u := Value.none) J rfl q
  | brk =>
    obtain ⟨_, _, _, q⟩ := hs
    exact False.elim q
  | cont =>
    obtain ⟨_, _, _, q⟩ := hs
    exact False.elim q
end L2

namespace L2
open PySem PySem.Spec PyProof.Rows
section
variable {X : Cx} {x : Str} {p pos : Pos} {e : Expr} {es : List Expr} {t : TA} {id T : String} {r : List V → Hp → VK → Prop}

def tCB (r : List V → Hp → VK → Prop) (t : TA) : TE := fun σ H Q => t σ H fun vs H1 => r vs H1 Q
/-- f(e, ..), f a built-in function -/
theorem pe_callB (hc : CallR X (.builtin id) r) (hg : Gl X x) (hm : X.mg x = none) (hv : bootBuiltins x = some (.builtin id)) (ha : PA X (e :: es) t) (hn : x ≠ "__name__" := by decide) (hdb : (x == ("__debug__" : Str)) = false := by decide)
    (he : starEach (e :: es) X.env = (false, eval e X.env) :: starEach es X.env := by rfl) (hpl : (backTo pos (starEach es X.env)).any (·.1) = false := by rfl) : PE X (.Call (.Name x p) (e :: es) [] pos) (tCB r t) := by
  intro pins s σ H Q I h
  refine wpAny_Call_Name_kw (ld_blt I hg hm hv ?_ hn hdb)
  exact PyProof.Rows.callWith_builtin1 (thn (ha pos pins s σ H _ I h) fun us s1 ⟨vs, H1, I1, r1, q1⟩ => hc pins s1 σ H1 vs us Q I1 r1 q1) he hpl
/-- T(e, ..), T a built-in type -/
theorem pe_callTy (hc : CallR X (.type T) r) (hg : Gl X x) (hm : X.mg x = none) (hv : bootBuiltins x = some (.type T)) (ha : PA X (e :: es) t) (hn : x ≠ "__name__" := by decide) (hdb : (x == ("__debug__" : Str)) = false := by decide)
    (he : starEach (e :: es) X.env = (false, eval e X.env) :: starEach es X.env := by rfl) (hpl : (backTo pos (starEach es X.env)).any (·.1) = false := by rfl) : PE X (.Call (.Name x p) (e :: es) [] pos) (tCB r t) := by
  intro pins s σ H Q I h
  refine wpAny_Call_Name_kw (ld_blt I hg hm hv ?_ hn hdb)
  exact PyProof.Rows.callWith_type1 (thn (ha pos pins s σ H _ I h) fun us s1 ⟨vs, H1, I1, r1, q1⟩ => hc pins s1 σ H1 vs us Q I1 r1 q1) he hpl
end
end L2

namespace HT
open PySem PyProof.Rows

section
open PySem.SeqAt
open PySem.AutoSeq1 (wpAny_loadPart')
open PySem.MeetsSeq PySem.MeetsSeq2 PySem.MeetsSeq3

end

section
variable {prog : Program} {w : World} {A : Around} {E : Value → Shared → Prop} {s : Shared}

/-- a slice's bound as a place among n (d where it is left out) -/
def sIx (n d : Nat) : Option Int → Nat
  | none => d
  | some v => if v < 0 then (v + (n : Int)).toNat else min v.toNat n
theorem sIx_none (n d : Nat) : sIx n d none = d := rfl
theorem sIx_nat (n d k : Nat) : sIx n d (some (k : Int)) = min k n := by
  show (if (k : Int) < 0 then ((k : Int) + (n : Int)).toNat else min (k : Int).toNat n) = min k n
  rw [if_neg (by omega), Int.toNat_natCast]
end
end HT

namespace L2
open PySem PySem.Spec PyProof.Rows

abbrev TO := St → Hp → (Option Int → Hp → Prop) → Prop
/-- a slice's part (left out, or an int) -/
def PO (X : Cx) (e : Option Expr) (t : TO) : Prop :=
  ∀ (pins : List (Addr × Obj)) (s : Shared) (σ : St) (H : Hp) (Q : Option Int → Hp → Prop), Inv X pins σ H s → t σ H Q →
    wpAny (model X.prog X.w) X.A (evalPart e X.env) (fun u s' => ∃ o H', Inv X pins σ H' s' ∧ IsPart u o ∧ Q o H') X.xe s
def tNoPart : TO := fun _ H Q => Q none H
def tPart (t : TE) : TO := fun σ H Q => t σ H fun x H1 => ∃ i, x = .int i ∧ Q (some i) H1

section
variable {X : Cx} {e : Expr} {te : TE} {lo hi : Option Expr} {tl th : TO} {pos p2 : Pos}

theorem po_none : PO X none tNoPart := by
  intro pins s σ H Q I h
  rw [evalPart_none]
  exact wpAny_pure ⟨none, H, I, .none, h⟩
theorem po_some (h : PE X e te) : PO X (some e) (tPart te) := by
  intro pins s σ H Q I hw
  rw [evalPart_some]
  refine thn (h pins s σ H _ I hw) fun u s1 ⟨x, H1, I1, r1, q1⟩ => ?_
  obtain ⟨i, rfl, q⟩ := q1
  obtain ⟨t, rfl⟩ := r1
  exact ⟨some i, H1, I1, .int i t, q⟩

/-- what a slice of a value is, by values: the slice object stands at sl -/
def SlR (X : Cx) (r : V → Option Int → Option Int → Hp → VK → Prop) : Prop :=
  ∀ (pins : List (Addr × Obj)) (s : Shared) (σ : St) (H : Hp) (x : V) (v vl vu : Value) (lo hi : Option Int) (sl : Addr) (Q : VK), Inv X pins σ H s → RelV x v → s.heap.IsSliceOf sl vl vu .none → IsPart vl lo → IsPart vu hi → r x lo hi H Q →
    ∃ T id, typeLookup (.type T) "__getitem__" = pure (some (.builtin id)) ∧ s.TypeIs v T ∧ wpAny (model X.prog X.w) X.A (getItem v (.ref sl)) (EP X pins σ Q) X.xe s
def tSl (r : V → Option Int → Option Int → Hp → VK → Prop) (te : TE) (tl th : TO) : TE := fun σ H Q => te σ H fun x H1 => tl σ H1 fun l H2 => th σ H2 fun u H3 => r x l u H3 Q
/-- a[lo:hi], any a -/
theorem pe_slice {r : V → Option Int → Option Int → Hp → VK → Prop} (hr : SlR X r) (he : PE X e te) (hl : PO X lo tl) (hu : PO X hi th) : PE X (.Subscript e (.Slice lo hi none p2) pos) (tSl r te tl th) := by
  intro pins s σ H Q I h
  refine Subscript_ (thn (he pins s σ H _ I h) fun v s1 ⟨x, H1, I1, r1, q1⟩ => ?_)
  refine wpAny_Slice (thn (hl pins s1 σ H1 _ I1 q1) fun vl s2 ⟨l, H2, I2, pl, q2⟩ => thn (hu pins s2 σ H2 _ I2 q2) fun vu s3 ⟨u, H3, I3, pu, q3⟩ => ?_)
  rw [evalPart_none]
  refine wpAny_pure ?_
  have I4 : Inv X pins σ H3 { s3 with heap := s3.heap.push { cls := .type "slice", data := .fields #[vl, vu, .none] } } := I3.kept (t' := s3.toks) fun b ob q => Heap.get?_push_of_some _ q
  obtain ⟨T, id, hT, ht, hg⟩ := hr pins { s3 with heap := s3.heap.push { cls := .type "slice", data := .fields #[vl, vu, .none] } } σ H3 x v vl vu l u s3.heap.objs.size Q I4 r1 (Heap.IsSliceOf.new ..) pl pu q3
  show wpAny (model X.prog X.w) X.A (subscriptTail e (.Slice lo hi none p2) v (.ref s3.heap.objs.size)) (EP X pins σ Q) X.xe { s3 with heap := s3.heap.push { cls := .type "slice", data := .fields #[vl, vu, .none] } }
  exact tail_any (ops := [.ref s3.heap.objs.size, v]) ht hT hg (by with_unfolding_all rfl)

/-- the items of xs[lo:hi] -/
def cutV (xs : List V) (lo hi : Option Int) : List V := (xs.drop (HT.sIx xs.length 0 lo)).take (HT.sIx xs.length xs.length hi - HT.sIx xs.length 0 lo)
theorem cutV_length (xs : List V) (lo hi : Option Int) : (cutV xs lo hi).length ≤ xs.length := by
  unfold cutV
  rw [List.length_take, List.length_drop]
  omega
end
end L2

namespace L2
open PySem PySem.Spec PyProof.Rows

/-- the place that an index of any sign means -/
def ixN (n : Nat) (i : Int) : Option Nat := if 0 ≤ i then (if i < n then some i.toNat else none) else if -(n : Int) ≤ i then some (i + n).toNat else none
def atI {α : Type} (xs : List α) (i : Int) : Option α := (ixN xs.length i).bind fun j => xs[j]?
theorem ixN_seq {n : Nat} {i : Int} {j : Nat} (h : ixN n i = some j) : seqIndex? i n = some j ∧ j < n ∧ -(n : Int) ≤ i ∧ i < n := by
  unfold ixN at h
  by_cases h0 : 0 ≤ i
  · rw [if_pos h0] at h
    by_cases h1 : i < n
    · rw [if_pos h1] at h
      have e : i.toNat = j := Option.some.inj h
      exact ⟨by rw [seqIndex_of h0 h1, e], by omega, by omega, h1⟩
    · rw [if_neg h1] at h; cases h
  · rw [if_neg h0] at h
    by_cases h1 : -(n : Int) ≤ i
    · rw [if_pos h1] at h
      have e : (i + n).toNat = j := Option.some.inj h
      exact ⟨by rw [seqIndex_neg (by omega) h1, e], by omega, h1, by omega⟩
    · rw [if_neg h1] at h; cases h
theorem atI_get {α : Type} {xs : List α} {i : Int} {v : α} (h : atI xs i = some v) : ∃ j, seqIndex? i xs.length = some j ∧ xs[j]? = some v ∧ j < xs.length ∧ -(xs.length : Int) ≤ i ∧ i < xs.length := by
  unfold atI at h
  cases e : ixN xs.length i with
  | none => rw [e] at h; cases h
  | some j =>
    rw [e] at h
    obtain ⟨h1, h2, h3, h4⟩ := ixN_seq e
    exact ⟨j, h1, h, h2, h3, h4⟩
theorem atI_nat {α : Type} {xs : List α} {j : Nat} {v : α} (h : xs[j]? = some v) : atI xs (j : Int) = some v := by
  have hj : j < xs.length := (List.getElem?_eq_some_iff.mp h).1
  have e : ixN xs.length (j : Int) = some j := by
    unfold ixN
    rw [if_pos (by omega), if_pos (by omega)]; simp
  unfold atI; rw [e]; exact h
theorem atI_last {α : Type} (xs : List α) (v : α) : atI (xs ++ [v]) (-1) = some v := by
  have hl : (xs ++ [v]).length = xs.length + 1 := by simp
  have e : ixN (xs ++ [v]).length (-1) = some xs.length := by
    unfold ixN
    rw [hl, if_neg (by decide), if_pos (by omega)]
    congr 1
    omega
  unfold atI
  rw [e]
  show (xs ++ [v])[xs.length]? = some v
  simp

/-- what stands as an index of a plain subscript -/
def PlainIx (b : Expr) : Prop := ∀ o i, subscripted b false o i = operate [o, i] (getItem o i)
/-- a subscript by values -/
def IxR (X : Cx) (r : R2) : Prop :=
  ∀ (value slice : Expr) (pins : List (Addr × Obj)) (s : Shared) (σ : St) (H : Hp) (x y : V) (v u : Value) (Q : VK), Inv X pins σ H s → RelV x v → RelV y u → r x y H Q →
    subscripted slice false v u = operate [v, u] (getItem v u) → wpAny (model X.prog X.w) X.A (subscriptTail value slice v u) (EP X pins σ Q) X.xe s
/-- a call of a builtin's method by values: the receiver, the arguments -/
def MtR (X : Cx) (id : String) (r : V → List V → Hp → VK → Prop) : Prop :=
  ∀ (pins : List (Addr × Obj)) (s : Shared) (σ : St) (H : Hp) (x : V) (xs : List V) (v : Value) (us : List Value) (Q : VK), Inv X pins σ H s → RelV x v → Vals xs us → r x xs H Q →
    wpAny (model X.prog X.w) X.A (call (.builtin id) (v :: us)) (EP X pins σ Q) X.xe s
section
variable {X : Cx} {a b : Expr} {ta tb : TE} {pos : Pos}
/-- a[b] -/
theorem pe_ix {r : R2} (hr : IxR X r) (ha : PE X a ta) (hb : PE X b tb) (hs : PlainIx b) : PE X (.Subscript a b pos) (tOp r ta tb) := by
  intro pins s σ H Q I h
  exact Subscript_ (binT ha hb I h fun v u s2 x y H2 I2 rx ry q => hr a b pins s2 σ H2 x y v u Q I2 rx ry q (hs _ _))

def rIxL (K : PySem.W.Frag) : R2 := fun x y H Q => ∃ p xs i v, x = .ref p ∧ y = .int i ∧ SqL K H p xs ∧ atI xs i = some v ∧ Q v H
def rIxT (K : PySem.W.Frag) : R2 := fun x y H Q => ∃ p xs i v, x = .ref p ∧ y = .int i ∧ SqT K H p xs ∧ atI xs i = some v ∧ Q v H
theorem ix_list : IxR X (rIxL X.K) := by
  intro value slice pins s σ H x y v u Q I rx ry h hs
  obtain ⟨p, xs, i, z, rfl, rfl, hq, he, q⟩ := h
  cases rx
  obtain ⟨t, rfl⟩ := ry
  obtain ⟨its, r, pl, hz⟩ := I.list hq
  obtain ⟨j, h1, h2, h3, h4, h5⟩ := atI_get he
  obtain ⟨w, ew, rw'⟩ := r.get h2
  have hl := r.length
  have hn := line63
  have fin : EP X pins σ Q w s := ⟨z, H, I, rw', q⟩
  by_cases h0 : 0 ≤ i
  · have hj : i.toNat = j := by
      rw [seqIndex_of h0 h5] at h1
      exact Option.some.inj h1
    exact item_listR pl.isList h0 (by omega) (by rw [hj]; simpa using ew) fin hs
  · have hj : (i + (its.toArray.size : Int)).toNat = j := by
      rw [seqIndex_neg (by omega) h4] at h1
      rw [List.size_toArray, ← hl]
      exact Option.some.inj h1
    exact subscriptTail_builtinR (x := w) pl.isList.typeIs slot_list_getitem.lookup
      (wpAny_getItem_list_neg (Q := fun r s' => r = w ∧ EP X pins σ Q r s') pl.isList (by omega) (by rw [List.size_toArray] <;> omega) (by omega) (by rw [hj]; simpa using ew) ⟨rfl, fin⟩) hs
theorem ix_tup : IxR X (rIxT X.K) := by
  intro value slice pins s σ H x y v u Q I rx ry h hs
  obtain ⟨p, xs, i, z, rfl, rfl, hq, he, q⟩ := h
  cases rx
  obtain ⟨t, rfl⟩ := ry
  obtain ⟨its, r, pl, hz⟩ := I.tuple hq
  obtain ⟨j, h1, h2, h3, h4, h5⟩ := atI_get he
  obtain ⟨w, ew, rw'⟩ := r.get h2
  have hl := r.length
  have hn := line63
  have fin : EP X pins σ Q w s := ⟨z, H, I, rw', q⟩
  exact subscriptTail_builtinR (x := w) pl.typeIs slot_tuple_getitem.lookup
    (getItem_tuple (j := j) (Q := fun r s' => r = w ∧ EP X pins σ Q r s') pl (by omega) (by omega) (by rw [List.size_toArray, ← hl]; exact h1) (by simpa using ew) ⟨rfl, fin⟩) hs
/-- the list's object behind a store -/
theorem mapSeq_set (its : List Value) (n j : Nat) (u : Value) : Obj.mapSeq (·.setIfInBounds j u) { cls := .type "list", data := .seq its.toArray n } = { cls := .type "list", data := .seq (its.set j u).toArray n } := by
  simp [Obj.mapSeq]
theorem Inv.lst {pins : List (Addr × Obj)} {σ : St} {H : Hp} {s : Shared} {p : Addr} {xs : List V} (I : Inv X pins σ H s) (h : H p = some (.lst xs)) :
    ∃ (its : List Value) (n : Nat), Vals xs its ∧ s.heap.get? p = some { cls := .type "list", data := .seq its.toArray n } ∧ xs.length ≤ sizeLine := by
  obtain ⟨z, its, n, r, e⟩ := I.hok p _ h
  exact ⟨its, n, r, e, z⟩
/-- the list at p is written by an update of its object -/
theorem Inv.lstUpd {pins : List (Addr × Obj)} {σ : St} {H : Hp} {s : Shared} {p : Addr} {xs ys : List V} {its its' : List Value} {n n' : Nat} {f : Obj → Obj} (I : Inv X pins σ H s) (h : H p = some (.lst xs))
    (ho : s.heap.get? p = some { cls := .type "list", data := .seq its.toArray n }) (hf : f { cls := .type "list", data := .seq its.toArray n } = { cls := .type "list", data := .seq its'.toArray n' }) (r : Vals ys its') (hz : ys.length ≤ sizeLine) (t : Nat) :
    Inv X pins σ (upd H p (.lst ys)) { s with heap := s.heap.update p f, toks := t } := by
  have e : (s.heap.update p f).get? p = some { cls := .type "list", data := .seq its'.toArray n' } := by
    rw [Heap.get?_update_self f ho (by rw [hf] <;> rfl), hf]
  refine I.write (x := p) (e := p) (by rw [h]; trivial) (.inl rfl) (fun b u hb q => (Heap.get?_update_other _ _ (Ne.symm hb)).trans q) ⟨_, e⟩ ?_
  exact ⟨hz, its', n', r, e⟩
def rSetL : V → V → V → Hp → (Hp → Prop) → Prop := fun o i v H Q => ∃ p xs k j, o = .ref p ∧ i = .int k ∧ H p = some (.lst xs) ∧ ixN xs.length k = some j ∧ Q (upd H p (.lst (xs.set j v)))
theorem set_list : PSet X rSetL := by
  intro pins s σ H o i v ov iv u Q I ro ri rv h
  obtain ⟨p, xs, k, j, rfl, rfl, hp, hj, q⟩ := h
  cases ro
  obtain ⟨t, rfl⟩ := ri
  obtain ⟨its, n, r, ho, hz⟩ := I.lst hp
  obtain ⟨h1, h2, h3, h4⟩ := ixN_seq hj
  have hl := r.length
  have hn := line63
  have I' : Inv X pins σ (upd H p (.lst (xs.set j v))) { s with heap := s.heap.update p (Obj.mapSeq (·.setIfInBounds j u)) } :=
    I.lstUpd hp ho (mapSeq_set its n j u) (r.set rv j) (by rw [List.length_set]; exact hz) s.toks
  by_cases h0 : 0 ≤ k
  · have hk : k.toNat = j := by
      rw [seqIndex_of h0 h4] at h1
      exact Option.some.inj h1
    exact PySem.W.ki_setAt ho h0 (by omega) (by rw [List.size_toArray, ← hl]; exact h4) (by rw [hk]; exact ⟨_, I', q⟩)
  · have hk : (k + (its.toArray.size : Int)).toNat = j := by
      rw [seqIndex_neg (by omega) h3] at h1
      rw [List.size_toArray, ← hl]
      exact Option.some.inj h1
    exact PySem.W.ki_setBack ho (by omega) (by rw [List.size_toArray, ← hl]; exact h3) (by omega) (by rw [hk]; exact ⟨_, I', q⟩)

theorem slice_bounds (lo hi : Option Int) (n : Nat) : (sliceBounds lo hi none n).1 = ((HT.sIx n 0 lo : Nat) : Int) ∧ (sliceBounds lo hi none n).2.1 = ((HT.sIx n n hi : Nat) : Int) ∧ (sliceBounds lo hi none n).2.2 = 1 := by
  refine ⟨?_, ?_, rfl⟩
  · cases lo with
    | none => simp [sliceBounds, HT.sIx]
    | some i =>
      simp only [sliceBounds, HT.sIx, Option.getD_none, show (1 : Int) > 0 by decide, if_true]
      by_cases h : i < 0
      · simp only [h, if_true] <;> omega
      · simp only [h, if_false] <;> omega
  · cases hi with
    | none => simp [sliceBounds, HT.sIx]
    | some i =>
      simp only [sliceBounds, HT.sIx, Option.getD_none, show (1 : Int) > 0 by decide, if_true]
      by_cases h : i < 0
      · simp only [h, if_true] <;> omega
      · simp only [h, if_false] <;> omega
theorem slicePick_cut (its : List Value) (lo hi : Option Int) : slicePick its.toArray lo hi none = ((its.drop (HT.sIx its.length 0 lo)).take (HT.sIx its.length its.length hi - HT.sIx its.length 0 lo)).toArray := by
  obtain ⟨h1, h2, h3⟩ := slice_bounds lo hi its.toArray.size
  unfold slicePick
  rw [h1, h2, h3]
  simp only [sliceRange_one, pick_run, List.size_toArray] <;> rfl
/-- xs[lo:hi] of a list: a new list -/
def rSlL (K : PySem.W.Frag) : V → Option Int → Option Int → Hp → VK → Prop := fun x lo hi H Q => ∃ a xs, x = .ref a ∧ SqL K H a xs ∧ ∀ p, H p = none → Q (.ref p) (upd H p (.lst (cutV xs lo hi)))
theorem sl_list : SlR X (rSlL X.K) := by
  intro pins s σ H x v vl vu lo hi sl Q I rx hs pl pu h
  obtain ⟨a, xs, rfl, hx, q⟩ := h
  cases rx
  obtain ⟨its, r, ht, hz⟩ := I.list hx
  have hlen := r.length
  refine ⟨"list", _, slot_list_getitem.lookup, ht.isList.typeIs, ?_⟩
  refine wpAny_getItem_list_slice ht.isList hs pl pu .none (by simp) ?_ (by rw [List.size_toArray] <;> omega)
  rw [slicePick_cut, ← hlen]
  refine ⟨.ref s.heap.objs.size, _, I.laid (t' := s.toks) (o := .lst (cutV xs lo hi)) (fun b ob q => Heap.get?_push_of_some _ q) (Nat.le_refl _) ?_, rfl, q _ (I.hok.fresh (Nat.le_refl _))⟩
  exact ⟨Nat.le_trans (cutV_length xs lo hi) hz, _, 0, (r.drop (HT.sIx xs.length 0 lo)).take (HT.sIx xs.length xs.length hi - HT.sIx xs.length 0 lo), Heap.get?_push_size _ rfl⟩

def flatV : V → Bool
  | .non => true
  | .bl _ => true
  | .int _ => true
  | .str _ => true
  | _ => false
/-- == of flat values -/
def eqV : V → V → Bool
  | .non, .non => true
  | .bl a, .bl b => a == b
  | .bl a, .int b => (if a then 1 else 0) == b
  | .int a, .bl b => a == (if b then 1 else 0)
  | .int a, .int b => a == b
  | .str a, .str b => a == b
  | _, _ => false
theorem eqAt_V {A : Around} {s : Shared} {y x : V} {u v : Value} (ry : RelV y u) (rx : RelV x v) (fy : flatV y = true) (fx : flatV x = true) : SeqAt.EqAt A s u v (eqV y x) := by
  cases y with
  | non =>
    cases ry
    cases x with
    | non => cases rx; exact SeqAt.EqAt.same _
    | bl b => cases rx; exact SeqAt.EqAt.none_bool b
    | int b => obtain ⟨t, rfl⟩ := rx; exact SeqAt.EqAt.none_int b t
    | str b => obtain ⟨t, rfl⟩ := rx; exact SeqAt.EqAt.none_str b t
    | _ => exact absurd (show false = true from fx) Bool.false_ne_true
  | bl a =>
    cases ry
    cases x with
    | non => cases rx; exact SeqAt.EqAt.bool_none a
    | bl b => cases rx; exact SeqAt.EqAt.bool_bool a b
    | int b => obtain ⟨t, rfl⟩ := rx; exact SeqAt.EqAt.bool_int a b t
    | str b => obtain ⟨t, rfl⟩ := rx; exact SeqAt.EqAt.bool_str a b t
    | _ => exact absurd (show false = true from fx) Bool.false_ne_true
  | int a =>
    obtain ⟨t', rfl⟩ := ry
    cases x with
    | non => cases rx; exact SeqAt.EqAt.int_none a t'
    | bl b => cases rx; exact SeqAt.EqAt.int_bool a t' b
    | int b => obtain ⟨t, rfl⟩ := rx; exact SeqAt.EqAt.int_int a t' b t
    | str b => obtain ⟨t, rfl⟩ := rx; exact SeqAt.EqAt.int_str a t' b t
    | _ => exact absurd (show false = true from fx) Bool.false_ne_true
  | str a =>
    obtain ⟨t', rfl⟩ := ry
    cases x with
    | non => cases rx; exact SeqAt.EqAt.str_none a t'
    | bl b => cases rx; exact SeqAt.EqAt.str_bool a t' b
    | int b => obtain ⟨t, rfl⟩ := rx; exact SeqAt.EqAt.str_int a t' b t
    | str b => obtain ⟨t, rfl⟩ := rx; exact SeqAt.EqAt.str_str a t' b t
    | _ => exact absurd (show false = true from fx) Bool.false_ne_true
  | _ => exact absurd (show false = true from fy) Bool.false_ne_true
/-- the items' answers, read off the values (a value's own answer does not lean on its token) -/
def eqU (x : V) (u : Value) : Bool := match u with
  | .none => eqV .non x
  | .bool b => eqV (.bl b) x
  | .int i _ => eqV (.int i) x
  | .str z _ => eqV (.str z) x
  | _ => false
theorem eqU_of {x y : V} {u : Value} (r : RelV y u) (f : flatV y = true) : eqU x u = eqV y x := by
  cases y with
  | non => cases r; rfl
  | bl b => cases r; rfl
  | int i => obtain ⟨t, rfl⟩ := r; rfl
  | str z => obtain ⟨t, rfl⟩ := r; rfl
  | _ => exact absurd (show false = true from f) Bool.false_ne_true
theorem any_eqU {x : V} : ∀ {xs : List V} {us : List Value}, Vals xs us → xs.all flatV = true → us.any (eqU x) = xs.any fun y => eqV y x
  | _, _, .nil, _ => rfl
  | y :: xs, u :: us, .cons r t, f => by
    rw [List.all_cons, Bool.and_eq_true] at f
    rw [List.any_cons, List.any_cons, eqU_of r f.1, any_eqU t f.2]
theorem mem_eqAt {A : Around} {s : Shared} {x : V} {v : Value} (rx : RelV x v) (fx : flatV x = true) : ∀ {xs : List V} {us : List Value}, Vals xs us → xs.all flatV = true → ∀ u ∈ us, SeqAt.EqAt A s u v (eqU x u)
  | _, _, .nil, _ => fun u hu => by cases hu
  | y :: xs, u :: us, .cons r t, f => fun u' hu => by
    rw [List.all_cons, Bool.and_eq_true] at f
    rcases List.mem_cons.mp hu with rfl | hu
    · rw [eqU_of r f.1]; exact eqAt_V r rx f.1 fx
    · exact mem_eqAt rx fx t f.2 u' hu
def inV (x : V) (xs : List V) : Bool := xs.any fun y => eqV y x
/-- x in a list or tuple of flat items -/
def rIn (K : PySem.W.Frag) (neg : Bool) : R2 := fun x y H Q => ∃ p xs, y = .ref p ∧ (SqL K H p xs ∨ SqT K H p xs) ∧ flatV x = true ∧ xs.all flatV = true ∧ Q (.bl (if neg then !inV x xs else inV x xs)) H
theorem op_in_seq : OpR X (compareOp .In) (rIn X.K false) := by
  intro pins s σ H x y v u Q I rx ry h
  obtain ⟨p, xs, rfl, hq, fx, fs, q⟩ := h
  cases ry
  rcases hq with hq | hq
  · obtain ⟨its, r, pl, hz⟩ := I.list hq
    refine SeqAt.in_listAt (eqU x) pl.isList (fun w hw => mem_eqAt rx fx r fs w (by simpa using hw)) ⟨.bl _, H, I, rfl, ?_⟩
    rw [show its.toArray.any (eqU x) = its.any (eqU x) by simp, any_eqU r fs]
    exact q
  · obtain ⟨its, r, pl, hz⟩ := I.tuple hq
    refine SeqAt.in_tupleAt (eqU x) pl (fun w hw => mem_eqAt rx fx r fs w (by simpa using hw)) ⟨.bl _, H, I, rfl, ?_⟩
    rw [show its.toArray.any (eqU x) = its.any (eqU x) by simp, any_eqU r fs]
    exact q
theorem call_len_seq : CallR X (.builtin "len") (fun xs H Q => ∃ p ys, xs = [.ref p] ∧ (SqL X.K H p ys ∨ SqT X.K H p ys) ∧ Q (.int ys.length) H) := by
  intro pins s σ H xs us Q I r h
  obtain ⟨p, ys, rfl, hq, q⟩ := h
  obtain ⟨u, rfl, rx⟩ := vals1 r
  cases rx
  have hn := line63
  rcases hq with hq | hq
  · obtain ⟨its, r', pl, hz⟩ := I.list hq
    have hlen := r'.length
    exact Calls.call_len_list pl.isList (by simp only [List.size_toArray] <;> omega) ⟨.int ys.length, H, I.tok _, ⟨s.toks + 1, by rw [List.size_toArray, hlen]⟩, q⟩
  · obtain ⟨its, r', pl, hz⟩ := I.tuple hq
    have hlen := r'.length
    exact len_tuple pl (by simp only [List.size_toArray] <;> omega) ⟨.int ys.length, H, I.tok _, ⟨s.toks + 1, by rw [List.size_toArray, hlen]⟩, q⟩
theorem call_list_of : CallR X (.type "list") (fun xs H Q => ∃ p ys, xs = [.ref p] ∧ (SqL X.K H p ys ∨ SqT X.K H p ys) ∧ ∀ l, H l = none → Q (.ref l) (upd H l (.lst ys))) := by
  intro pins s σ H xs us Q I r h
  obtain ⟨p, ys, rfl, hq, q⟩ := h
  obtain ⟨u, rfl, rx⟩ := vals1 r
  cases rx
  have fin : ∀ (its : List Value), Vals ys its → ys.length ≤ sizeLine → ∀ (h' : Heap) (c' : Nat), (∀ b o', s.heap.get? b = some o' → h'.get? b = some o') →
      h'.get? s.heap.objs.size = some { cls := .type "list", dict := none, data := .seq its.toArray c', slots := #[] } → EP X pins σ Q (.ref s.heap.objs.size) { s with heap := h' } := fun its r' hz h' c' kp e =>
    ⟨.ref s.heap.objs.size, _, I.laid (t' := s.toks) kp (Nat.le_refl _) (show ObjOk X.prog X.w _ h' _ (.lst ys) from ⟨hz, its, c', r', e⟩), rfl, q _ (I.hok.fresh (Nat.le_refl _))⟩
  rcases hq with hq | hq
  · obtain ⟨its, r', pl, hz⟩ := I.list hq
    have hlen := r'.length
    obtain ⟨o, ho, hc, n, hd⟩ := pl.isList
    exact call_list_seq p (.inl rfl) ho hc hd (fun h' c' kp e => fin its r' hz h' c' kp e) (by simp only [List.size_toArray] <;> omega)
  · obtain ⟨its, r', pl, hz⟩ := I.tuple hq
    have hlen := r'.length
    obtain ⟨o, ho, hc, n, hd⟩ := pl
    exact call_list_seq p (.inr rfl) ho hc hd (fun h' c' kp e => fin its r' hz h' c' kp e) (by simp only [List.size_toArray] <;> omega)
/-- the value is of that builtin type -/
def tyV (K : PySem.W.Frag) (T : String) (x : V) (H : Hp) : Prop := match x with
  | .str _ => T = "str"
  | .int _ => T = "int"
  | .ref p => (T = "list" ∧ ∃ xs, SqL K H p xs) ∨ (T = "tuple" ∧ ∃ o, K.lookup p = some o ∧ o.cls = .type "tuple" ∧ o.dict = none) ∨
      (T = "dict" ∧ ((∃ kvs, H p = some (.dK kvs)) ∨ ∃ kvs, H p = some (.dT kvs))) ∨ (T = "set" ∧ ∃ S n, H p = some (.set S n))
  | _ => False
theorem tyV_is {pins : List (Addr × Obj)} {σ : St} {H : Hp} {s : Shared} {T : String} {x : V} {v : Value} (I : Inv X pins σ H s) (r : RelV x v) (ty : tyV X.K T x H) :
    s.TypeIs v T ∧ ∀ a, v = .ref a → ∃ ob, s.heap.get? a = some ob ∧ ob.dict = none := by
  cases x with
  | str z =>
    obtain ⟨t, rfl⟩ := r
    cases (show T = "str" from ty)
    exact ⟨typeIs_str s z t, fun _ e => nomatch e⟩
  | int i =>
    obtain ⟨t, rfl⟩ := r
    cases (show T = "int" from ty)
    exact ⟨typeIs_int s i t, fun _ e => nomatch e⟩
  | ref p =>
    cases r
    rcases ty with ⟨rfl, xs, hq⟩ | ⟨rfl, o, hk, hc, hd⟩ | ⟨rfl, hk⟩ | ⟨rfl, S, n, hk⟩
    · obtain ⟨its, _, pl, _⟩ := I.list hq
      refine ⟨pl.isList.typeIs, fun a e => ?_⟩
      cases e
      obtain ⟨o, n, e, c, hd, _⟩ := pl
      exact ⟨o, e, hd⟩
    · refine ⟨⟨o, I.kIn p o hk, hc⟩, fun a e => ?_⟩
      cases e
      exact ⟨o, I.kIn _ o hk, hd⟩
    · have z : ∃ o, s.heap.get? p = some o ∧ o.ExactDict := by
        rcases hk with ⟨kvs, hk⟩ | ⟨kvs, hk⟩
        · obtain ⟨_, _, _, _, o, _, _, e, ex, _⟩ := I.hok p _ hk
          exact ⟨o, e, ex⟩
        · obtain ⟨_, _, _, _, o, _, _, e, ex, _⟩ := I.hok p _ hk
          exact ⟨o, e, ex⟩
      obtain ⟨o, e, ex⟩ := z
      refine ⟨⟨o, e, ex.1⟩, fun a e2 => ?_⟩
      cases e2
      exact ⟨o, e, ex.2.1⟩
    · obtain ⟨o, _, _, _, e, ex, _⟩ := I.hok p _ hk
      refine ⟨⟨o, e, ex.1⟩, fun a e2 => ?_⟩
      cases e2
      exact ⟨o, e, ex.2.1⟩
  | _ => exact False.elim ty
def tBM (K : PySem.W.Frag) (T : String) (r : V → List V → Hp → VK → Prop) (to : TE) (t : TA) : TE := fun σ H Q => to σ H fun x H1 => tyV K T x H1 ∧ t σ H1 fun xs H2 => r x xs H2 Q
variable {o e : Expr} {es : List Expr} {to : TE} {t : TA} {name : Str} {apos cpos : Pos} {T id : String} {r : V → List V → Hp → VK → Prop}
theorem pe_bm (pa : PlainAttrs T) (slot : Slot T name id) (hty : typeOf (.builtin id) = pure (.type "method_descriptor")) (hm : MtR X id r) (ho : PE X o to) (ha : PA X (e :: es) t)
    (hbase : attributeBase o name X.env (eval o X.env) = eval o X.env := by rfl)
    (hfew : ((backTo cpos (starEach (e :: es) X.env)).all (fun x => !x.1) && (backToKw cpos (keywordEach [] X.env)).all (fun x => x.1.isSome)
      && decide ((e :: es).length + ([] : List Keyword).length + (if ([] : List Keyword).isEmpty then 0 else 1) < 30)) = true := by rfl)
    (hline : (apos.endLine == cpos.line) = true := by rfl) (hs : starEach (e :: es) X.env = (false, eval e X.env) :: starEach es X.env := by rfl) (hplain : (backTo cpos (starEach es X.env)).any (·.1) = false := by rfl) :
    PE X (.Call (.Attribute o name apos) (e :: es) [] cpos) (tBM X.K T r to t) := by
  intro pins s σ H Q I h
  refine wpAny_Call_method_late hbase hfew hline rfl (thn (ho pins s σ H _ I h) fun v s1 ⟨x, H1, I1, r1, ty, q1⟩ => ?_)
  obtain ⟨h1, h2⟩ := tyV_is I1 r1 ty
  refine ⟨T, id, pa, slot, hty, h1, h2, ?_⟩
  have hA := ha cpos pins s1 σ H1 _ I1 q1
  rw [hs] at hA ⊢
  refine Calls.callWith_builtin (by show (false || (backTo cpos (starEach es X.env)).any (·.1)) = false; rw [hplain] <;> rfl) (Calls.evalArgs_plain ?_)
  exact thn hA fun us s2 ⟨vs, H2, I2, r2, q2⟩ => hm pins s2 σ H2 x vs v us Q I2 r1 r2 q2
end
end L2

namespace L2
open PySem PySem.Spec PyProof.Rows

def MtM (X : Cx) (id : String) (r : V → List V → Hp → VK → Prop) : Prop :=
  ∀ (pins : List (Addr × Obj)) (s : Shared) (σ : St) (H : Hp) (x : V) (xs : List V) (v : Value) (us : List Value) (Q : VK), Inv X pins σ H s → RelV x v → Vals xs us → r x xs H Q →
    wpAny (model X.prog X.w) X.A (call (.builtin id) (v :: us)) (EP X pins σ Q) X.xe s

theorem Vals.one : ∀ {x : V} {us : List Value}, Vals [x] us → ∃ u, us = [u] ∧ RelV x u
  | _, _, .cons r .nil => ⟨_, rfl, r⟩
theorem Vals.rep {xs : List V} {us : List Value} (h : Vals xs us) : ∀ k : Nat, Vals (List.replicate k xs).flatten (List.replicate k us).flatten
  | 0 => .nil
  | k + 1 => by
    rw [List.replicate_succ, List.replicate_succ, List.flatten_cons, List.flatten_cons]
    exact Vals.append h (Vals.rep h k)
theorem foldl_rep (its : List Value) : ∀ (k : Nat) (acc : List Value),
    List.foldl (fun x1 x2 => x1 ++ x2) acc.toArray (List.replicate k its.toArray) = (acc ++ (List.replicate k its).flatten).toArray
  | 0, acc => by simp
  | k + 1, acc => by
    have e : acc.toArray ++ its.toArray = (acc ++ its).toArray := by simp
    have e2 : (acc ++ its) ++ (List.replicate k its).flatten = acc ++ (List.replicate (k + 1) its).flatten := by
      rw [List.replicate_succ, List.flatten_cons, List.append_assoc]
    rw [← e2, ← foldl_rep its k (acc ++ its), ← e, List.replicate_succ, List.foldl_cons]

section
variable {X : Cx} {pins : List (Addr × Obj)} {σ : St} {H : Hp} {s : Shared} {l b : Addr} {xs ys zs : List V}

theorem Inv.lset {its its' : List Value} {n : Nat} {f : Array Value → Array Value} {t' : Nat} (I : Inv X pins σ H s) (hH : H l = some (.lst xs))
    (e : s.heap.get? l = some { cls := .type "list", data := .seq its.toArray n }) (hf : f its.toArray = its'.toArray) (hv : Vals ys its') (hz : ys.length ≤ sizeLine) :
    Inv X pins σ (upd H l (.lst ys)) { s with heap := s.heap.update l (Obj.mapSeq f), toks := t' } := by
  have q := PySem.IsL.update e f
  rw [hf] at q
  refine I.write (x := l) (e := l) (by rw [hH]; exact trivial) (.inl rfl) (fun b' u hb hu => (Heap.get?_update_other s.heap (Obj.mapSeq f) (Ne.symm hb)).trans hu) ⟨_, q⟩ ?_
  exact ⟨hz, its', _, hv, q⟩
theorem Inv.lnew {its : List Value} {t' : Nat} (I : Inv X pins σ H s) (hv : Vals ys its) (hz : ys.length ≤ sizeLine) :
    Inv X pins σ (upd H s.heap.objs.size (.lst ys)) { s with heap := s.heap.push { cls := .type "list", data := .seq its.toArray }, toks := t' } :=
  I.laid (fun _ _ q => Heap.get?_push_of_some _ q) (Nat.le_refl _) ⟨hz, its, 0, hv, Heap.get?_push_size _ rfl⟩
theorem Inv.fresh (I : Inv X pins σ H s) : H s.heap.objs.size = none := I.hok.fresh (Nat.le_refl _)
theorem Inv.lstM (I : Inv X pins σ H s) (hH : H l = some (.lst xs)) : xs.length ≤ sizeLine ∧ ∃ (its : List Value) (n : Nat), Vals xs its ∧ xs.length = its.length ∧ s.heap.get? l = some { cls := .type "list", data := .seq its.toArray n } := by
  obtain ⟨z, its, n, r, e⟩ := I.hok l _ hH
  exact ⟨z, its, n, r, r.length, e⟩

theorem notLongL {n : Nat} (h : n ≤ sizeLine) : Builtin.List.listTooLong n = false := by
  unfold Builtin.List.listTooLong
  exact decide_eq_false (by omega)
end

section
variable {X : Cx}

def rAppend : V → List V → Hp → VK → Prop := fun x vs H Q => ∃ l xs y, x = .ref l ∧ vs = [y] ∧ H l = some (.lst xs) ∧ xs.length < sizeLine ∧ Q .non (upd H l (.lst (xs ++ [y])))
theorem mt_append : MtM X "list.append" rAppend := by
  intro pins s σ H x vs v us Q I rx rv h
  obtain ⟨l, xs, y, rfl, rfl, hH, hz, q⟩ := h
  cases rx
  obtain ⟨u, rfl, ru⟩ := rv.one
  obtain ⟨z, its, n, r, hl, e⟩ := I.lstM hH
  refine call_meets F.slot_list_append ⟨_, e, rfl⟩ F.entry_list_append (F.args_list_append_2 _ _) (PySem.list_append l its.toArray n u (by rw [List.size_toArray]; omega)) ⟨e, ?_⟩
  refine ⟨.non, _, I.lset (its' := its ++ [u]) hH e (by simp) (r.append (.cons ru .nil)) ?_, rfl, q⟩
  rw [List.length_append, List.length_singleton]
  omega

def rExtend : V → List V → Hp → VK → Prop := fun x vs H Q => ∃ l b xs zs, x = .ref l ∧ vs = [.ref b] ∧ H l = some (.lst xs) ∧ H b = some (.lst zs) ∧ xs.length + zs.length ≤ sizeLine ∧ Q .non (upd H l (.lst (xs ++ zs)))
theorem mt_extend : MtM X "list.extend" rExtend := by
  intro pins s σ H x vs v us Q I rx rv h
  obtain ⟨l, b, xs, zs, rfl, rfl, hH, hB, hz, q⟩ := h
  cases rx
  obtain ⟨u, rfl, ru⟩ := rv.one
  cases ru
  obtain ⟨z, its, n, r, hl, e⟩ := I.lstM hH
  obtain ⟨z2, its2, n2, r2, hl2, e2⟩ := I.lstM hB
  have hsz : its.toArray.size + its2.toArray.size ≤ sizeLine := by rw [List.size_toArray, List.size_toArray]; omega
  have hlong : ¬ (!its.toArray.isEmpty && Builtin.List.listTooLong (its.toArray.size + its2.toArray.size)) = true := by
    rw [notLongL hsz, Bool.and_false]
    exact Bool.false_ne_true
  refine call_meets F.slot_list_extend ⟨_, e, rfl⟩ F.entry_list_extend (F.args_list_extend_2 _ _)
    (AutoSeq1.list_extend_list_list_0 l its.toArray n b its2.toArray n2 hlong (by rw [List.size_toArray]; omega) (by omega)) ⟨e, e2, ?_⟩
  refine ⟨.non, _, I.lset (its' := its ++ its2) hH e (by simp) (r.append r2) ?_, rfl, q⟩
  rw [List.length_append]
  omega

def rCat : R2 := fun x y H Q => ∃ l b xs zs, x = .ref l ∧ y = .ref b ∧ H l = some (.lst xs) ∧ H b = some (.lst zs) ∧ xs.length + zs.length ≤ sizeLine ∧ ∀ p, H p = none → Q (.ref p) (upd H p (.lst (xs ++ zs)))
theorem op_cat : OpR X (binaryOp .Add) rCat := by
  intro pins s σ H x y v u Q I rx ry h
  obtain ⟨l, b, xs, zs, rfl, rfl, hH, hB, hz, q⟩ := h
  cases rx
  cases ry
  obtain ⟨z, its, n, r, hl, e⟩ := I.lstM hH
  obtain ⟨z2, its2, n2, r2, hl2, e2⟩ := I.lstM hB
  refine PySem.P.add_list e e2 ?_ (by rw [List.size_toArray, List.size_toArray]; omega)
  have ea : its.toArray ++ its2.toArray = (its ++ its2).toArray := by simp
  rw [ea]
  exact ⟨.ref _, _, I.lnew (t' := s.toks) (r.append r2) (by rw [List.length_append]; omega), rfl, q _ I.fresh⟩
/-- a list times an int (a negative one is nothing) -/
def rRep : R2 := fun x y H Q => ∃ l k xs, x = .ref l ∧ y = .int k ∧ H l = some (.lst xs) ∧ -(2 ^ 63) ≤ k ∧ k < 2 ^ 63 ∧ xs.length * k.toNat ≤ sizeLine ∧
  ∀ p, H p = none → Q (.ref p) (upd H p (.lst (List.replicate k.toNat xs).flatten))
theorem len_rep {α : Type} (xs : List α) (k : Nat) : (List.replicate k xs).flatten.length = k * xs.length := by
  induction k with
  | zero => simp
  | succ k ih => rw [List.replicate_succ, List.flatten_cons, List.length_append, ih, Nat.succ_mul, Nat.add_comm]
theorem op_rep : OpR X (binaryOp .Mult) rRep := by
  intro pins s σ H x y v u Q I rx ry h
  obtain ⟨l, k, xs, rfl, rfl, hH, h1, h2, hz, q⟩ := h
  cases rx
  obtain ⟨t, rfl⟩ := ry
  obtain ⟨z, its, n, r, hl, e⟩ := I.lstM hH
  have hlen : its.toArray.size * k.toNat ≤ sizeLine := by rw [List.size_toArray, ← hl]; exact hz
  have hcap : ¬ its.toArray.size * k.toNat > (2 ^ 63 - 1) / 8 := by
    have : (sizeLine : Nat) ≤ (2 ^ 63 - 1) / 8 := by decide
    omega
  have hfit : ¬ (!Builtin.List.listFitsIndex k) = true := by
    rw [fitsIndex_both h1 h2]
    exact Bool.false_ne_true
  have hlong : ¬ Builtin.List.listTooLong (its.toArray.size * k.toNat) = true := by
    rw [notLongL hlen]
    exact Bool.false_ne_true
  have hnew : List.foldl (fun x1 x2 => x1 ++ x2) #[] (List.replicate (if its.toArray.isEmpty = true then 0 else k.toNat) its.toArray) = (List.replicate k.toNat its).flatten.toArray := by
    have f0 : ∀ m : Nat, List.foldl (fun x1 x2 => x1 ++ x2) #[] (List.replicate m its.toArray) = (List.replicate m its).flatten.toArray := fun m => by
      have := foldl_rep its m []
      rw [List.nil_append] at this
      exact this
    rw [f0]
    cases its with
    | nil => simp
    | cons a r' => rw [if_neg (by simp)]
  refine wpAny_binaryOp_repeat_ref (T := "list") (U := "int") (by decide) ⟨_, e, rfl⟩ (fun s' => typeIs_int s' k t) noFill_list_mul F.fills_int_mul F.slot_int_rmul repeat_list F.slot_int_index.lookup
    (call_meets F.slot_int_rmul (typeIs_int s k t) F.entry_int_rmul (F.args_int_rmul_2 _ _) (int___rmul___int_list k t l its.toArray n)
      ⟨e, rfl, ⟨_, e, rfl⟩, call_meets F.slot_list_mul ⟨_, e, rfl⟩ F.entry_list_mul (F.args_list_mul_2 _ _) (AutoListH.list___mul___list_int_3 l its.toArray n k t hfit hcap hlong) ⟨e, ?_⟩⟩)
  rw [hnew]
  exact ⟨.ref _, _, I.lnew (t' := s.toks) (r.rep k.toNat) (by rw [len_rep, Nat.mul_comm]; exact hz), rfl, q _ I.fresh⟩

end

section
variable {prog : Program} {w : World} {A : Around} {E : Value → Shared → Prop} {s : Shared}
end

section
variable {X : Cx}
end
end L2

namespace L2
open PySem PySem.Spec PyProof.Rows

theorem Vals.ints : ∀ {ns : List Int} {us : List Value}, Vals (ns.map V.int) us → IntsAre us ns
  | [], us, h => by
    rw [List.map_nil] at h
    cases h
    exact IntsAre.nil
  | n :: ns, us, h => by
    rw [List.map_cons] at h
    cases h with
    | cons r t =>
      obtain ⟨k, rfl⟩ := r
      exact IntsAre.cons n k (Vals.ints t)
theorem Vals.ref1 {a : Addr} {us : List Value} (r : Vals [V.ref a] us) : us = [Value.ref a] := by
  cases r with
  | cons r t =>
    cases t
    cases r
    rfl
section
variable {prog : Program} {w : World} {A : Around} {E : Value → Shared → Prop} {s : Shared} {l : Addr} {its : List Value} {ns : List Int} {Q : Value → Shared → Prop}
theorem sum_raw (hh : A.handled = none) (hl : s.heap.IsList l its.toArray) (hi : IntsAre its ns)
    (h : ∀ h' tk t', (∀ b o, s.heap.get? b = some o → h'.get? b = some o) → Q (.int ns.sum t') { s with heap := h', toks := tk }) : wpAny (model prog w) A (call (.builtin "sum") [.ref l]) Q E s := by
  obtain ⟨xs, e⟩ := hi.allInts.items
  have hn : numsOf (intItems xs).toList = ns := by rw [← e]; exact hi.numsOf
  rw [nums_intItems] at hn
  rw [e] at hl
  refine PySem.sum_intListG hh hl fun h' tk t' hk => ?_
  have := h h' tk t' hk
  rw [preSum_eq, List.take_of_length_le (by simp), hn]; exact this
theorem max_raw (hh : A.handled = none) (hl : s.heap.IsList l its.toArray) (hi : IntsAre its ns) (hne : 0 < ns.length)
    (h : ∀ h' tk M t', (∀ b o, s.heap.get? b = some o → h'.get? b = some o) → M ∈ ns → (∀ a, a ∈ ns → a ≤ M) → Q (.int M t') { s with heap := h', toks := tk }) : wpAny (model prog w) A (call (.builtin "max") [.ref l]) Q E s := by
  obtain ⟨xs, e⟩ := hi.allInts.items
  have hn : numsOf (intItems xs).toList = ns := by rw [← e]; exact hi.numsOf
  rw [nums_intItems] at hn
  subst hn
  rw [e] at hl
  have hsz : 0 < xs.size := by simpa using hne
  refine PySem.max_intList hh hl hsz fun v h' tk hv hk => ?_
  obtain ⟨t, rfl⟩ := intItems_at hv
  obtain ⟨h1, h2⟩ := argBest_gt (numAt xs) (xs.size - 1)
  refine h h' tk _ t hk ?_ fun a ha => ?_
  · rw [numAt_eq]; exact PySem.getD_mem (by rw [List.length_map, Array.length_toList]; omega)
  · obtain ⟨j, hj, rfl⟩ := mem_getD ha
    rw [List.length_map, Array.length_toList] at hj
    rw [← numAt_eq]; exact h2 j (by omega)
theorem min_raw (hh : A.handled = none) (hl : s.heap.IsList l its.toArray) (hi : IntsAre its ns) (hne : 0 < ns.length)
    (h : ∀ h' tk M t', (∀ b o, s.heap.get? b = some o → h'.get? b = some o) → M ∈ ns → (∀ a, a ∈ ns → M ≤ a) → Q (.int M t') { s with heap := h', toks := tk }) : wpAny (model prog w) A (call (.builtin "min") [.ref l]) Q E s := by
  obtain ⟨xs, e⟩ := hi.allInts.items
  have hn : numsOf (intItems xs).toList = ns := by rw [← e]; exact hi.numsOf
  rw [nums_intItems] at hn
  subst hn
  rw [e] at hl
  have hsz : 0 < xs.size := by simpa using hne
  refine PySem.min_intList hh hl hsz fun v h' tk hv hk => ?_
  obtain ⟨t, rfl⟩ := intItems_at hv
  obtain ⟨h1, h2⟩ := argBest_lt (numAt xs) (xs.size - 1)
  refine h h' tk _ t hk ?_ fun a ha => ?_
  · rw [numAt_eq]; exact PySem.getD_mem (by rw [List.length_map, Array.length_toList]; omega)
  · obtain ⟨j, hj, rfl⟩ := mem_getD ha
    rw [List.length_map, Array.length_toList] at hj
    rw [← numAt_eq]; exact h2 j (by omega)
end

section
variable {X : Cx}
/-- sum(xs) of a list of ints -/
def rSum (K : PySem.W.Frag) : List V → Hp → VK → Prop := fun vs H Q => ∃ (a : Addr) (ns : List Int), vs = [V.ref a] ∧ SqL K H a (ns.map V.int) ∧ Q (.int ns.sum) H
/-- max(xs), min(xs) of a list of ints -/
def rMax (K : PySem.W.Frag) : List V → Hp → VK → Prop := fun vs H Q => ∃ (a : Addr) (ns : List Int), vs = [V.ref a] ∧ SqL K H a (ns.map V.int) ∧ 0 < ns.length ∧ ∀ m, m ∈ ns → (∀ y, y ∈ ns → y ≤ m) → Q (.int m) H
def rMin (K : PySem.W.Frag) : List V → Hp → VK → Prop := fun vs H Q => ∃ (a : Addr) (ns : List Int), vs = [V.ref a] ∧ SqL K H a (ns.map V.int) ∧ 0 < ns.length ∧ ∀ m, m ∈ ns → (∀ y, y ∈ ns → m ≤ y) → Q (.int m) H
theorem cr_sum (hc : X.calm = true) : CallR X (.builtin "sum") (rSum X.K) := by
  intro pins s σ H vs us Q I r h
  obtain ⟨a, ns, rfl, hs, q⟩ := h
  obtain ⟨its, rv, hl, _⟩ := I.list hs
  rw [Vals.ref1 r]
  exact sum_raw (I.ok.hd hc) hl.isList rv.ints fun h' tk t' hk => ⟨.int _, H, I.kept hk, ⟨_, rfl⟩, q⟩
theorem cr_max (hc : X.calm = true) : CallR X (.builtin "max") (rMax X.K) := by
  intro pins s σ H vs us Q I r h
  obtain ⟨a, ns, rfl, hs, hne, q⟩ := h
  obtain ⟨its, rv, hl, _⟩ := I.list hs
  rw [Vals.ref1 r]
  exact max_raw (I.ok.hd hc) hl.isList rv.ints hne fun h' tk m t' hk h1 h2 => ⟨.int _, H, I.kept hk, ⟨_, rfl⟩, q m h1 h2⟩
theorem cr_min (hc : X.calm = true) : CallR X (.builtin "min") (rMin X.K) := by
  intro pins s σ H vs us Q I r h
  obtain ⟨a, ns, rfl, hs, hne, q⟩ := h
  obtain ⟨its, rv, hl, _⟩ := I.list hs
  rw [Vals.ref1 r]
  exact min_raw (I.ok.hd hc) hl.isList rv.ints hne fun h' tk m t' hk h1 h2 => ⟨.int _, H, I.kept hk, ⟨_, rfl⟩, q m h1 h2⟩

end

section
variable {X : Cx}
end

section
variable {X : Cx}
end

section
variable {X : Cx}
end

section
variable {X : Cx} {pins : List (Addr × Obj)} {σ : St} {H : Hp} {s : Shared}
end
section
variable {X : Cx}
end
end L2

namespace L2
open PySem PySem.Spec PyProof.Rows
abbrev CellAt (h : Heap) (c : Addr) (v : Option Value) : Prop := h.IsCell c v
def relS (scope sc : Scope) : Scope :=
  { scope with names := scope.names.map fun (n, k) => if (k == .free && sc.kind == .function && sc.names.lookup n == some .cell) then (n, .cell) else (n, k) }

def cloFrom (cells : List (Str × Addr)) : List (Str × NameKind) → List (Str × Addr) → List (Str × Addr)
  | [], acc => acc
  | (n, k) :: r, acc => if k == .free then cloFrom cells r ((n, (cells.lookup n).getD 0) :: acc) else cloFrom cells r acc

theorem closure_loop (env : Env) (f : Str × NameKind → List (Str × Addr) → Sem (ForInStep (List (Str × Addr))))
    (hf : ∀ n k c, f (n, k) c = if k == .free then (do let a ← cellOf env n; pure (.yield ((n, a) :: c))) else pure (.yield c)) :
    ∀ (names : List (Str × NameKind)) (acc : List (Str × Addr)), (∀ y ∈ names, y.2 = .free → ∃ c, env.cells.lookup y.1 = some c) → forIn names acc f = pure (cloFrom env.cells names acc)
  | [], acc, _ => by rw [List.forIn_nil]; rfl
  | (n, k) :: r, acc, h => by
    rw [List.forIn_cons, hf]
    have ih := fun acc => closure_loop env f hf r acc fun y hy => h y (List.mem_cons_of_mem _ hy)
    unfold cloFrom
    by_cases hk : (k == NameKind.free) = true
    · rw [if_pos hk, if_pos hk]
      obtain ⟨c, hc⟩ := h (n, k) List.mem_cons_self (by simpa using hk)
      have e : cellOf env n = pure c := by unfold cellOf; rw [hc]
      rw [e]
      have e2 : (env.cells.lookup n).getD 0 = c := by rw [hc]; rfl
      rw [e2]
      exact ih _
    · rw [if_neg hk, if_neg hk]
      exact ih _
theorem closure_ok {scope : Scope} {env : Env} (h : ∀ y ∈ scope.names, y.2 = .free → ∃ c, env.cells.lookup y.1 = some c) : closureFor scope env = pure (cloFrom env.cells scope.names []) := by
  simp only [closureFor]
  rw [closure_loop env _ (fun n k c => rfl) scope.names [] h]
  rfl

theorem mem_lookup {α : Type} : ∀ {l : List (Str × α)} {n : Str} {c : α}, (n, c) ∈ l → ∃ c', l.lookup n = some c'
  | (k, v) :: r, n, c, h => by
    rw [List.lookup_cons]
    cases hb : n == k with
    | true => exact ⟨_, rfl⟩
    | false =>
      rcases List.mem_cons.mp h with e | h
      · cases e; simp at hb
      · exact mem_lookup h

theorem cloFrom_mem {cells : List (Str × Addr)} : ∀ {names : List (Str × NameKind)} {acc : List (Str × Addr)} {n : Str} {c : Addr}, (n, c) ∈ cloFrom cells names acc → (n, c) ∈ acc ∨ ((n, .free) ∈ names ∧ c = (cells.lookup n).getD 0)
  | [], _, _, _, h => .inl h
  | (m, k) :: r, acc, n, c, h => by
    unfold cloFrom at h
    split at h
    · rename_i hk
      have hk : k = .free := by simpa using hk
      rcases cloFrom_mem h with h | ⟨h1, h2⟩
      · rcases List.mem_cons.mp h with e | h
        · cases e; exact .inr ⟨hk ▸ List.mem_cons_self, rfl⟩
        · exact .inl h
      · exact .inr ⟨List.mem_cons_of_mem _ h1, h2⟩
    · rcases cloFrom_mem h with h | ⟨h1, h2⟩
      · exact .inl h
      · exact .inr ⟨List.mem_cons_of_mem _ h1, h2⟩
theorem cloFrom_acc {cells : List (Str × Addr)} : ∀ {names : List (Str × NameKind)} {acc : List (Str × Addr)} {p : Str × Addr}, p ∈ acc → p ∈ cloFrom cells names acc
  | [], _, _, h => h
  | (m, k) :: r, acc, p, h => by
    unfold cloFrom
    split
    · exact cloFrom_acc (List.mem_cons_of_mem _ h)
    · exact cloFrom_acc h
theorem cloFrom_has {cells : List (Str × Addr)} : ∀ {names : List (Str × NameKind)} {acc : List (Str × Addr)} {n : Str}, (n, .free) ∈ names → (n, (cells.lookup n).getD 0) ∈ cloFrom cells names acc
  | (m, k) :: r, acc, n, h => by
    unfold cloFrom
    rcases List.mem_cons.mp h with e | h
    · cases e
      exact cloFrom_acc List.mem_cons_self
    · split
      · exact cloFrom_has h
      · exact cloFrom_has h

theorem cells_mem : ∀ {names : List (Str × NameKind)} {h : Heap} {acc : List (Str × Addr)} {x : Str} {c : Addr}, (x, c) ∈ cellsFrom h.objs.size names acc →
    (x, c) ∈ acc ∨ ((x, .cell) ∈ names ∧ h.objs.size ≤ c ∧ CellAt (pushCells h names) c none)
  | [], _, _, _, _, h => .inl h
  | (n, k) :: r, h, acc, x, c, hm => by
    unfold cellsFrom at hm
    unfold pushCells
    split at hm
    · rename_i hk
      rw [if_pos hk]
      have hk : k = .cell := by simpa using hk
      rw [← Heap.size_push h { cls := .type "cell", data := .cell none }] at hm
      rcases cells_mem hm with hm | ⟨h1, h2, h3⟩
      · rcases List.mem_cons.mp hm with e | hm
        · cases e
          exact .inr ⟨hk ▸ List.mem_cons_self, Nat.le_refl _, _, pushCells_keeps r _ _ _ (Heap.get?_push_size _ rfl), rfl⟩
        · exact .inl hm
      · rw [Heap.size_push] at h2
        exact .inr ⟨List.mem_cons_of_mem _ h1, Nat.le_of_succ_le h2, h3⟩
    · rename_i hk
      rw [if_neg hk]
      rcases cells_mem hm with hm | ⟨h1, h2, h3⟩
      · exact .inl hm
      · exact .inr ⟨List.mem_cons_of_mem _ h1, h2, h3⟩
theorem cells_acc : ∀ {names : List (Str × NameKind)} {n : Nat} {acc : List (Str × Addr)} {p : Str × Addr}, p ∈ acc → p ∈ cellsFrom n names acc
  | [], _, _, _, h => h
  | (m, k) :: r, n, acc, p, h => by
    unfold cellsFrom
    split
    · exact cells_acc (List.mem_cons_of_mem _ h)
    · exact cells_acc h
theorem cells_has : ∀ {names : List (Str × NameKind)} {n : Nat} {acc : List (Str × Addr)} {x : Str}, (x, .cell) ∈ names → ∃ c, (x, c) ∈ cellsFrom n names acc
  | (m, k) :: r, n, acc, x, h => by
    unfold cellsFrom
    rcases List.mem_cons.mp h with e | h
    · cases e
      exact ⟨n, cells_acc List.mem_cons_self⟩
    · split
      · exact cells_has h
      · exact cells_has h
theorem cells_inj : ∀ {names : List (Str × NameKind)} {h : Heap} {acc : List (Str × Addr)} {x y : Str} {c : Addr}, (∀ p ∈ acc, p.2 < h.objs.size) → (∀ x y c, (x, c) ∈ acc → (y, c) ∈ acc → x = y) →
    (x, c) ∈ cellsFrom h.objs.size names acc → (y, c) ∈ cellsFrom h.objs.size names acc → x = y
  | [], _, _, _, _, _, _, hi, h1, h2 => hi _ _ _ h1 h2
  | (n, k) :: r, h, acc, x, y, c, hl, hi, h1, h2 => by
    unfold cellsFrom at h1 h2
    split at h1
    · rename_i hk
      rw [if_pos hk] at h2
      rw [← Heap.size_push h { cls := .type "cell", data := .cell none }] at h1 h2
      refine cells_inj (h := h.push _) (fun p hp => ?_) (fun x y c a b => ?_) h1 h2
      · rw [Heap.size_push]
        rcases List.mem_cons.mp hp with rfl | hp
        · exact Nat.lt_succ_self _
        · exact Nat.lt_succ_of_lt (hl p hp)
      · rcases List.mem_cons.mp a with e | a <;> rcases List.mem_cons.mp b with e' | b
        · cases e; cases e'; rfl
        · cases e; exact absurd (hl _ b) (Nat.lt_irrefl _)
        · cases e'; exact absurd (hl _ a) (Nat.lt_irrefl _)
        · exact hi _ _ _ a b
    · rename_i hk
      rw [if_neg hk] at h2
      exact cells_inj hl hi h1 h2

theorem newEnv_comp {M : Model} {A : Around} {E : Value → Shared → Prop} {s : Shared} {scope : Scope} {globals : Addr} {closure : List (Str × Addr)} {qual : Str} {func : Option Addr} {code : Value} {around : Env} {builtins : Addr} {Q : Env → Shared → Prop}
    (h : Q (newEnv scope s.heap.objs.size globals (cellsFrom (s.heap.objs.size + 1) scope.names closure) qual func code (some around) builtins)
      { s with heap := pushCells (s.heap.push { cls := .type "dict", data := .dict #[] }) scope.names }) :
    wpAny M A (newFunctionEnv scope globals closure [] qual func code (some around) builtins) Q E s := by
  simp only [newFunctionEnv, Option.isSome_some, if_true]
  refine wpAny_bind (wpAny_alloc ?_)
  refine wpAny_bind (wpAny_layCells _ (fun n k c => rfl) scope.names closure _ _ ?_)
  rw [show ({ s with heap := s.heap.push { cls := .type "dict", data := .dict #[] } } : Shared).heap.objs.size = s.heap.objs.size + 1 from Heap.size_push ..]
  rw [List.forIn_nil]
  exact wpAny_bind (wpAny_pure (wpAny_pure h))

/-- every name of the written scope, in the scope that runs -/
theorem lookup_relS {sc : Scope} : ∀ {names : List (Str × NameKind)} {x : Str} {k : NameKind},
    (names.map fun (n, k) => if (k == NameKind.free && sc.kind == .function && sc.names.lookup n == some .cell) then (n, NameKind.cell) else (n, k)).lookup x = some k →
    ∃ k', names.lookup x = some k' ∧ (k = k' ∨ (k' = .free ∧ k = .cell))
  | [], _, _, h => by simp at h
  | (n, k₀) :: r, x, k, h => by
    have ih := @lookup_relS sc r x k
    have h' : List.lookup x ((if (k₀ == NameKind.free && sc.kind == .function && sc.names.lookup n == some .cell) = true then (n, NameKind.cell) else (n, k₀)) :: (r.map _)) = some k := h
    cases hx : x == n with
    | true =>
      simp only [List.lookup_cons, hx]
      by_cases hc : (k₀ == NameKind.free && sc.kind == .function && sc.names.lookup n == some .cell) = true
      · rw [if_pos hc] at h'
        simp only [List.lookup_cons, hx] at h'
        cases h'
        simp only [Bool.and_eq_true, beq_iff_eq] at hc
        exact ⟨k₀, rfl, .inr ⟨hc.1.1, rfl⟩⟩
      · rw [if_neg hc] at h'
        simp only [List.lookup_cons, hx] at h'
        cases h'
        exact ⟨_, rfl, .inl rfl⟩
    | false =>
      simp only [List.lookup_cons, hx]
      by_cases hc : (k₀ == NameKind.free && sc.kind == .function && sc.names.lookup n == some .cell) = true
      · rw [if_pos hc] at h'
        simp only [List.lookup_cons, hx] at h'
        exact ih h'
      · rw [if_neg hc] at h'
        simp only [List.lookup_cons, hx] at h'
        exact ih h'
/-- the names of a comprehension's block: its own (with their places in N), or captured -/
structure BlkOk (N : List Str) (sc scope : Scope) (own : List (Str × Nat)) : Prop where
  kind : scope.kind = .function
  uniq : ∀ y ∈ scope.names, scope.names.lookup y.1 = some y.2
  ix : ∀ p ∈ own, N[p.2]? = some p.1
  free : ∀ y ∈ scope.names, y.2 = .free → sc.names.lookup y.1 = some .cell ∨ sc.names.lookup y.1 = some .free
  own : ∀ y ∈ scope.names, y.2 = .local ∨ y.2 = .cell → y.1 ∈ own.map (·.1) ∨ y.1 ∉ N
/-- the slots of the block's own names forgotten -/
def wipe (σ : St) : List Nat → St
  | [] => σ
  | v :: vs => (wipe σ vs).set v none
theorem wipe_length (σ : St) : ∀ vs : List Nat, (wipe σ vs).length = σ.length
  | [] => rfl
  | v :: vs => by unfold wipe; rw [List.length_set, wipe_length σ vs]
theorem wipe_some {σ : St} {i : Nat} {x : V} : ∀ {vs : List Nat}, (wipe σ vs)[i]? = some (some x) → σ[i]? = some (some x) ∧ i ∉ vs
  | [], h => ⟨h, by simp⟩
  | v :: vs, h => by
    unfold wipe at h
    by_cases hi : v = i
    · subst hi
      by_cases hv : v < (wipe σ vs).length
      · rw [List.getElem?_set_self hv] at h; cases h
      · rw [List.getElem?_eq_none (by simpa using hv)] at h; cases h
    · rw [List.getElem?_set_ne hi] at h
      obtain ⟨h1, h2⟩ := wipe_some h
      exact ⟨h1, by simp only [List.mem_cons, not_or]; exact ⟨fun e => hi e.symm, h2⟩⟩

/-- the context of a block that starts at s, its iterator's objects at fp -/
abbrev Cx.blk (X : Cx) (s : Shared) (H : Hp) (scope : Scope) (cenv : Env) (fp : List Addr) : Cx := { X with s_0 := s, H_0 := H, env := cenv, outer := X.stack, ex := fp, fn := fun x => scope.names.lookup x == some .cell, pn := [], xe := fun _ _ => False }
section
variable {X : Cx} {pins : List (Addr × Obj)} {σ : St} {H : Hp} {s : Shared}
theorem block_start {scope : Scope} {own : List (Str × Nat)} {fp : List Addr} (I : Inv X pins σ H s) (ok : BlkOk X.N X.env.scope scope own) (hN : X.N.Nodup) (hfp : ∀ b ∈ fp, FpOk X pins H b ∧ b < s.heap.objs.size) :
    Inv (X.blk s H scope (compEnvC scope (cellsFrom (s.heap.objs.size + 1) scope.names (cloFrom X.env.cells scope.names [])) s.heap.objs.size X.env) fp) [] (wipe σ (own.map (·.2))) H { s with heap := pushCells (s.heap.push { cls := .type "dict", data := .dict #[] }) scope.names } := by
  have hfree : ∀ y ∈ scope.names, y.2 = .free → ∃ c, X.env.cells.lookup y.1 = some c := fun y hy e => by
    rcases ok.free y hy e with k | k
    · exact I.ok.has _ (.inl k)
    · exact I.ok.has _ (.inr k)
  generalize hcenv : compEnvC scope (cellsFrom (s.heap.objs.size + 1) scope.names (cloFrom X.env.cells scope.names [])) s.heap.objs.size X.env = cenv
  have kp : ∀ b o, s.heap.get? b = some o → (pushCells (s.heap.push { cls := .type "dict", data := .dict #[] }) scope.names).get? b = some o := fun b o e => pushCells_keeps _ _ _ _ (Heap.get?_push_of_some _ e)
  have hL : cenv.locals = s.heap.objs.size := by rw [← hcenv]; rfl
  have hcl : cenv.cells = cellsFrom (s.heap.objs.size + 1) scope.names (cloFrom X.env.cells scope.names []) := by rw [← hcenv]; rfl
  have hsc : cenv.scope = relS scope X.env.scope := by rw [← hcenv]; rfl
  rw [← Heap.size_push s.heap { cls := .type "dict", data := .dict #[] }] at hcl
  have cm : ∀ {y c}, (y, c) ∈ cloFrom X.env.cells scope.names [] → X.env.cells.lookup y = some c ∧ c < s.heap.objs.size := fun {y c} hm => by
    rcases cloFrom_mem hm with hm | ⟨h1, rfl⟩
    · cases hm
    · obtain ⟨c, hc⟩ := hfree _ h1 rfl
      rw [hc]
      obtain ⟨w, z⟩ := I.cell _ _ hc
      exact ⟨rfl, z.lt⟩
  have mem : ∀ {y c}, cenv.cells.lookup y = some c → (X.env.cells.lookup y = some c ∧ c < s.heap.objs.size) ∨ (s.heap.objs.size + 1 ≤ c ∧ CellAt (pushCells (s.heap.push { cls := .type "dict", data := .dict #[] }) scope.names) c none) := fun {y c} e => by
    rw [hcl] at e
    rcases cells_mem (PySem.mem_of_lookup e) with hm | ⟨_, h2, h3⟩
    · exact .inl (cm hm)
    · rw [Heap.size_push] at h2; exact .inr ⟨h2, h3⟩
  have look : ∀ {y}, scope.names.lookup y = some .free → ∃ c, cenv.cells.lookup y = some c ∧ X.env.cells.lookup y = some c := fun {y} hl => by
    have hy : (y, NameKind.free) ∈ scope.names := PySem.mem_of_lookup hl
    obtain ⟨c', e'⟩ := mem_lookup (cells_acc (names := scope.names) (n := (s.heap.push { cls := .type "dict", data := .dict #[] }).objs.size) (cloFrom_has (cells := X.env.cells) (acc := []) hy))
    rw [← hcl] at e'
    refine ⟨c', e', ?_⟩
    rw [hcl] at e'
    rcases cells_mem (PySem.mem_of_lookup e') with hm | ⟨h1, _, _⟩
    · exact (cm hm).1
    · have := ok.uniq _ h1
      rw [hl] at this; cases this
  have okB : (X.blk s H scope cenv fp).Ok := by
    refine ⟨I.ok.mod, by show cenv.scope.kind = _; rw [hsc]; exact ok.kind, by show cenv.globals = _; rw [← hcenv]; exact I.ok.glob, by show cenv.builtins = _; rw [← hcenv]; exact I.ok.blt, by show s.heap.objs.size ≤ cenv.locals; rw [hL]; exact Nat.le_refl _,
      fun y z c e1 e2 => ?_, fun y hy => ?_, fun y c z e => ?_, I.ok.hd, I.ok.frames, .inl rfl, fun b hb => ⟨?_, fun y c e z => ?_⟩, I.bs, Nat.le_trans I.ok.bsz I.sz, fun b o e hb => ?_, fun b hb z => ?_, I.stack, I.stkFree⟩
    · have e1 : cenv.cells.lookup y = some c := e1
      have e2 : cenv.cells.lookup z = some c := e2
      rw [hcl] at e1 e2
      refine cells_inj (fun p hp => ?_) (fun y z c a b => I.ok.inj y z c (cm a).1 (cm b).1) (PySem.mem_of_lookup e1) (PySem.mem_of_lookup e2)
      rw [Heap.size_push]
      exact Nat.lt_succ_of_lt (cm (y := p.1) (c := p.2) hp).2
    · show ∃ c, cenv.cells.lookup y = some c
      have key : ∀ k, cenv.kindOf y = some k → (k = .cell ∨ k = .free) → ∃ c, cenv.cells.lookup y = some c := fun k hk hk' => by
        unfold Env.kindOf at hk
        rw [hsc] at hk
        obtain ⟨k', e, r⟩ := lookup_relS hk
        have : k' = .cell ∨ k' = .free := by
          rcases r with rfl | ⟨rfl, _⟩
          · exact hk'
          · exact .inr rfl
        rcases this with rfl | rfl
        · obtain ⟨c, hm⟩ := cells_has (n := (s.heap.push { cls := .type "dict", data := .dict #[] }).objs.size) (acc := cloFrom X.env.cells scope.names []) (PySem.mem_of_lookup e)
          obtain ⟨c', e'⟩ := mem_lookup hm
          exact ⟨c', by rw [hcl]; exact e'⟩
        · obtain ⟨c, h1, _⟩ := look e
          exact ⟨c, h1⟩
      rcases hy with hy | hy
      · exact key _ hy (.inl rfl)
      · exact key _ hy (.inr rfl)
    · have z : (scope.names.lookup y == some NameKind.cell) = true := z
      have z : scope.names.lookup y = some .cell := by simpa using z
      have e : cenv.cells.lookup y = some c := e
      rw [hcl] at e
      rcases cells_mem (PySem.mem_of_lookup e) with hm | ⟨_, h2, _⟩
      · rcases cloFrom_mem hm with hm | ⟨h1, _⟩
        · cases hm
        · have q := ok.uniq _ h1
          rw [z] at q; cases q
      · rw [Heap.size_push] at h2
        exact Nat.le_of_succ_le h2
    · show b ≠ cenv.locals
      rw [hL]; exact Nat.ne_of_lt (hfp b hb).2
    · have e : cenv.cells.lookup y = some c := e
      rcases mem e with ⟨h1, _⟩ | ⟨h1, _⟩
      · exact (hfp b hb).1.2.2.2.2.1 y c h1 z
      · have h2 : s.heap.objs.size + 1 ≤ b := by rw [← z]; exact h1
        exact absurd (Nat.lt_of_lt_of_le (hfp b hb).2 (Nat.le_of_succ_le h2)) (Nat.lt_irrefl _)
    · rcases (hfp b hb).1.2.2.2.1 with z | z
      · exact I.ok.noex b o e z
      · exact absurd (Nat.lt_of_lt_of_le (Heap.lt_size e) (Nat.le_trans I.ok.bsz z)) (Nat.lt_irrefl _)
    · rcases List.mem_cons.mp (I.stkSub b z) with z | z
      · exact (hfp b hb).1.2.1 z
      · exact (hfp b hb).1.2.2.1 z
  refine ⟨okB, rfl, I.bare, Un.kept kp, ⟨fun _ => none, ?_, fun i y av e1 e2 e3 => ?_⟩, fun y c e => ?_, ?_, fun y c e => ?_, fun p hp => ?_, I.hok.kept kp, by rw [wipe_length]; exact I.len⟩
  · show Heap.Ns _ cenv.locals _
    rw [hL]
    exact Heap.Ns.keeps (Heap.Ns.new ..) fun b o e => pushCells_keeps _ _ _ _ e
  · obtain ⟨e2, hne⟩ := wipe_some e2
    have hfr : scope.names.lookup y = some .free ∧ (cenv.kindOf y = some .cell ∨ cenv.kindOf y = some .free) := by
      have key : ∀ k, cenv.scope.names.lookup y = some k → k = .local ∨ k = .cell ∨ k = .free → scope.names.lookup y = some .free ∧ (cenv.kindOf y = some .cell ∨ cenv.kindOf y = some .free) := fun k hk hk' => by
        have hk0 := hk
        rw [hsc] at hk
        obtain ⟨k', e, r⟩ := lookup_relS hk
        have no : ¬ (k' = .local ∨ k' = .cell) := fun hh => by
          rcases ok.own _ (PySem.mem_of_lookup e) hh with e' | e'
          · obtain ⟨p, hp, hpy⟩ := List.mem_map.mp e'
            have e3 := ok.ix p hp
            have : p.1 = y := hpy
            rw [this] at e3
            exact hne (List.mem_map.mpr ⟨p, hp, nodup_ix hN e3 e1⟩)
          · exact e' (List.mem_of_getElem? e1)
        rcases r with rfl | ⟨rfl, rfl⟩
        · rcases hk' with rfl | rfl | rfl
          · exact absurd (.inl rfl) no
          · exact absurd (.inr rfl) no
          · exact ⟨e, .inr hk0⟩
        · exact ⟨e, .inl hk0⟩
      have e3 : Vis cenv.scope y := e3
      rcases e3 with e3 | e3 | e3
      · exact key _ e3 (.inl rfl)
      · exact key _ e3 (.inr (.inl rfl))
      · exact key _ e3 (.inr (.inr rfl))
    obtain ⟨m, hn, hl⟩ := I.loc
    have hvis : Vis X.env.scope y := (ok.free _ (PySem.mem_of_lookup hfr.1) rfl).elim (fun k => .inr (.inl k)) (fun k => .inr (.inr k))
    obtain ⟨w, r, q⟩ := hl i y av e1 e2 hvis
    refine ⟨w, r, .inr ⟨hfr.2, ?_⟩⟩
    obtain ⟨c, h1, h2⟩ := look hfr.1
    rcases q with ⟨k, _⟩ | ⟨_, c', e', z⟩
    · have k : X.env.scope.names.lookup y = some .local := k
      rcases ok.free _ (PySem.mem_of_lookup hfr.1) rfl with k' | k' <;> rw [show X.env.scope.names.lookup y = _ from k'] at k <;> cases k
    · rw [h2] at e'; cases e'
      exact ⟨c, h1, z.keeps kp⟩
  · have e : cenv.cells.lookup y = some c := e
    rcases mem e with ⟨h1, _⟩ | ⟨_, z⟩
    · obtain ⟨w, z⟩ := I.cell y c h1
      exact ⟨w, z.keeps kp⟩
    · exact ⟨_, z⟩
  · show H cenv.locals = none
    rw [hL]; exact I.hok.fresh (Nat.le_refl _)
  · have e : cenv.cells.lookup y = some c := e
    rcases mem e with ⟨h1, _⟩ | ⟨h1, _⟩
    · exact I.freeC y c h1
    · exact I.hok.fresh (Nat.le_of_succ_le h1)
  · exact absurd (show p ∈ ([] : List (Addr × Obj)) ++ [] from hp) (by simp)

/-- an item appended to a tracked list -/
theorem app_ok {E : Value → Shared → Prop} {D : Addr} {xs : List V} {y : V} {v : Value} {Q : Value → Shared → Prop} (I : Inv X pins σ H s) (hD : H D = some (.lst xs)) (hz : xs.length < sizeLine) (r : RelV y v)
    (h : ∀ s', Inv X pins σ (upd H D (.lst (xs ++ [y]))) s' → Q .none s') : wpAny (model X.prog X.w) X.A (call (.builtin "list.append") [.ref D, v]) Q E s := by
  obtain ⟨hz', its, n, ri, e⟩ := I.hok D _ hD
  have hl := ri.length
  refine append_at (hsz := by rw [List.size_toArray]; omega) e fun h' sb ho' => ?_
  refine h { s with heap := h' } (I.write (t' := s.toks) (by rw [hD]; trivial) (.inl rfl) (fun b u hb q => (sb.2 b hb).trans q) ⟨_, ho'⟩ ⟨by rw [List.length_append]; exact hz, its ++ [v], n + 1, ri.append (.cons r .nil), ?_⟩)
  rw [ho']
  simp

/-- a clause's tests -/
def PTs (X : Cx) (ifs : List Expr) (t : TT) : Prop :=
  ∀ (pins : List (Addr × Obj)) (s : Shared) (σ : St) (H : Hp) (Q : Bool → Hp → Prop), Inv X pins σ H s → t σ H Q →
    wpAny (model X.prog X.w) X.A (forIn ifs true fun c r => if r = true then do let ok ← isTrue c X.env (eval c X.env); pure (ForInStep.yield ok) else pure (ForInStep.yield r)) (TP X pins σ Q) X.xe s
def tYes : TT := fun _ H Q => Q true H
theorem pts_nil : PTs X [] tYes := fun _ _ _ H _ I h => wpAny_tests_nil ⟨H, I, h⟩
theorem pts_one {c : Expr} {t : TT} (h : PT X c t) : PTs X [c] t := fun pins s σ H Q I hw => wpAny_tests_one (h pins s σ H Q I hw)
end

theorem thnF {α : Type} {t : Sem α} {Q Q' : α → Shared → Prop} {M : Model} {A : Around} {E : Value → Shared → Prop} {s : Shared} (h : wpAny M A t Q (fun _ _ => False) s) (hQ : ∀ a s, Q a s → Q' a s) : wpAny M A t Q' E s := wpAny_mono h hQ fun _ _ z => False.elim z

/-- the loop of a list comprehension's block, the target of any form (codeAny_compLoop_tests asks a target that no tuple goes to; statement and proof follow it, PyProof/CompMap.lean:41-61, with the step letOwnedTupleGo kept) -/
theorem compLoop_any {prog : Program} {w : World} {A : Around} {R : Result → Shared → Prop} {s : Shared} {elt target iter : Expr} {ifs : List Expr} {scope : Scope} {pos : Pos} {it acc : Value} {env : Env} (I : Nat → Shared → Prop)
    (turn : ∀ n s, I n s → wpAny (model prog w) A (pyNext it) (fun r s₁ => match r with
      | none => R (.ok .next) s₁
      | some v => wpAny (model prog w) A (letOwnedTupleGo target it v) (fun _ s₁' => wpAny (model prog w) A (assign target env v) (fun _ s₂ =>
          wpAny (model prog w) A (forIn ifs true fun c r => if r = true then do let ok ← isTrue c env (eval c env); pure (ForInStep.yield ok) else pure (ForInStep.yield r)) (fun ok s₃ =>
            if ok = true then wpAny (model prog w) A (eval elt env) (fun x s₄ =>
              wpAny (model prog w) A (call (.builtin "list.append") [acc, x]) (fun _ s₅ => ∃ m, m < n ∧ I m s₅) (notedBy (model prog w) A env fun e s' => R (.error e) s') s₄) (notedBy (model prog w) A env fun e s' => R (.error e) s') s₃
            else ∃ m, m < n ∧ I m s₃) (notedBy (model prog w) A env fun e s' => R (.error e) s') s₂) (notedBy (model prog w) A env fun e s' => R (.error e) s') s₁') (notedBy (model prog w) A env fun e s' => R (.error e) s') s₁) (notedBy (model prog w) A env fun e s' => R (.error e) s') s)
    (n : Nat) (h : I n s) :
    codeAny (model prog w) A (.compLoop (.ListComp elt [⟨target, iter, ifs, 0⟩] scope pos) 0 it acc env) R s := by
  refine codeAny_loop rfl I (fun n s hI => ?_) n h
  show wpAny _ A ((compTurn (.ListComp elt [⟨target, iter, ifs, 0⟩] scope pos) 0 it acc env).onRaise (fun x => do noteFrame x env; theTreesLotGoes x)) _ _ s
  refine wpAny_noted ?_
  rw [compTurn_list]
  refine wpAny_bind (wpAny_standAt (wpAny_bind (wpAny_mono (turn n s hI) (fun r s₁ h₁ => ?_) fun _ _ h' => h')))
  cases r with
  | none => exact wpAny_pure h₁
  | some v =>
    refine wpAny_bind (wpAny_mono h₁ (fun _ s₁' h₁' => ?_) fun _ _ h' => h')
    refine wpAny_bind (wpAny_mono h₁' (fun _ s₂ h₂ => wpAny_bind (wpAny_mono h₂ (fun ok s₃ h₃ => ?_) fun _ _ h' => h')) fun _ _ h' => h')
    cases ok with
    | false => exact wpAny_pure ⟨rfl, h₃⟩
    | true =>
      exact wpAny_bind (wpAny_bind (wpAny_mono h₃ (fun x s₄ h₄ => wpAny_bind (wpAny_mono h₄ (fun _ s₅ h₅ => wpAny_pure (wpAny_pure ⟨rfl, h₅⟩)) fun _ _ h' => h')) fun _ _ h' => h'))

section
variable {X : Cx}
/-- [elt for target in iter if ..]: D the new list; W by the turn and a measure, Nx what a turn is to reach -/
def tLc (wi : TI) (g : TG) (tt : TT) (te : TE) (vs : List Nat) : TE := fun σ H Q => wi σ H fun J H1 => ∀ D, H1 D = none → ∃ W : Nat → Nat → Hp → Prop, (∃ m, W 0 m (upd H1 D (.lst []))) ∧ ∀ i m H, W i m H →
  (J.stop i H ∧ Q (.ref D) H) ∨ (J.go i H ∧ ∃ Nx : Hp → Prop, (∀ H', Nx H' → ∃ m', m' < m ∧ W (i + 1) m' H') ∧ ∀ x H', J.yld i H x H' → g x (wipe σ vs) H' fun σ2 H2 => wipe σ2 vs = wipe σ vs ∧ tt σ2 H2 fun b H3 =>
    if b = true then te σ2 H3 fun y H4 => ∃ acc, H4 D = some (.lst acc) ∧ acc.length < sizeLine ∧ Nx (upd H4 D (.lst (acc ++ [y]))) else Nx H3)
theorem lc_core {pins : List (Addr × Obj)} {s : Shared} {σ : St} {H : Hp} {Q : VK} {elt tg iter : Expr} {ifs : List Expr} {scope : Scope} {own : List (Str × Nat)} {pos pos' : Pos} {wi : TI} {g : TG} {tt : TT} {te : TE} {use : Option (Value → Sem Unit)} {Qf : Value → Shared → Prop}
    (hc : X.calm = true) (hN : X.N.Nodup) (I : Inv X pins σ H s) (hi : PI X tg iter wi) (ok : BlkOk X.N X.env.scope scope own)
    (hg : ∀ (s : Shared) (H : Hp) (C : Addr) (cl : List (Str × Addr)) (fp : List Addr), PG (X.blk s H scope (compEnvC scope cl C X.env) fp) tg g) (ht : ∀ (s : Shared) (H : Hp) (C : Addr) (cl : List (Str × Addr)) (fp : List Addr), PTs (X.blk s H scope (compEnvC scope cl C X.env) fp) ifs tt)
    (he : ∀ (s : Shared) (H : Hp) (C : Addr) (cl : List (Str × Addr)) (fp : List Addr), PE (X.blk s H scope (compEnvC scope cl C X.env) fp) elt te) (hs : ∀ x, foldedSetIterable iter X.env x = pure x)
    (h : tLc wi g tt te (own.map (·.2)) σ H Q)
    (hRR : ∀ D C s' m H', Inv X pins σ H' s' → Q (.ref D) H' → s'.heap.Ns C m → FpOk X pins H' C → compPost (model X.prog X.w) X.A X.xe use Qf (.ref D) C (.ok .next) s') :
    wpAny (model X.prog X.w) X.A (comprehension (.ListComp elt [⟨tg, iter, ifs, 0⟩] scope pos) scope X.env pos' (newList []) false (eval iter X.env) use) Qf X.xe s := by
  have hfree : ∀ y ∈ scope.names, y.2 = .free → ∃ c, X.env.cells.lookup y.1 = some c := fun y hy e => by
    rcases ok.free y hy e with k | k
    · exact I.ok.has _ (.inl k)
    · exact I.ok.has _ (.inr k)
  refine wpAny_comprehension_free (use := use) rfl hs (closure_ok hfree) ok.kind (fun y hy e => by rw [ok.uniq y hy, e])
    (thn (hi pins s σ H _ I h) fun xv s1 hx => thn hx fun itv s2 h2 => ?_)
  obtain ⟨it, fp, tn, J, H2, e, I2, T, st2, f2, q⟩ := h2
  subst e
  refine wpAny_newObj_type (newEnv_comp ?_) (by show 0 ≤ sizeLine; decide)
  generalize hD : s2.heap.objs.size = D
  have hDn : H2 D = none := I2.hok.fresh (Nat.le_of_eq hD)
  obtain ⟨W, ⟨m0, w0⟩, turn⟩ := q D hDn
  -- the new list
  generalize hs3 : ({ s2 with heap := s2.heap.push { cls := .type "list", data := .seq ([] : List Value).toArray } } : Shared) = s3
  have I3 : Inv X pins σ (upd H2 D (.lst [])) s3 := by
    rw [← hs3]
    refine I2.laid (t' := s2.toks) (fun b o e => Heap.get?_push_of_some _ e) (Nat.le_of_eq hD) ⟨Nat.zero_le _, [], 0, .nil, ?_⟩
    rw [← hD]
    exact Heap.get?_push_size _ rfl
  have h3 : s3.heap = s2.heap.push { cls := .type "list", data := .seq ([] : List Value).toArray } := by rw [← hs3]
  have sz : ∀ b ∈ fp, b < s2.heap.objs.size := fun b hb => by
    obtain ⟨o, e, _⟩ := T.obj _ _ st2 b hb
    exact Heap.lt_size e
  have f3 : ∀ b ∈ fp, FpOk X pins (upd H2 D (.lst [])) b ∧ b < s3.heap.objs.size := fun b hb => by
    have hlt := sz b hb
    refine ⟨⟨?_, (f2 b hb).2⟩, by rw [h3, Heap.size_push]; exact Nat.lt_succ_of_lt hlt⟩
    rw [upd_ne (by rw [← hD]; exact Nat.ne_of_lt hlt)]
    exact (f2 b hb).1
  have st3 : tn 0 s3.heap := T.keep _ _ _ st2 fun b _ o e => by rw [h3]; exact Heap.get?_push_of_some _ e
  have I4 := block_start I3 ok hN f3
  have pg := hg s3 (upd H2 D (.lst [])) s3.heap.objs.size (cellsFrom (s3.heap.objs.size + 1) scope.names (cloFrom X.env.cells scope.names [])) fp
  have pt := ht s3 (upd H2 D (.lst [])) s3.heap.objs.size (cellsFrom (s3.heap.objs.size + 1) scope.names (cloFrom X.env.cells scope.names [])) fp
  have pe := he s3 (upd H2 D (.lst [])) s3.heap.objs.size (cellsFrom (s3.heap.objs.size + 1) scope.names (cloFrom X.env.cells scope.names [])) fp
  show codeAny _ _ (.compStart (.ListComp elt [⟨tg, iter, ifs, 0⟩] scope pos) 0 (.ref it) (.ref D) (compEnvC scope (cellsFrom (s3.heap.objs.size + 1) scope.names (cloFrom X.env.cells scope.names [])) s3.heap.objs.size X.env)) (compPost (model X.prog X.w) X.A X.xe use Qf (.ref D) s3.heap.objs.size) { s3 with heap := pushCells (s3.heap.push { cls := .type "dict", data := .dict #[] }) scope.names }
  have nfp : ∀ b ∈ fp, (upd H2 D (.lst [])) b = none := fun b hb => (f3 b hb).1.1
  generalize hce : compEnvC scope (cellsFrom (s3.heap.objs.size + 1) scope.names (cloFrom X.env.cells scope.names [])) s3.heap.objs.size X.env = ce at I4 pg pt pe ⊢
  have cL : ce.locals = s3.heap.objs.size := by subst hce; rfl
  generalize hH3 : upd H2 D (.lst []) = H3 at I3 I4 pg pt pe w0 nfp f3
  generalize hs4 : ({ s3 with heap := pushCells (s3.heap.push { cls := .type "dict", data := .dict #[] }) scope.names } : Shared) = s4 at I4 ⊢
  have st4 : tn 0 s4.heap := T.keep _ _ _ st3 fun b _ o e => by rw [← hs4]; exact pushCells_keeps _ _ _ _ (Heap.get?_push_of_some _ e)
  have stat : ∀ {σ' : St} {H' : Hp} {s' : Shared}, Inv (X.blk s3 H3 scope ce fp) [] σ' H' s' → (∀ b ∈ fp, H' b = none) → ∀ b ∈ fp, FpOk (X.blk s3 H3 scope ce fp) [] H' b := fun {σ' H' s'} I' hn b hb =>
    ⟨hn b hb, (I'.ok.exf b hb).1, I'.ok.exfs b hb, .inl hb, fun x c e => (I'.ok.exf b hb).2 x c e, fun p hp => absurd (show p ∈ ([] : List (Addr × Obj)) ++ [] from hp) (by simp)⟩
  have loop : codeAny (model X.prog X.w) X.A (.compLoop (.ListComp elt [⟨tg, iter, ifs, 0⟩] scope pos) 0 (.ref it) (.ref D) ce) (compPost (model X.prog X.w) X.A X.xe use Qf (.ref D) s3.heap.objs.size) s4 := by
    refine compLoop_any (fun n s' => ∃ i H', Inv (X.blk s3 H3 scope ce fp) [] (wipe σ (own.map (·.2))) H' s' ∧ tn i s'.heap ∧ (∀ b ∈ fp, H' b = none) ∧ W i n H') ?_ m0 ⟨0, H3, I4, st4, nfp, w0⟩
    rintro n s5 ⟨i, H5, I5, st5, n5, w5⟩
    rcases turn i n H5 w5 with ⟨stop, qq⟩ | ⟨go, Nx, hNx, step⟩
    · have td := T.done (X.blk s3 H3 scope ce fp) rfl rfl rfl hc i [] s5 _ H5 (fun _ _ => False) I5 (stat I5 n5) st5 stop
      refine thnF td fun r s6 ⟨hr, I6⟩ => ?_
      subst hr
      -- back in the def's context
      have I7 : Inv X pins σ H5 s6 := I3.call' (ch := fp) I6.os I6.base I6.hok I6.bare fun b hb => ⟨(f3 b hb).1.2.2.2.1, (f3 b hb).1.2.1, (f3 b hb).1.2.2.2.2.1, (f3 b hb).1.2.2.2.2.2⟩
      have nC : H5 s3.heap.objs.size = none := by
        have z : H5 ce.locals = none := I6.free
        rw [cL] at z
        exact z
      obtain ⟨m, hn, _⟩ := I6.loc
      have hn : s6.heap.Ns ce.locals m := hn
      rw [cL] at hn
      exact hRR D s3.heap.objs.size s6 m H5 I7 qq hn (I3.fpOk (Nat.le_refl _) nC)
    · have ti := T.item (X.blk s3 H3 scope ce fp) rfl rfl rfl hc i [] s5 _ H5 (fun _ _ => False) I5 (stat I5 n5) st5 go
      refine thnF ti fun r s6 ⟨u, hr, h6⟩ => ?_
      subst hr
      refine thnF h6 fun _ s7 ⟨x, H7, I7, r7, y7, st7, n7⟩ => ?_
      have I7' := I7.pinned (stat I7 n7) (T.obj _ _ st7)
      refine thnF (pg _ s7 _ H7 x u _ I7' r7 (step x H7 y7)) fun _ s8 ⟨σ8, H8, I8, hw8, q8⟩ => ?_
      refine thnF (pt _ s8 σ8 H8 _ I8 q8) fun b s9 ⟨H9, I9, q9⟩ => ?_
      -- the turn's end
      have fin : ∀ {s' : Shared} {H' : Hp}, Inv (X.blk s3 H3 scope ce fp) ([] ++ pinsAt fp s7.heap) σ8 H' s' → Nx H' → ∃ m, m < n ∧ ∃ i H', Inv (X.blk s3 H3 scope ce fp) [] (wipe σ (own.map (·.2))) H' s' ∧ tn i s'.heap ∧ (∀ b ∈ fp, H' b = none) ∧ W i m H' := fun {s' H'} I' nx => by
        obtain ⟨m', hm, w'⟩ := hNx H' nx
        have pin' : ∀ b ∈ fp, ∀ o, s7.heap.get? b = some o → s'.heap.get? b = some o ∧ H' b = none := fun b hb o e =>
          let z := I'.pin (b, o) (List.mem_append_right _ (List.mem_append_right _ (mem_pinsAt hb e)))
          ⟨z.1, z.2.1⟩
        have hl : (wipe σ (own.map (·.2))).length = σ8.length := by rw [← hw8, wipe_length]
        refine ⟨m', hm, i + 1, H', (I'.unpinned (pins := [])).weak hl (fun j v e => ?_), T.keep _ _ _ st7 fun b hb o e => (pin' b hb o e).1, fun b hb => ?_, w'⟩
        · rw [← hw8] at e
          exact (wipe_some e).1
        · obtain ⟨o, e, _⟩ := T.obj _ _ st7 b hb
          exact (pin' b hb o e).2
      cases b with
      | false =>
        simp only [Bool.false_eq_true, if_false] at q9 ⊢
        exact fin I9 q9
      | true =>
        simp only [if_true] at q9 ⊢
        refine thnF (pe _ s9 σ8 H9 _ I9 q9) fun z s10 ⟨yv, H10, I10, r10, acc, hD10, hz10, nx⟩ => ?_
        exact app_ok (X := X.blk s3 H3 scope ce fp) I10 hD10 hz10 r10 fun s11 I11 => fin I11 nx
  exact codeAny_compStart_list loop (T.self X.A 0 _ _ _ st4 loop)
/-- as a value -/
theorem pe_lc {elt tg iter : Expr} {ifs : List Expr} {scope : Scope} {own : List (Str × Nat)} {pos : Pos} {wi : TI} {g : TG} {tt : TT} {te : TE} (hc : X.calm = true) (hN : X.N.Nodup) (hi : PI X tg iter wi) (ok : BlkOk X.N X.env.scope scope own)
    (hg : ∀ (s : Shared) (H : Hp) (C : Addr) (cl : List (Str × Addr)) (fp : List Addr), PG (X.blk s H scope (compEnvC scope cl C X.env) fp) tg g) (ht : ∀ (s : Shared) (H : Hp) (C : Addr) (cl : List (Str × Addr)) (fp : List Addr), PTs (X.blk s H scope (compEnvC scope cl C X.env) fp) ifs tt)
    (he : ∀ (s : Shared) (H : Hp) (C : Addr) (cl : List (Str × Addr)) (fp : List Addr), PE (X.blk s H scope (compEnvC scope cl C X.env) fp) elt te) (hs : ∀ x, foldedSetIterable iter X.env x = pure x := by intro _; rfl) :
    PE X (.ListComp elt [⟨tg, iter, ifs, 0⟩] scope pos) (tLc wi g tt te (own.map (·.2))) := by
  intro pins s σ H Q I h
  rw [eval_ListComp]
  refine lc_core hc hN I hi ok hg ht he hs h fun D C s' m H' I' q hn f => ⟨m, hn, fun h'' sb => ?_⟩
  obtain ⟨f0, f1, f2, f3, f4, f5⟩ := f
  exact ⟨.ref D, H', I'.turned (t' := s'.toks) (fun b o hb e => (sb.2 b hb).trans e) f0 f1 f3 f4 f5, rfl, q⟩
/-- name = [..] on one line, the name a local -/
theorem ps_setLc {i : Nat} {y : Str} {py : Pos} {elt tg iter : Expr} {ifs : List Expr} {scope : Scope} {own : List (Str × Nat)} {pos spos : Pos} {wi : TI} {g : TG} {tt : TT} {te : TE} (hc : X.calm = true) (hN : X.N.Nodup) (hy : X.N[i]? = some y) (hyl : X.env.scope.names.lookup y = some .local)
    (hsw : swapsWith (.ListComp elt [⟨tg, iter, ifs, 0⟩] scope pos) (some (.Name y py)) spos.line X.env = pure true) (hi : PI X tg iter wi) (ok : BlkOk X.N X.env.scope scope own)
    (hg : ∀ (s : Shared) (H : Hp) (C : Addr) (cl : List (Str × Addr)) (fp : List Addr), PG (X.blk s H scope (compEnvC scope cl C X.env) fp) tg g) (ht : ∀ (s : Shared) (H : Hp) (C : Addr) (cl : List (Str × Addr)) (fp : List Addr), PTs (X.blk s H scope (compEnvC scope cl C X.env) fp) ifs tt)
    (he : ∀ (s : Shared) (H : Hp) (C : Addr) (cl : List (Str × Addr)) (fp : List Addr), PE (X.blk s H scope (compEnvC scope cl C X.env) fp) elt te) (hs : ∀ x, foldedSetIterable iter X.env x = pure x := by intro _; rfl) :
    PS X (.Assign [.Name y py] (.ListComp elt [⟨tg, iter, ifs, 0⟩] scope pos) spos) (tAsg (tLc wi g tt te (own.map (·.2))) (gName i)) := by
  intro pins s σ H D I h
  rw [exec_Assign_Name_used _ _ _ _ hsw]
  refine wpAny_bind (wpAny_standAt (wpAny_bind ?_))
  show wpAny _ X.A (do let _ ← comprehension (.ListComp elt [⟨tg, iter, ifs, 0⟩] scope pos) scope X.env (firstIterPos [⟨tg, iter, ifs, 0⟩] pos) (newList []) false (eval iter X.env) (some (assign (.Name y py) X.env))) _ _ s
  have h : tLc wi g tt te (own.map (·.2)) σ H (fun x H1 => gName i x σ H1 D.nx) := h
  refine wpAny_bind (thn (lc_core (Qf := fun _ s' => SP X pins D .next s') hc hN I hi ok hg ht he hs h fun L C s' m H' I' q hn f => ?_) fun _ s' hq => wpAny_pure (wpAny_pure hq))
  show wpAny _ _ (assign (.Name y py) X.env (.ref L)) _ _ _
  refine wpAny_assign_Name (store_ok2 (v := V.ref L) I' hN hy (.inl hyl) rfl (fun s2 I2 ⟨a, sb, ha⟩ => ?_) (.inr hyl))
  obtain ⟨f0, f1, f2, f3, f4, f5⟩ := f
  have haC : C ≠ a := by
    rcases ha with z | z
    · rw [z]; exact f1
    · exact fun e => f4 y a z e.symm
  refine ⟨m, hn.sameBut sb haC, fun h3 sb3 => ?_⟩
  exact ⟨_, H', I2.turned (t' := s2.toks) (fun b o hb e => (sb3.2 b hb).trans e) f0 f1 f3 f4 f5, q⟩
theorem sw_true {elt : Expr} {gs : List Comprehension} {scope : Scope} {pos py : Pos} {y : Str} {l : Nat} {env : Env} (hk : env.scope.kind = .function) (hy : env.scope.names.lookup y = some .local) (hl : (py.line == pos.line) = true)
    (ha : (scope.names.any fun (n, k) => n == y && (k == .local || k == .cell)) = false) : swapsWith (.ListComp elt gs scope pos) (some (.Name y py)) l env = pure true := by
  have ky : env.kindOf y = some .local := hy
  have hb : env.blockKind = .function := by unfold Env.blockKind; rw [hk]; rfl
  unfold swapsWith
  simp only [hb, ky, ha, Expr.pos, hl]
  rfl
end

/-- over a range: Pv by the turn and the heap (the new list at D within) -/
theorem lc_range {lo : Int} {n : Nat} {g : TG} {tt : TT} {te : TE} {vs : List Nat} {σ : St} {H1 : Hp} {D : Addr} {Qd : Hp → Prop} (Pv : Nat → Hp → Prop) (h0 : Pv 0 (upd H1 D (.lst [])))
    (hs : ∀ i H, i < n → Pv i H → g (.int (lo + i)) (wipe σ vs) H fun σ2 H2 => wipe σ2 vs = wipe σ vs ∧ tt σ2 H2 fun b H3 =>
      if b = true then te σ2 H3 fun y H4 => ∃ acc, H4 D = some (.lst acc) ∧ acc.length < sizeLine ∧ Pv (i + 1) (upd H4 D (.lst (acc ++ [y]))) else Pv (i + 1) H3) (hd : ∀ H, Pv n H → Qd H) :
    ∃ W : Nat → Nat → Hp → Prop, (∃ m, W 0 m (upd H1 D (.lst []))) ∧ ∀ i m H, W i m H →
      ((Itr lo n).stop i H ∧ Qd H) ∨ ((Itr lo n).go i H ∧ ∃ Nx : Hp → Prop, (∀ H', Nx H' → ∃ m', m' < m ∧ W (i + 1) m' H') ∧ ∀ x H', (Itr lo n).yld i H x H' → g x (wipe σ vs) H' fun σ2 H2 => wipe σ2 vs = wipe σ vs ∧ tt σ2 H2 fun b H3 =>
        if b = true then te σ2 H3 fun y H4 => ∃ acc, H4 D = some (.lst acc) ∧ acc.length < sizeLine ∧ Nx (upd H4 D (.lst (acc ++ [y]))) else Nx H3) := by
  refine ⟨fun i m H => m = n - i ∧ i ≤ n ∧ Pv i H, ⟨n, by simp, Nat.zero_le _, h0⟩, ?_⟩
  rintro i m H ⟨rfl, hi, p⟩
  by_cases hlt : i < n
  · refine .inr ⟨hlt, Pv (i + 1), fun H' p' => ⟨n - (i + 1), by omega, rfl, hlt, p'⟩, fun x H' y => ?_⟩
    obtain ⟨e, y⟩ := y
    subst e y
    exact hs i _ hlt p
  · have e : i = n := by omega
    subst e
    exact .inl ⟨Nat.le_refl _, hd H p⟩
def blkC (N : List Str) (sc scope : Scope) (own : List (Str × Nat)) : Bool :=
  (match scope.kind with | .function => true | _ => false) && (scope.names.all fun y => decide (scope.names.lookup y.1 = some y.2)) && (own.all fun p => decide (N[p.2]? = some p.1)) &&
    (scope.names.all fun y => match y.2 with
      | .free => (match sc.names.lookup y.1 with | some .cell => true | some .free => true | _ => false)
      | .local => decide (y.1 ∈ own.map (·.1)) || decide (y.1 ∉ N)
      | .cell => decide (y.1 ∈ own.map (·.1)) || decide (y.1 ∉ N)
      | _ => true)
theorem blkOk_by {N : List Str} {sc scope : Scope} {own : List (Str × Nat)} (h : blkC N sc scope own = true) : BlkOk N sc scope own := by
  unfold blkC at h
  simp only [Bool.and_eq_true, List.all_eq_true, decide_eq_true_eq] at h
  obtain ⟨⟨⟨h1, h2⟩, h3⟩, h4⟩ := h
  refine ⟨?_, h2, h3, fun y hy e => ?_, fun y hy e => ?_⟩
  · split at h1
    · assumption
    · cases h1
  · have q := h4 y hy
    simp only [e] at q
    split at q <;> first | exact .inl (by assumption) | exact .inr (by assumption) | cases q
  · have q := h4 y hy
    rcases e with e | e <;> (simp only [e, Bool.or_eq_true, decide_eq_true_eq] at q; exact q)
end L2

namespace L2
open PySem PySem.Spec PyProof.Rows

section
variable {prog : Program} {w : World} {A : Around} {R : Result → Shared → Prop} {s : Shared} {elt t0 i0 t1 i1 : Expr} {ifs0 ifs1 : List Expr} {scope : Scope} {pos : Pos} {it acc : Value} {env : Env}
end

section
variable {X : Cx}
end
end L2

namespace L2
open PySem PySem.Spec PyProof.Rows

section
variable {κ : Type} [DecidableEq κ]
end

section
variable {P : Program} {w : World} {H : Hp} {h : Heap} {a : Addr}
end

section
variable {X : Cx} {pins : List (Addr × Obj)} {σ : St} {H : Hp} {s : Shared} {a : Addr} {y v : V} {u r : Value} {o : Option V} {A : Around} {E : Value → Shared → Prop}

end

section
variable {X : Cx} {pins : List (Addr × Obj)} {σ : St} {H : Hp} {s : Shared} {a : Addr} {kvs : List (Key × V)} {k : Key} {u : Value} {A : Around} {E : Value → Shared → Prop}
end

section
variable {X : Cx} {o i e value : Expr} {pos pos' tpos : Pos} {td ty tv : TE}
end

section
variable {X : Cx} {pos : Pos}
end

section
variable {X : Cx} {pins : List (Addr × Obj)} {σ : St} {H : Hp} {s : Shared} {a : Addr} {y d : V} {u r : Value} {o : Option V} {A : Around} {E : Value → Shared → Prop}
end

section
variable {X : Cx} {o e f : Expr} {apos cpos : Pos} {td ty tx : TE}
end

section
variable {X : Cx} {pins : List (Addr × Obj)} {σ : St} {H : Hp} {s : Shared} {a : Addr} {kvs : List (Key × V)} {A : Around} {E : Value → Shared → Prop}
end

section
variable {X : Cx} {pins : List (Addr × Obj)} {σ : St} {H : Hp} {s : Shared} {a : Addr} {y : V} {u : Value} {A : Around} {E : Value → Shared → Prop}
end
end L2

namespace L2
open PySem PySem.Spec PyProof.Rows

section
variable {prog : Program} {w : World} {A : Around} {E : Value → Shared → Prop}
end

section
variable {X : Cx}
end
end L2

namespace L2
open PySem PySem.Spec PyProof.Rows

section
variable {X : Cx} {pins : List (Addr × Obj)} {σ : St} {H : Hp} {s : Shared} {h' : Heap}
end
section
variable {X : Cx}
end

section
variable {X : Cx} {tg : Expr}
end
section
variable {X : Cx} {tg : Expr}
end

section
variable {prog : Program} {w : World} {A : Around} {E : Value → Shared → Prop} {s : Shared}
end

section
variable {X : Cx} {pins : List (Addr × Obj)} {σ : St} {H : Hp} {s : Shared} {d : Addr} {o : Obj}
end

section
variable {P : Program} {w : World} {K : PySem.W.Frag} {tg : Expr} {d : Addr} {o : Obj} {es : Array DictEntry} {ep : Nat}
end

section
variable {X : Cx} {tg e : Expr} {td : TE} {apos cpos : Pos}
end

end L2

section 
namespace Bits
open PySem PyProof.Rows

end Bits
end 

section 
namespace TL
open PySem PySem.Builtin PySem.Builtin.Str PySem.StrLaws

end TL
end 

namespace L2
open PySem PySem.Spec PyProof.Rows

section
variable {X : Cx} {pins : List (Addr × Obj)} {σ : St} {H : Hp} {s : Shared} {Q : VK}
end

section
variable {X : Cx}

end

section
variable {X : Cx} {o e : Expr} {to te : TE}
end
end L2

namespace L2
open PySem PySem.Spec PyProof.Rows

section
variable {X : Cx}
end

end L2

namespace Att
open PySem PySem.W PySem.Calls PyProof.Rows

section
variable {prog : Program} {w : World} {A : Around} {E : Value → Shared → Prop} {s : Shared} {K : Frag}

end
end Att

namespace L2
open PySem PySem.Spec PyProof.Rows

end L2

namespace L2
open PySem PySem.Spec PyProof.Rows

abbrev KOf {K : PySem.W.Frag} {h : Heap} (_ : K.In h) : PySem.W.Frag := K

end L2

namespace L2
open PySem PySem.Spec PyProof.Rows

/-- the j-th statement of a class's body -/
def inClass (s : Stmt) (j : Nat) : Stmt := match s with
  | .ClassDef _ _ _ body _ _ _ _ _ _ _ => body.getD j (.Pass ⟨0, 0, 0, 0⟩)
  | _ => .Pass ⟨0, 0, 0, 0⟩
def defArgs (s : Stmt) : Arguments := match s with
  | .FunctionDef _ a _ _ _ _ _ _ _ _ => a
  | _ => { posonlyargs := [], args := [], vararg := none, kwonlyargs := [], kw_defaults := [], kwarg := none, defaults := [] }
def defBody (s : Stmt) : List Stmt := match s with
  | .FunctionDef _ _ b _ _ _ _ _ _ _ => b
  | _ => []
def defScope (s : Stmt) : Scope := match s with
  | .FunctionDef _ _ _ _ _ _ sc _ _ _ => sc
  | _ => { kind := .function, names := [], isGenerator := false, isCoroutine := false }

abbrev CX0 : CXT := fun _ _ _ _ _ _ => False
abbrev E0 : XK := fun _ _ _ => False
theorem pass0 {X : Cx} : Passes CX0 X E0 := fun _ _ _ _ _ _ _ h => h.elim

structure Fun (K : PySem.W.Frag) (x qual : Str) (st : Stmt) (f : Addr) (fd : FuncData) : Prop where
  ex : ∃ (oc : Value) (od : Option Addr) (kV doc pm : Value) (an : Option Addr) (cdv ct : Value) (osl : Array (Option Value)),
    fd = PySem.W.fnOf x qual (defArgs st) (defBody st) (defScope st) .none kV doc pm an cdv ct ∧ K.lookup f = some ⟨oc, od, .func fd, osl⟩ ∧ PySem.W.codeIn K cdv qual = true
  kp : PySem.W.keepIn K (.ref f) = true
section
variable {P : Program} {w : World} {K : PySem.W.Frag} {mg : Str → Option Value} {base : Heap}
/-- THE RULE for a def: its body as a term of rules, and the reading of that term -/
theorem Fun.ok {x qual : Str} {st : Stmt} {f : Addr} {fd : FuncData} {N ps : List Str} {k : Nat} {sp : Sp} (F : Fun K x qual st f fd) (S : FnScope N ps (defScope st)) (len : ∀ vs H Q E, sp vs H Q E → vs.length = ps.length)
    (hbody : ∀ (cdv : Value) (A : Around) (outer : List Env) (s : Shared) (H : Hp) (vs : List V) (Q : VK) (E : XK), Room k (A.deeper (envOfC qual (defScope st) s.heap.objs.size f cdv)) → sp vs H Q E →
      ∃ t, PSs (cxOf CX0 P w K mg base N qual (defScope st) f cdv A outer s H E).nox (defBody st) t ∧ t { nx := fun _ H' => Q .non H', rt := Q } (start N vs) H) : FnOk P w K mg base CX0 (k + 1) f fd ps sp := by
  obtain ⟨oc, od, kV, doc, pm, an, cdv, ct, osl, rfl, lk, hcd⟩ := F.ex
  refine fn_of lk hcd S len fun A outer s H vs Q E hr hsp => ?_
  obtain ⟨t, h, q⟩ := hbody cdv A outer s H vs Q E hr hsp
  exact ⟨t, h.nox, q⟩
/-- how its arguments bind (no defaults): h is «fun _ _ _ _ _ _ us hl => match us, hl with | [_, _], _ => rfl», one _ a parameter -/
theorem Fun.binds {x qual : Str} {st : Stmt} {f : Addr} {fd : FuncData} {ps : List Str} (F : Fun K x qual st f fd)
    (h : ∀ (kV doc pm : Value) (an : Option Addr) (cdv ct : Value) (us : List Value), us.length = ps.length → bindArgs (PySem.W.fnOf x qual (defArgs st) (defBody st) (defScope st) .none kV doc pm an cdv ct) ⟨us, []⟩ = pure (ps.zip us)) : Binds K fd ps [] := by
  obtain ⟨oc, od, kV, doc, pm, an, cdv, ct, osl, rfl, lk, hcd⟩ := F.ex
  exact .all (h kV doc pm an cdv ct)
theorem fun_mk {x qual : Str} {st : Stmt} {f : Addr} {oc : Value} {od an : Option Addr} {osl : Array (Option Value)} {kV doc pm cdv ct : Value} (l : K.lookup f = some ⟨oc, od, .func (PySem.W.fnOf x qual (defArgs st) (defBody st) (defScope st) .none kV doc pm an cdv ct), osl⟩)
    (c : PySem.W.codeIn K cdv qual = true) (k : PySem.W.keepIn K (.ref f) = true) : Fun K x qual st f (PySem.W.fnOf x qual (defArgs st) (defBody st) (defScope st) .none kV doc pm an cdv ct) := ⟨⟨oc, od, kV, doc, pm, an, cdv, ct, osl, rfl, l, c⟩, k⟩
end
section
variable {X : Cx}
theorem pv (i : Nat) {x : Str} {pos : Pos} (hN : X.N[i]? = some x := by rfl) (hv : Vis X.env.scope x := by first | exact Or.inl rfl | exact Or.inr (Or.inl rfl) | exact Or.inr (Or.inr rfl)) (hd : (x == ("__debug__" : Str)) = false := by decide)
    (hcd : (x == ("__classdict__" : Str)) = false := by decide) : PE X (.Name x pos) (tVar i) := pe_var hN hv hd hcd
end

theorem ite2 {c A B : Prop} [Decidable c] (h1 : c → A) (h2 : ¬ c → B) : if c then A else B := by
  by_cases h : c
  · rw [if_pos h]
    exact h1 h
  · rw [if_neg h]
    exact h2 h
/-- all that was tracked is as it was -/
def Same (H H' : Hp) : Prop := ∀ b o, H b = some o → H' b = some o
theorem Same.refl (H : Hp) : Same H H := fun _ _ h => h
theorem Same.trans {H H1 H2 : Hp} (a : Same H H1) (b : Same H1 H2) : Same H H2 := fun c o h => b c o (a c o h)
theorem Same.free {H H' : Hp} (e : Same H H') {l : Addr} (h : H' l = Option.none) : H l = Option.none := by
  cases q : H l with
  | none => rfl
  | some o =>
    rw [e l o q] at h
    cases h
theorem Same.seq {K : PySem.W.Frag} {H H' : Hp} {a : Addr} {xs : List V} (e : Same H H') (h : SqL K H a xs) : SqL K H' a xs := by
  rcases h with (h | ⟨o, h⟩) | h
  · exact .inl (.inl (e _ _ h))
  · exact .inl (.inr ⟨o, e _ _ h⟩)
  · exact .inr h

section
variable {κ : Type} [DecidableEq κ]
end
theorem at_of {xs : List V} {z : Int} {j : Nat} {v : V} (e : z = (j : Int)) (h : xs[j]? = some v) : atI xs z = some v := by
  rw [e]
  exact atI_nat h
/-- a new instance and its __init__ leave all that was tracked as it was -/
theorem Same.made {H H1 : Hp} {x dx C : Addr} (nx : H x = Option.none) (nd : H dx = Option.none) (k : ∀ b o, (upd (upd H dx (.own x)) x (.ins C dx [])) b = some o → b ≠ x → H1 b = some o) : Same H H1 := fun b o e =>
  k b o (by rw [upd_ne (ne_of_none e nx), upd_ne (ne_of_none e nd)]; exact e) (ne_of_none e nx)
end L2
end
section
section
set_option Elab.async false
set_option linter.all false
set_option maxRecDepth 100000
set_option maxHeartbeats 2000000
namespace L2
open PySem PySem.Spec PyProof.Rows
open PySem.W (WData Codec OpenSpec Well WellAll ReadsW ReadsAllW)
/-! ### an answer as data -/
mutual
/-- x stands for the datum d, lists and tuples all the way -/
inductive Dw (K : PySem.W.Frag) (H : Hp) : V → WData → Prop
  | non : Dw K H .non .none
  | bl (b : Bool) : Dw K H (.bl b) (.bool b)
  | int (i : Int) : Dw K H (.int i) (.int i)
  | str (x : Str) : Dw K H (.str x) (.str x)
  | byt (b : Array UInt8) : Dw K H (.byt b) (.bytes b.toList)
  | lst {a : Addr} {xs : List V} {ds : List WData} : SqL K H a xs → DwAll K H xs ds → Dw K H (.ref a) (.list ds)
  | tup {a : Addr} {xs : List V} {ds : List WData} : SqT K H a xs → DwAll K H xs ds → Dw K H (.ref a) (.tuple ds)
inductive DwAll (K : PySem.W.Frag) (H : Hp) : List V → List WData → Prop
  | nil : DwAll K H [] []
  | cons {v : V} {vs : List V} {d : WData} {ds : List WData} : Dw K H v d → DwAll K H vs ds → DwAll K H (v :: vs) (d :: ds)
end
theorem dw_ints {K : PySem.W.Frag} {H : Hp} : ∀ ns : List Int, DwAll K H (ns.map V.int) (ns.map WData.int)
  | [] => .nil
  | n :: r => .cons (.int n) (dw_ints r)
theorem ints_dw {K : PySem.W.Frag} {H : Hp} : ∀ (ns : List Int) (xs : List V), DwAll K H xs (ns.map WData.int) → xs = ns.map V.int
  | [], xs, h => by
    cases h
    rfl
  | n :: r, xs, h => by
    cases h with
    | cons h1 h2 =>
      cases h1
      rw [ints_dw r _ h2] <;> rfl
section
variable {P : Program} {w : World} {K : PySem.W.Frag} {H : Hp} {h : Heap} {R : PySem.W.WRecords} {cl : Str → Option Addr}
theorem sqL_at {a : Addr} {xs : List V} (hok : HOk P w H h) (KX : K.In h) (q : SqL K H a xs) : ∃ (its : List Value) (o : Obj) (n : Nat), Vals xs its ∧ h.get? a = some o ∧ o.cls = .type "list" ∧ o.data = .seq its.toArray n := by
  rcases q with q | ⟨o, its, n, e, hc, _, hd, _, hv⟩
  · obtain ⟨_, its, n, hv, e⟩ := (show ObjOk P w H h a (.lst xs) from q.ok hok)
    exact ⟨its, _, n, hv, e, rfl, rfl⟩
  · exact ⟨its.toList, o, n, hv, KX _ _ e, hc, by simp [hd]⟩
theorem sqT_at {a : Addr} {xs : List V} (hok : HOk P w H h) (KX : K.In h) (q : SqT K H a xs) : ∃ (its : List Value) (o : Obj) (n : Nat), Vals xs its ∧ h.get? a = some o ∧ o.cls = .type "tuple" ∧ o.data = .seq its.toArray n := by
  rcases q with q | ⟨o, its, n, e, hc, hd, _, hv⟩
  · obtain ⟨_, its, hv, o, e, hc, n, hd⟩ := (show ObjOk P w H h a (.tup xs) from q.ok hok)
    exact ⟨its, o, n, hv, e, hc, hd⟩
  · exact ⟨its.toList, o, n, hv, KX _ _ e, hc, by simp [hd]⟩
mutual
theorem Dw.reads (hok : HOk P w H h) (KX : K.In h) : ∀ (d : WData) (v : V) (u : Value), Dw K H v d → RelV v u → ∃ as, ReadsW R cl h u d as
  | .none, _, _, x, r => by
    cases x
    cases r
    exact ⟨_, ReadsW.none⟩
  | .bool b, _, _, x, r => by
    cases x
    cases r
    exact ⟨_, ReadsW.bool b⟩
  | .int i, _, _, x, r => by
    cases x
    obtain ⟨t, rfl⟩ := r
    exact ⟨_, ReadsW.int i t⟩
  | .str s, _, _, x, r => by
    cases x
    obtain ⟨t, rfl⟩ := r
    exact ⟨_, ReadsW.str s t⟩
  | .bytes b, _, _, x, r => by
    cases x
    obtain ⟨t, rfl⟩ := r
    exact ⟨_, ReadsW.bytes _ t⟩
  | .list ds, _, _, x, r => by
    cases x with
    | lst hs ha =>
      cases r
      obtain ⟨its, o, n, rv, ho, hc, hd⟩ := sqL_at hok KX hs
      obtain ⟨as, hr⟩ := Dw.readsAll hok KX ds _ its ha rv
      exact ⟨_, ReadsW.list ho hc hd hr⟩
  | .tuple ds, _, _, x, r => by
    cases x with
    | tup hs ha =>
      cases r
      obtain ⟨its, o, n, rv, ho, hc, hd⟩ := sqT_at hok KX hs
      obtain ⟨as, hr⟩ := Dw.readsAll hok KX ds _ its ha rv
      exact ⟨_, ReadsW.tuple ho hc hd hr⟩
  | .float _, _, _, x, _ => by cases x
  | .dict _, _, _, x, _ => by cases x
  | .bytearray _, _, _, x, _ => by cases x
  | .set _, _, _, x, _ => by cases x
  | .frozenset _, _, _, x, _ => by cases x
  | .obj _ _, _, _, x, _ => by cases x
theorem Dw.readsAll (hok : HOk P w H h) (KX : K.In h) : ∀ (ds : List WData) (vs : List V) (us : List Value), DwAll K H vs ds → Vals vs us → ∃ as, ReadsAllW R cl h us ds as
  | [], _, _, x, r => by
    cases x
    cases r
    exact ⟨_, ReadsAllW.nil⟩
  | d :: ds, _, _, x, r => by
    cases x with
    | cons h1 h2 =>
      cases r with
      | cons r1 r2 =>
        obtain ⟨as, q1⟩ := Dw.reads hok KX d _ _ h1 r1
        obtain ⟨bs, q2⟩ := Dw.readsAll hok KX ds _ _ h2 r2
        exact ⟨_, ReadsAllW.cons q1 q2⟩
end
end
/-! ### the arguments -/
mutual
/-- data that a codec tells -/
def plW : WData → Bool
  | .none => true
  | .bool _ => true
  | .int _ => true
  | .str _ => true
  | .bytes _ => true
  | .list xs => plWs xs
  | .tuple xs => plWs xs
  | _ => false
def plWs : List WData → Bool
  | [] => true
  | x :: r => plW x && plWs r
end
theorem plWs_map {α : Type} {f : α → WData} (h : ∀ a, plW (f a) = true) : ∀ l : List α, plWs (l.map f) = true
  | [] => rfl
  | x :: r => by
    show (plW (f x) && plWs (r.map f)) = true
    rw [h x, plWs_map h r] <;> rfl
theorem pl_enc : ∀ (c : Codec) (a : c.denote), plW (c.enc a) = true
  | .unit, _ => rfl
  | .bool, _ => rfl
  | .int _ _, _ => rfl
  | .nat _ _, _ => rfl
  | .u8, _ => rfl
  | .bytes _ _, _ => rfl
  | .text _ _ _ _, _ => rfl
  | .list _ _ c, a => plWs_map (fun x => pl_enc c x) a
  | .pair c d, a => by
    show (plW (c.enc a.1) && (plW (d.enc a.2) && true)) = true
    rw [pl_enc c a.1, pl_enc d a.2] <;> rfl
  | .triple c d e, a => by
    show (plW (c.enc a.1) && (plW (d.enc a.2.1) && (plW (e.enc a.2.2) && true))) = true
    rw [pl_enc c a.1, pl_enc d a.2.1, pl_enc e a.2.2] <;> rfl
  | .option c, none => rfl
  | .option c, some x => pl_enc c x
theorem pl_encAll : ∀ (cs : List Codec) (a : Codec.denoteAll cs), plWs (Codec.encAll cs a) = true
  | [], _ => rfl
  | c :: cs, a => by
    show (plW (c.enc a.1) && plWs (Codec.encAll cs a.2)) = true
    rw [pl_enc c a.1, pl_encAll cs a.2] <;> rfl
theorem weight_mem : ∀ {xs : List WData} {d : WData}, d ∈ xs → d.weight ≤ WData.weightAll xs
  | [], d, h => absurd h (by simp)
  | x :: r, d, h => by
    show d.weight ≤ x.weight + 1 + WData.weightAll r
    rcases List.mem_cons.mp h with e | m
    · rw [e]
      omega
    · have z := weight_mem m
      omega
def toV : Value → V
  | .none => .non
  | .bool b => .bl b
  | .int i _ => .int i
  | .str x _ => .str x
  | .bytes b _ => .byt b
  | .ref a => .ref a
  | _ => .non
/-- a value of the arguments, its objects among A -/
def OkU (A : List Addr) : Value → Prop
  | .none => True
  | .bool _ => True
  | .int _ _ => True
  | .str _ _ => True
  | .bytes _ _ => True
  | .ref a => a ∈ A
  | _ => False
theorem OkU.mono {A B : List Addr} (h : ∀ a ∈ A, a ∈ B) : ∀ {u : Value}, OkU A u → OkU B u := fun {u} x => by
  cases u with
  | ref a => exact h a x
  | none => trivial
  | bool b => trivial
  | int i t => trivial
  | str s t => trivial
  | bytes b t => trivial
  | _ => exact False.elim x
theorem relV_toV {A : List Addr} {u : Value} (x : OkU A u) : RelV (toV u) u := by
  cases u with
  | ref a => rfl
  | none => rfl
  | bool b => rfl
  | int i t => exact ⟨t, rfl⟩
  | str s t => exact ⟨t, rfl⟩
  | bytes b t => exact ⟨t, rfl⟩
  | _ => exact False.elim x
theorem vals_toV {A : List Addr} : ∀ {vs : List Value}, (∀ u ∈ vs, OkU A u) → Vals (vs.map toV) vs
  | [], _ => .nil
  | u :: r, h => .cons (relV_toV (h u (List.mem_cons_self ..))) (vals_toV fun x hx => h x (List.mem_cons_of_mem _ hx))
/-- an object of the arguments -/
def ArgOb (h : Heap) (A : List Addr) (a : Addr) : Prop := ∃ vs : List Value, vs.length ≤ sizeLine ∧ (∀ u ∈ vs, OkU A u) ∧
  (h.get? a = some { cls := .type "list", data := .seq vs.toArray } ∨ h.get? a = some { cls := .type "tuple", data := .seq vs.toArray })
theorem ArgOb.mono {h : Heap} {A B : List Addr} {a : Addr} (k : ∀ a ∈ A, a ∈ B) (x : ArgOb h A a) : ArgOb h B a := by
  obtain ⟨vs, h1, h2, h3⟩ := x
  exact ⟨vs, h1, fun u hu => (h2 u hu).mono k, h3⟩
theorem wellAll_len {P : Params} {h : Heap} : ∀ {vs : List Value} {ds : List WData}, WellAll P h vs ds → vs.length = ds.length
  | _, _, .nil => rfl
  | _, _, .cons _ b => by
    show _ + 1 = _ + 1
    rw [wellAll_len b]
theorem well_list {P : Params} {h : Heap} {v : Value} {ds : List WData} (x : Well P h v (.list ds)) : ∃ (a : Addr) (vs : List Value), v = .ref a ∧ h.get? a = some { cls := .type "list", data := .seq vs.toArray } ∧ WellAll P h vs ds := by
  cases x with
  | list ho hall => exact ⟨_, _, rfl, ho, hall⟩
theorem well_tuple {P : Params} {h : Heap} {v : Value} {ds : List WData} (x : Well P h v (.tuple ds)) : ∃ (a : Addr) (vs : List Value), v = .ref a ∧ h.get? a = some { cls := .type "tuple", data := .seq vs.toArray } ∧ WellAll P h vs ds := by
  cases x with
  | tuple ho hall => exact ⟨_, _, rfl, ho, hall⟩
theorem well_cons {P : Params} {h : Heap} {us : List Value} {d : WData} {ds : List WData} (x : WellAll P h us (d :: ds)) : ∃ (v : Value) (vs : List Value), us = v :: vs ∧ Well P h v d ∧ WellAll P h vs ds := by
  cases x with
  | cons a b => exact ⟨_, _, rfl, a, b⟩
theorem line_of {n : Nat} (h : n ≤ 1048576) : n ≤ sizeLine := Nat.le_trans h (by decide)
section
variable {P : Params} {h : Heap}
mutual
theorem area_one : ∀ (d : WData) (v : Value), Well P h v d → plW d = true → d.weight ≤ 1048576 → ∃ A : List Addr, OkU A v ∧ ∀ a ∈ A, ArgOb h A a
  | .none, _, x, _, _ => by
    cases x
    exact ⟨[], trivial, fun a m => absurd m (by simp)⟩
  | .bool b, _, x, _, _ => by
    cases x
    exact ⟨[], trivial, fun a m => absurd m (by simp)⟩
  | .int i, _, x, _, _ => by
    cases x
    exact ⟨[], trivial, fun a m => absurd m (by simp)⟩
  | .str s, _, x, _, _ => by
    cases x
    exact ⟨[], trivial, fun a m => absurd m (by simp)⟩
  | .bytes b, _, x, _, _ => by
    cases x
    exact ⟨[], trivial, fun a m => absurd m (by simp)⟩
  | .list ds, _, x, p, z => by
    obtain ⟨a, vs, rfl, ho, hall⟩ := well_list x
    have z2 : WData.weightAll ds ≤ 1048576 := z
    obtain ⟨A, h1, h2⟩ := area_all ds _ hall p fun d hd => Nat.le_trans (weight_mem hd) z2
    have k : ∀ b ∈ A, b ∈ a :: A := fun b hb => List.mem_cons_of_mem _ hb
    refine ⟨a :: A, List.mem_cons_self .., fun b hb => ?_⟩
    rcases List.mem_cons.mp hb with e | m
    · rw [e]
      exact ⟨vs, line_of (by rw [wellAll_len hall]; exact Nat.le_trans (PySem.W.length_le_weightAllW ds) z2), fun u hu => (h1 u hu).mono k, .inl ho⟩
    · exact (h2 b m).mono k
  | .tuple ds, _, x, p, z => by
    obtain ⟨a, vs, rfl, ho, hall⟩ := well_tuple x
    have z2 : WData.weightAll ds ≤ 1048576 := z
    obtain ⟨A, h1, h2⟩ := area_all ds _ hall p fun d hd => Nat.le_trans (weight_mem hd) z2
    have k : ∀ b ∈ A, b ∈ a :: A := fun b hb => List.mem_cons_of_mem _ hb
    refine ⟨a :: A, List.mem_cons_self .., fun b hb => ?_⟩
    rcases List.mem_cons.mp hb with e | m
    · rw [e]
      exact ⟨vs, line_of (by rw [wellAll_len hall]; exact Nat.le_trans (PySem.W.length_le_weightAllW ds) z2), fun u hu => (h1 u hu).mono k, .inr ho⟩
    · exact (h2 b m).mono k
  | .float _, _, _, p, _ => Bool.noConfusion (show false = true from p)
  | .dict _, _, _, p, _ => Bool.noConfusion (show false = true from p)
  | .bytearray _, _, _, p, _ => Bool.noConfusion (show false = true from p)
  | .set _, _, _, p, _ => Bool.noConfusion (show false = true from p)
  | .frozenset _, _, _, p, _ => Bool.noConfusion (show false = true from p)
  | .obj _ _, _, _, p, _ => Bool.noConfusion (show false = true from p)
theorem area_all : ∀ (ds : List WData) (vs : List Value), WellAll P h vs ds → plWs ds = true → (∀ d ∈ ds, d.weight ≤ 1048576) → ∃ A : List Addr, (∀ u ∈ vs, OkU A u) ∧ ∀ a ∈ A, ArgOb h A a
  | [], _, x, _, _ => by
    cases x
    exact ⟨[], fun u m => absurd m (by simp), fun a m => absurd m (by simp)⟩
  | d :: ds, _, x, p, z => by
    obtain ⟨v, vs, rfl, x1, x2⟩ := well_cons x
    have q : plW d = true ∧ plWs ds = true := Bool.and_eq_true_iff.mp p
    obtain ⟨A, a1, a2⟩ := area_one d v x1 q.1 (z d (List.mem_cons_self ..))
    obtain ⟨B, b1, b2⟩ := area_all ds vs x2 q.2 fun e he => z e (List.mem_cons_of_mem _ he)
    have kA : ∀ b ∈ A, b ∈ A ++ B := fun b hb => List.mem_append.mpr (.inl hb)
    have kB : ∀ b ∈ B, b ∈ A ++ B := fun b hb => List.mem_append.mpr (.inr hb)
    refine ⟨A ++ B, fun u hu => ?_, fun b hb => ?_⟩
    · rcases List.mem_cons.mp hu with e | m
      · rw [e]
        exact a1.mono kA
      · exact (b1 u m).mono kB
    · rcases List.mem_append.mp hb with m | m
      · exact (a2 b m).mono kA
      · exact (b2 b m).mono kB
end
end
/-- what is tracked of an argument's object -/
def hoOf (o : Obj) : Option HO := match o.data with
  | .seq vs _ => if (o.cls == Value.type "list") = true then some (.frz o (.lst (vs.toList.map toV))) else some (.frz o (.tup (vs.toList.map toV)))
  | _ => none
def argH (K : PySem.W.Frag) (h : Heap) (A : List Addr) : Hp := fun b => if b ∈ A then (if (K.lookup b).isNone = true then (h.get? b).bind hoOf else none) else none
/-- nothing is tracked but what is known to the object -/
def OnlyF (H : Hp) : Prop := ∀ b, H b = none ∨ ∃ o u, H b = some (.frz o u)
theorem hoOf_lst (vs : List Value) : hoOf { cls := .type "list", data := .seq vs.toArray } = some (.frz { cls := .type "list", data := .seq vs.toArray } (.lst (vs.map toV))) := by
  show (if (Value.type "list" == Value.type "list") = true then some (HO.frz { cls := .type "list", data := .seq vs.toArray } (.lst (vs.toArray.toList.map toV))) else some (HO.frz { cls := .type "list", data := .seq vs.toArray } (.tup (vs.toArray.toList.map toV)))) = _
  rw [if_pos (beq_self_eq_true _)]
theorem hoOf_tup (vs : List Value) : hoOf { cls := .type "tuple", data := .seq vs.toArray } = some (.frz { cls := .type "tuple", data := .seq vs.toArray } (.tup (vs.map toV))) := by
  show (if (Value.type "tuple" == Value.type "list") = true then some (HO.frz { cls := .type "tuple", data := .seq vs.toArray } (.lst (vs.toArray.toList.map toV))) else some (HO.frz { cls := .type "tuple", data := .seq vs.toArray } (.tup (vs.toArray.toList.map toV)))) = _
  rw [if_neg (by decide)]
section
variable {P : Program} {w : World} {K : PySem.W.Frag} {h : Heap} {A : List Addr}
theorem argH_at {b : Addr} {o : Obj} (hb : b ∈ A) (hk : K.lookup b = none) (e : h.get? b = some o) : argH K h A b = hoOf o := by
  unfold argH
  rw [if_pos hb, hk, if_pos (show (none : Option Obj).isNone = true from rfl), e] <;> rfl
theorem of_argH {b : Addr} {u : HO} (q : argH K h A b = some u) : b ∈ A ∧ K.lookup b = none := by
  unfold argH at q
  by_cases hb : b ∈ A
  · rw [if_pos hb] at q
    cases hk : K.lookup b with
    | none => exact ⟨hb, rfl⟩
    | some o =>
      rw [hk, if_neg (by simp)] at q
      cases q
  · rw [if_neg hb] at q
    cases q
/-- what stands tracked -/
theorem argH_is (ar : ∀ a ∈ A, ArgOb h A a) {b : Addr} {u : HO} (q : argH K h A b = some u) : K.lookup b = none ∧ ∃ vs : List Value, vs.length ≤ sizeLine ∧ (∀ u ∈ vs, OkU A u) ∧
    ((h.get? b = some { cls := .type "list", data := .seq vs.toArray } ∧ u = .frz { cls := .type "list", data := .seq vs.toArray } (.lst (vs.map toV))) ∨
     (h.get? b = some { cls := .type "tuple", data := .seq vs.toArray } ∧ u = .frz { cls := .type "tuple", data := .seq vs.toArray } (.tup (vs.map toV)))) := by
  obtain ⟨hb, hk⟩ := of_argH q
  obtain ⟨vs, h1, h2, h3⟩ := ar b hb
  refine ⟨hk, vs, h1, h2, ?_⟩
  rcases h3 with e | e
  · rw [argH_at hb hk e, hoOf_lst] at q
    exact .inl ⟨e, (Option.some.inj q).symm⟩
  · rw [argH_at hb hk e, hoOf_tup] at q
    exact .inr ⟨e, (Option.some.inj q).symm⟩
theorem argH_only (ar : ∀ a ∈ A, ArgOb h A a) : OnlyF (argH K h A) := fun b => by
  cases q : argH K h A b with
  | none => exact .inl rfl
  | some u =>
    obtain ⟨_, vs, _, _, ⟨_, e⟩ | ⟨_, e⟩⟩ := argH_is ar q
    · exact .inr ⟨_, _, by rw [e]⟩
    · exact .inr ⟨_, _, by rw [e]⟩
theorem argH_ok (ar : ∀ a ∈ A, ArgOb h A a) : HOk P w (argH K h A) h := fun b u q => by
  obtain ⟨_, vs, h1, h2, ⟨e, rfl⟩ | ⟨e, rfl⟩⟩ := argH_is ar q
  · exact ⟨e, by rw [List.length_map]; exact h1, vs, _, vals_toV h2, e⟩
  · exact ⟨e, by rw [List.length_map]; exact h1, vs, vals_toV h2, _, e, rfl, _, rfl⟩
theorem seq_inj {c c' : Value} {vs us : List Value} (e : (some { cls := c, data := .seq vs.toArray } : Option Obj) = some { cls := c', data := .seq us.toArray }) : c = c' ∧ vs = us := by
  have e1 := Option.some.inj e
  have e2 : c = c' := congrArg Obj.cls e1
  have e3 : Data.seq vs.toArray = Data.seq us.toArray := congrArg Obj.data e1
  injection e3 with e4
  refine ⟨e2, ?_⟩
  have e5 := congrArg Array.toList e4
  simpa using e5
/-- a list argument -/
theorem argL (KX : K.In h) (ar : ∀ a ∈ A, ArgOb h A a) {a : Addr} {vs : List Value} (ha : a ∈ A) (e : h.get? a = some { cls := .type "list", data := .seq vs.toArray }) : (∀ u ∈ vs, OkU A u) ∧ SqL K (argH K h A) a (vs.map toV) := by
  obtain ⟨us, h1, h2, h3⟩ := ar a ha
  have hu : us = vs := by
    rcases h3 with q | q
    · rw [e] at q
      exact (seq_inj q).2.symm
    · rw [e] at q
      exact absurd (Value.type.inj (seq_inj q).1) (by decide)
  subst hu
  refine ⟨h2, ?_⟩
  cases hk : K.lookup a with
  | none => exact .inl (.inr ⟨_, by rw [argH_at ha hk e, hoOf_lst]⟩)
  | some o =>
    have e2 := KX a o hk
    rw [e] at e2
    obtain rfl := Option.some.inj e2
    exact .inr ⟨_, us.toArray, _, hk, rfl, rfl, rfl, by rw [List.size_toArray]; exact h1, by simpa using vals_toV h2⟩
theorem argT (KX : K.In h) (ar : ∀ a ∈ A, ArgOb h A a) {a : Addr} {vs : List Value} (ha : a ∈ A) (e : h.get? a = some { cls := .type "tuple", data := .seq vs.toArray }) : (∀ u ∈ vs, OkU A u) ∧ SqT K (argH K h A) a (vs.map toV) := by
  obtain ⟨us, h1, h2, h3⟩ := ar a ha
  have hu : us = vs := by
    rcases h3 with q | q
    · rw [e] at q
      exact absurd (Value.type.inj (seq_inj q).1) (by decide)
    · rw [e] at q
      exact (seq_inj q).2.symm
  subst hu
  refine ⟨h2, ?_⟩
  cases hk : K.lookup a with
  | none => exact .inl (.inr ⟨_, by rw [argH_at ha hk e, hoOf_tup]⟩)
  | some o =>
    have e2 := KX a o hk
    rw [e] at e2
    obtain rfl := Option.some.inj e2
    exact .inr ⟨_, us.toArray, _, hk, rfl, rfl, by rw [List.size_toArray]; exact h1, by simpa using vals_toV h2⟩
mutual
theorem dw_one {Pm : Params} (KX : K.In h) (ar : ∀ a ∈ A, ArgOb h A a) : ∀ (d : WData) (v : Value), Well Pm h v d → plW d = true → OkU A v → Dw K (argH K h A) (toV v) d
  | .none, _, x, _, _ => by
    cases x
    exact .non
  | .bool b, _, x, _, _ => by
    cases x
    exact .bl b
  | .int i, _, x, _, _ => by
    cases x
    exact .int i
  | .str s, _, x, _, _ => by
    cases x
    exact .str s
  | .bytes b, _, x, _, _ => by
    cases x
    have z := Dw.byt (K := K) (H := argH K h A) b.toArray
    exact z
  | .list ds, _, x, p, hu => by
    obtain ⟨a, vs, rfl, ho, hall⟩ := well_list x
    obtain ⟨h2, hs⟩ := argL KX ar hu ho
    exact .lst hs (dw_all KX ar ds _ hall p h2)
  | .tuple ds, _, x, p, hu => by
    obtain ⟨a, vs, rfl, ho, hall⟩ := well_tuple x
    obtain ⟨h2, hs⟩ := argT KX ar hu ho
    exact .tup hs (dw_all KX ar ds _ hall p h2)
  | .float _, _, _, p, _ => Bool.noConfusion (show false = true from p)
  | .dict _, _, _, p, _ => Bool.noConfusion (show false = true from p)
  | .bytearray _, _, _, p, _ => Bool.noConfusion (show false = true from p)
  | .set _, _, _, p, _ => Bool.noConfusion (show false = true from p)
  | .frozenset _, _, _, p, _ => Bool.noConfusion (show false = true from p)
  | .obj _ _, _, _, p, _ => Bool.noConfusion (show false = true from p)
theorem dw_all {Pm : Params} (KX : K.In h) (ar : ∀ a ∈ A, ArgOb h A a) : ∀ (ds : List WData) (vs : List Value), WellAll Pm h vs ds → plWs ds = true → (∀ u ∈ vs, OkU A u) → DwAll K (argH K h A) (vs.map toV) ds
  | [], _, x, _, _ => by
    cases x
    exact .nil
  | d :: ds, _, x, p, hu => by
    obtain ⟨v, vs, rfl, x1, x2⟩ := well_cons x
    have q : plW d = true ∧ plWs ds = true := Bool.and_eq_true_iff.mp p
    exact .cons (dw_one KX ar d v x1 q.1 (hu _ (List.mem_cons_self ..))) (dw_all KX ar ds vs x2 q.2 fun u m => hu u (List.mem_cons_of_mem _ m))
end
end
/-! ### the call -/
theorem spec_call {P : Program} {w : World} {K : PySem.W.Frag} {mg mb : Str → Option Value} {CX : CXT} {k : Nat} {fa : Addr} {fd : FuncData} {ps : List Str} {sp : Sp} {s₁ : Shared} {vals : List Value} {ds : List WData} {R : PySem.W.WRecords} {cl : Str → Option Addr} {d0 : WData}
    (KX : K.In s₁.heap) (hns : s₁.heap.Ns mainGlobals mg) (hb : s₁.heap.Ns builtinsNs mb) (hbb : ∀ x : Str, x ≠ "__name__" → mb x = bootBuiltins x) (hlim : s₁.heap.NoLimit) (hg : s₁.gens = #[])
    (hwl : WellAll w.params s₁.heap vals ds) (hpl : plWs ds = true) (hwt : ∀ d ∈ ds, d.weight ≤ 1048576) (hr : Room k callerA)
    (F : ∀ base : Heap, K.In base → base.Ns mainGlobals mg → FnOk P w K mg base CX k fa fd ps sp) (hbind : ∀ (s : Shared) (us : List Value), us.length = ps.length → BindsTo s fd ⟨us, []⟩ (ps.zip us)) (hlen : ds.length = ps.length)
    (hsp : ∀ (H : Hp) (xs : List V), OnlyF H → DwAll K H xs ds → sp xs H (fun v H' => Dw K H' v d0) fun _ _ _ => False)
    (hCX : ∀ H e s', CX [] H s₁ (fun _ _ _ => False) e s' → False) :
    codeAny (model P w) callerA (.call (.ref fa) ⟨vals, []⟩) (fun r s' => ∃ u as, r = .ok (.ret u) ∧ ReadsW R cl s'.heap u d0 as ∧ OldK s₁.heap s'.heap ∧ s'.os = s₁.os ∧ AllBare s'.gens) s₁ := by
  obtain ⟨A, ho, ar⟩ := area_all ds vals hwl hpl hwt
  have hO : OnlyF (argH K s₁.heap A) := argH_only ar
  have hok : HOk P w (argH K s₁.heap A) s₁.heap := argH_ok ar
  have hS := dw_all KX ar ds vals hwl hpl ho
  have hV := vals_toV ho
  have hK : ∀ b u, argH K s₁.heap A b = some u → K.lookup b = none := fun b u q => (argH_is ar q).1
  have noA : ∀ {b : Addr} {o : Obj} {es : Array DictEntry} {ep : Nat}, s₁.heap.get? b = some o → o.data = .dict es ep → argH K s₁.heap A b = none := fun {b o es ep} e d => by
    cases q : argH K s₁.heap A b with
    | none => rfl
    | some u =>
      obtain ⟨_, vs, _, _, ⟨e2, _⟩ | ⟨e2, _⟩⟩ := argH_is ar q
      · rw [e2] at e
        cases e
        have d' : Data.seq vs.toArray _ = Data.dict es ep := d
        cases d'
      · rw [e2] at e
        cases e
        have d' : Data.seq vs.toArray _ = Data.dict es ep := d
        cases d'
  generalize argH K s₁.heap A = H at hO hok hS hK noA
  have base_of : ∀ {b : Addr} {o : Obj}, s₁.heap.get? b = some o → H b = none → (hidT s₁.heap H).get? b = some o := fun e n => hidT_get e n
  have nsK : ∀ {b : Addr} {m : Str → Option Value}, s₁.heap.Ns b m → (hidT s₁.heap H).Ns b m := fun {b m} ⟨o, es, ep, e, d, r⟩ => ⟨o, es, ep, base_of e (noA e d), d, r⟩
  have nK : ∀ b o, K.lookup b = some o → H b = none := fun b o e => by
    cases q : H b with
    | none => rfl
    | some u =>
      rw [hK b u q] at e
      cases e
  have hKb : K.In (hidT s₁.heap H) := fun b o e => base_of (KX b o e) (nK b o e)
  have hM : Mod K mg (hidT s₁.heap H) := ⟨hKb, nsK hns, ⟨mb, nsK hb, hbb⟩, let ⟨mc, h1, h2⟩ := hlim; ⟨mc, nsK h1, h2⟩⟩
  have e0 : Env0 P w K mg (hidT s₁.heap H) callerA [] s₁ H := ⟨rfl, hM, fun b o e => of_hidT e, Nat.le_of_eq (hidT_size _ _), trivial, fun b hb => absurd (show b ∈ ([] : List Addr) from hb) (by simp), hok, .of_eq hg⟩
  have hl : vals.length = ps.length := by rw [wellAll_len hwl]; exact hlen
  refine codeAny_mono ((F _ hKb (nsK hns)).run callerA [] s₁ H ⟨vals, []⟩ vals (vals.map toV) _ _ hr e0 (hbind s₁ vals hl) hV (hsp H _ hO hS)) fun r s' x => ?_
  cases r with
  | error e => exact (hCX H e s' x).elim
  | ok fl =>
    cases fl with
    | next => exact False.elim x
    | brk => exact False.elim x
    | cont => exact False.elim x
    | ret u =>
      obtain ⟨v, H', os, bare, un, hok', r', q⟩ := x
      have kept : ∀ b o, s₁.heap.get? b = some o → s'.heap.get? b = some o := fun b o e => by
        cases q2 : H b with
        | none => exact un.keep b o e q2 (by intro z; exact absurd (show b ∈ ([] : List Addr) from z) (by simp)) (by simp)
        | some u2 =>
          rcases hO b with z | ⟨ob, u3, z⟩
          · rw [q2] at z
            cases z
          · have z2 := un.frzs b ob _ z
            obtain ⟨e1, _⟩ := hok b _ z
            obtain ⟨e2, _⟩ := hok' b _ z2
            rw [e] at e1
            cases e1
            exact e2
      have KX' : K.In s'.heap := fun b o e => kept b o (KX b o e)
      obtain ⟨as, hrd⟩ := Dw.reads (R := R) (cl := cl) hok' KX' d0 v u q r'
      exact ⟨u, as, rfl, hrd, OldK.of_keep kept, os, bare⟩
/-! ### the row -/
theorem layable_weight {ds : List WData} (h : WData.layableAll ds = true) : ∀ d ∈ ds, d.weight ≤ 1048576 := fun d hd =>
  (PySem.W.layableW_iff.mp (List.all_eq_true.mp h d hd)).2.2
theorem encAll_len : ∀ (cs : List Codec) (a : Codec.denoteAll cs), (Codec.encAll cs a).length = cs.length
  | [], _ => rfl
  | c :: cs, a => by
    show (Codec.encAll cs a.2).length + 1 = cs.length + 1
    rw [encAll_len cs a.2]
/-- the goal that k_headS leaves (case hc), from the promise of the row's def: whatever the arguments that the codecs let and the row asks for, the def gives what stands for enc (f ..) -/
theorem walk_spec {r : OpenSpec} {k : Nat} {q : Program} {loose : List Str} {XP : (Str → Option Value) → Heap → Prop} {YP : World → Heap → Prop} {d : DefRec} {K : Params → PySem.W.Frag} {CX : World → CXT} {ps : List Str} {sp : World → Sp}
    (hwell : r.wellSaid = true) (hdf : d.params.defaults = []) (hlen : r.args.length = ps.length) (hr : Room k callerA)
    (hY : ∀ (w : World) (h : Heap), YP w h → (K w.params).In h)
    (F : ∀ (w : World) (mg : Str → Option Value) (fa : Addr) (h : Heap), YP w h → (K w.params).In h → h.Ns mainGlobals mg → mg d.name = some (.ref fa) →
      ∃ fd : FuncData, (∀ (s : Shared) (us : List Value), us.length = ps.length → BindsTo s fd ⟨us, []⟩ (ps.zip us)) ∧
        ∀ base : Heap, (K w.params).In base → base.Ns mainGlobals mg → FnOk r.prog w (K w.params) mg base (CX w) k fa fd ps (sp w))
    (hsp : ∀ (w : World) (H : Hp) (xs : List V) (a : Codec.denoteAll r.args), OnlyF H → Codec.withinAll r.args a = true → Codec.app r.args r.asked a = true → DwAll (K w.params) H xs (Codec.encAll r.args a) →
      sp w xs H (fun v H' => Dw (K w.params) H' v (r.ret.enc (Codec.app r.args r.f a))) fun _ _ _ => False)
    (hCX : ∀ (w : World) (H : Hp) (s : Shared) (e : Value) (s' : Shared), CX w [] H s (fun _ _ _ => False) e s' → False) :
    PySem.W.WalkOS q loose XP YP r d [] (fun f vs => PySem.call f vs) := by
  intro w s_0 s₁ mg mb G Y fa o pm cd doc dV kV ho hd hcd hD hmg hg args vals as hpre hlay hrd hwl hlo
  obtain ⟨a, e1, e2⟩ := PySem.W.os_pre_some hpre
  obtain ⟨e3, hwi⟩ := Codec.encAll_of_decAll r.args args a e1
  subst e3
  have KX := hY w _ Y
  obtain ⟨fd, hb, hF⟩ := F w mg fa _ Y KX G.T.g hmg
  refine PySem.W.enter_call (codeAny_mono (spec_call (R := []) (cl := classAt s_0.heap) (d0 := r.ret.enc (Codec.app r.args r.f a)) KX G.T.g G.T.b G.T.builtins G.T.nolimit hg hwl (pl_encAll _ _) (layable_weight hlay) hr hF hb (by rw [encAll_len]; exact hlen)
    (fun H xs hO hS => hsp w H xs a hO hwi e2 hS) fun H e s' => hCX w H s₁ e s') fun r' s' hq => ?_)
  obtain ⟨u, as', rfl, h1, h2, h3, h4⟩ := hq
  exact ⟨.inl ⟨u, _, as', rfl, fun _ => rfl, h1, (OpenSpec.post_iff hwell hwi _ _).mpr rfl, fun z => Bool.noConfusion (show false = true from z)⟩, h2, h3, h4⟩
/-- the same where the promise hangs on the written part alone -/
theorem walk_specK {r : OpenSpec} {k : Nat} {q : Program} {loose : List Str} {XP : (Str → Option Value) → Heap → Prop} {YP : World → Heap → Prop} {d : DefRec} {K : Params → PySem.W.Frag} {CX : CXT} {ps : List Str} {sp : PySem.W.Frag → Sp}
    (hwell : r.wellSaid = true) (hdf : d.params.defaults = []) (hlen : r.args.length = ps.length) (hr : Room k callerA)
    (hY : ∀ (w : World) (h : Heap), YP w h → (K w.params).In h)
    (F : ∀ (w : World) (mg : Str → Option Value) (fa : Addr) (h : Heap), YP w h → (K w.params).In h → h.Ns mainGlobals mg → mg d.name = some (.ref fa) →
      ∃ fd : FuncData, (∀ (s : Shared) (us : List Value), us.length = ps.length → BindsTo s fd ⟨us, []⟩ (ps.zip us)) ∧
        ∀ base : Heap, (K w.params).In base → base.Ns mainGlobals mg → FnOk r.prog w (K w.params) mg base CX k fa fd ps (sp (K w.params)))
    (hsp : ∀ (K : PySem.W.Frag) (H : Hp) (xs : List V) (a : Codec.denoteAll r.args), OnlyF H → Codec.withinAll r.args a = true → Codec.app r.args r.asked a = true → DwAll K H xs (Codec.encAll r.args a) →
      sp K xs H (fun v H' => Dw K H' v (r.ret.enc (Codec.app r.args r.f a))) fun _ _ _ => False)
    (hCX : ∀ (H : Hp) (s : Shared) (e : Value) (s' : Shared), CX [] H s (fun _ _ _ => False) e s' → False) :
    PySem.W.WalkOS q loose XP YP r d [] (fun f vs => PySem.call f vs) :=
  walk_spec (K := K) (CX := fun _ => CX) (sp := fun w => sp (K w.params)) hwell hdf hlen hr hY F (fun w H xs a h1 h2 h3 h4 => hsp (K w.params) H xs a h1 h2 h3 h4) fun _ H s e s' => hCX H s e s'
end L2
end
end
section
set_option Elab.async false
set_option linter.all false
/-! The mathematics of orders and keeping, over plain lists. -/
namespace OK
open Su85

theorem sum_snocN : ∀ (l : List Nat) (z : Nat), (l ++ [z]).sum = l.sum + z
  | [], z => by simp
  | a :: l, z => by
    show (a :: (l ++ [z])).sum = (a :: l).sum + z
    rw [List.sum_cons, List.sum_cons, sum_snocN l z]; omega

/-! ### the table -/
theorem table_succ (a : Abs) (n : Nat) : a.table (n + 1) = a.table n ++ [if a.need n = 0 then (a.table n).getD n (0, 0) else
    (List.range (n + 1)).foldl (fun b i => if ((a.table n).getD i (0, 0)).1 + a.block i (n + 1) ≤ b.1 then (((a.table n).getD i (0, 0)).1 + a.block i (n + 1), i + 1) else b)
      (((a.table n).getD 0 (0, 0)).1 + a.block 0 (n + 1), 1)] := by
  show (if a.need n = 0 then _ else _) = _
  by_cases h : a.need n = 0
  · rw [if_pos h, if_pos h]
  · rw [if_neg h, if_neg h]
theorem table_len (a : Abs) : ∀ n, (a.table n).length = n + 1
  | 0 => rfl
  | n + 1 => by rw [table_succ, List.length_append, table_len a n]; rfl
theorem getD_append_left {α : Type} {l m : List α} {i : Nat} {d : α} (h : i < l.length) : (l ++ m).getD i d = l.getD i d := by
  rw [List.getD_eq_getElem?_getD, List.getD_eq_getElem?_getD, List.getElem?_append_left h]
theorem table_getD (a : Abs) : ∀ {n i : Nat}, i ≤ n → (a.table n).getD i (0, 0) = (a.table i).getD i (0, 0)
  | 0, i, h => by
    have : i = 0 := by omega
    subst this; rfl
  | n + 1, i, h => by
    by_cases e : i = n + 1
    · subst e; rfl
    · rw [table_succ, getD_append_left (by rw [table_len]; omega)]
      exact table_getD a (by omega)
theorem least_of (a : Abs) {n i : Nat} (h : i ≤ n) : ((a.table n).getD i (0, 0)).1 = a.least i := by
  rw [table_getD a h]; rfl
theorem last_of (a : Abs) {n i : Nat} (h : i ≤ n) : ((a.table n).getD i (0, 0)).2 = a.last i := by
  rw [table_getD a h]; rfl

/-- a fold that keeps the least, of alike ones the latest -/
theorem fold_best (c : Nat → Nat) : ∀ n, ∃ M, M ≤ n ∧ (List.range (n + 1)).foldl (fun b i => if c i ≤ b.1 then (c i, i + 1) else b) (c 0, 1) = (c M, M + 1) ∧
    (∀ i, i ≤ n → c M ≤ c i) ∧ ∀ i, i ≤ n → c i = c M → i ≤ M
  | 0 => by
    refine ⟨0, Nat.le_refl _, ?_, fun i h => ?_, fun i h _ => h⟩
    · simp [List.range_succ]
    · have : i = 0 := by omega
      subst this; exact Nat.le_refl _
  | n + 1 => by
    obtain ⟨M, h1, h2, h3, h4⟩ := fold_best c n
    rw [List.range_succ, List.foldl_append, h2, List.foldl_cons, List.foldl_nil]
    by_cases h : c (n + 1) ≤ c M
    · refine ⟨n + 1, Nat.le_refl _, if_pos h, fun i hi => ?_, fun i hi _ => hi⟩
      by_cases e : i = n + 1
      · subst e; exact Nat.le_refl _
      · exact Nat.le_trans h (h3 i (by omega))
    · refine ⟨M, by omega, if_neg h, fun i hi => ?_, fun i hi e => ?_⟩
      · by_cases e : i = n + 1
        · subst e; omega
        · exact h3 i (by omega)
      · by_cases e' : i = n + 1
        · subst e'; omega
        · exact h4 i (by omega) e
/-- least and last of a needing day, as the program finds them -/
theorem best_is {c : Nat → Nat} {n m L : Nat} (hm : ∃ i, i ≤ n ∧ c i = m) (hmin : ∀ i, i ≤ n → m ≤ c i) (hL : L ≤ n) (hLc : c L = m) (hmax : ∀ i, i ≤ n → c i = m → i ≤ L) :
    (List.range (n + 1)).foldl (fun b i => if c i ≤ b.1 then (c i, i + 1) else b) (c 0, 1) = (m, L + 1) := by
  obtain ⟨M, h1, h2, h3, h4⟩ := fold_best c n
  obtain ⟨i, hi, e⟩ := hm
  have e1 : c M = m := Nat.le_antisymm (by rw [← e]; exact h3 i hi) (hmin M h1)
  have e2 : L = M := Nat.le_antisymm (h4 L hL (by rw [hLc, e1])) (hmax M h1 e1)
  rw [h2, e1, e2]
theorem table_need (a : Abs) {n m L : Nat} (h0 : a.need n ≠ 0) (hm : ∃ i, i ≤ n ∧ a.least i + a.block i (n + 1) = m) (hmin : ∀ i, i ≤ n → m ≤ a.least i + a.block i (n + 1)) (hL : L ≤ n)
    (hLc : a.least L + a.block L (n + 1) = m) (hmax : ∀ i, i ≤ n → a.least i + a.block i (n + 1) = m → i ≤ L) : a.table (n + 1) = a.table n ++ [(m, L + 1)] := by
  rw [table_succ, if_neg h0]
  have e := best_is (c := fun i => ((a.table n).getD i (0, 0)).1 + a.block i (n + 1)) (n := n) (m := m) (L := L)
    (by obtain ⟨i, hi, e⟩ := hm; exact ⟨i, hi, by show _ + _ = _; rw [least_of a hi]; exact e⟩)
    (fun i hi => by show _ ≤ _ + _; rw [least_of a hi]; exact hmin i hi) hL (by show _ + _ = _; rw [least_of a hL]; exact hLc)
    (fun i hi e => hmax i hi (by have e : _ + _ = _ := e; rw [least_of a hi] at e; exact e))
  rw [e]
theorem table_none (a : Abs) {n : Nat} (h0 : a.need n = 0) : a.table (n + 1) = a.table n ++ [(a.least n, a.last n)] := by
  rw [table_succ, if_pos h0]; rfl
theorem last_le (a : Abs) : ∀ t, a.last t ≤ t
  | 0 => Nat.le_refl _
  | n + 1 => by
    by_cases h : a.need n = 0
    · unfold Abs.last
      rw [table_none a h, List.getD_eq_getElem?_getD, List.getElem?_append_right (by rw [table_len] <;> omega), table_len]
      simp
      have := last_le a n
      omega
    · obtain ⟨M, h1, h2, h3, h4⟩ := fold_best (fun i => ((a.table n).getD i (0, 0)).1 + a.block i (n + 1)) n
      unfold Abs.last
      rw [table_succ, if_neg h, List.getD_eq_getElem?_getD, List.getElem?_append_right (by rw [table_len] <;> omega), table_len, h2]
      simp
      omega
/-- the two rows that the program keeps -/
def leasts (a : Abs) (n : Nat) : List Nat := (a.table n).map (·.1)
def lasts (a : Abs) (n : Nat) : List Nat := (a.table n).map (·.2)
theorem leasts_len (a : Abs) (n : Nat) : (leasts a n).length = n + 1 := by rw [leasts, List.length_map, table_len]
theorem lasts_len (a : Abs) (n : Nat) : (lasts a n).length = n + 1 := by rw [lasts, List.length_map, table_len]
theorem leasts_get (a : Abs) {n i : Nat} (h : i ≤ n) : (leasts a n)[i]? = some (a.least i) := by
  rw [← least_of a h, leasts, List.getElem?_map, List.getD_eq_getElem?_getD, List.getElem?_eq_getElem (by rw [table_len]; omega)]; rfl
theorem lasts_get (a : Abs) {n i : Nat} (h : i ≤ n) : (lasts a n)[i]? = some (a.last i) := by
  rw [← last_of a h, lasts, List.getElem?_map, List.getD_eq_getElem?_getD, List.getElem?_eq_getElem (by rw [table_len]; omega)]; rfl
theorem lasts_tail (a : Abs) (n : Nat) : (lasts a n).drop 1 = (List.range n).map fun t => a.last (t + 1) := by
  refine List.ext_getElem? fun i => ?_
  rw [List.getElem?_drop, List.getElem?_map, Nat.add_comm]
  by_cases h : i < n
  · rw [lasts_get a (by omega), List.getElem?_range h]; rfl
  · rw [List.getElem?_eq_none (by rw [lasts_len] <;> omega), List.getElem?_eq_none (by rw [List.length_range] <;> omega)]; rfl

/-! ### the plan told -/
theorem orders_fuel (a : Abs) : ∀ (f t : Nat), t ≤ f → a.orders f t = a.orders t t
  | 0, t, h => by
    have : t = 0 := by omega
    subst this; rfl
  | f + 1, t, h => by
    cases t with
    | zero =>
      show (if a.last 0 = 0 then _ else _) = _
      rw [if_pos (show a.last 0 = 0 from rfl)]; rfl
    | succ t =>
      show (if a.last (t + 1) = 0 then _ else _) = (if a.last (t + 1) = 0 then _ else _)
      by_cases e : a.last (t + 1) = 0
      · rw [if_pos e, if_pos e]
      · have hl := last_le a (t + 1)
        rw [if_neg e, if_neg e, orders_fuel a f _ (by omega), orders_fuel a t _ (by omega)]
theorem starts_none (a : Abs) {t : Nat} (h : a.last t = 0) : a.starts t = [] := by
  unfold Abs.starts
  cases t with
  | zero => rfl
  | succ t =>
    show (if a.last (t + 1) = 0 then _ else _) = _
    rw [if_pos h]
theorem starts_step (a : Abs) {t l : Nat} (h : a.last t = l + 1) : a.starts t = a.starts l ++ [l] := by
  have hl := last_le a t
  unfold Abs.starts
  cases t with
  | zero => rw [h] at hl; omega
  | succ t =>
    show (if a.last (t + 1) = 0 then _ else _) = _
    rw [if_neg (by omega), h]
    show a.orders t l ++ [l] = _
    rw [orders_fuel a t l (by omega)]
theorem starts_lt (a : Abs) : ∀ (t x : Nat), x ∈ a.starts t → x < t := by
  intro t
  induction t using Nat.strongRecOn with
  | ind t ih =>
    intro x hx
    have hl := last_le a t
    cases e : a.last t with
    | zero => rw [starts_none a e] at hx; cases hx
    | succ l =>
      rw [starts_step a e] at hx
      rcases List.mem_append.mp hx with hx | hx
      · have := ih l (by omega) x hx
        omega
      · have : x = l := by simpa using hx
        omega
theorem planTo_none (a : Abs) {t : Nat} (h : a.last t = 0) : a.planTo t = List.replicate t 0 := by
  unfold Abs.planTo
  rw [starts_none a h]
  refine List.ext_getElem? fun i => ?_
  rw [List.getElem?_map]
  by_cases hi : i < t
  · rw [List.getElem?_range hi, List.getElem?_replicate, if_pos hi]; rfl
  · rw [List.getElem?_eq_none (by rw [List.length_range]; omega), List.getElem?_eq_none (by rw [List.length_replicate]; omega)]; rfl
theorem planTo_len (a : Abs) (t : Nat) : (a.planTo t).length = t := by
  unfold Abs.planTo
  rw [List.length_map, List.length_range]
theorem planTo_get (a : Abs) {t i : Nat} (h : i < t) : (a.planTo t)[i]? = some (if (a.starts t).contains i then a.span i (((a.starts t).find? fun j => decide (i < j)).getD t) else 0) := by
  unfold Abs.planTo
  rw [List.getElem?_map, List.getElem?_range h]; rfl
theorem planTo_step (a : Abs) {t l : Nat} (h : a.last t = l + 1) : a.planTo t = a.planTo l ++ (a.span l t :: List.replicate (t - l - 1) 0) := by
  have hl := last_le a t
  have hlt : ∀ x, x ∈ a.starts l → x < l := starts_lt a l
  refine List.ext_getElem? fun i => ?_
  by_cases hi : i < t
  · rw [planTo_get a hi, starts_step a h]
    by_cases h1 : i < l
    · rw [List.getElem?_append_left (by rw [planTo_len]; exact h1), planTo_get a h1]
      have ne : i ≠ l := by omega
      have c1 : (a.starts l ++ [l]).contains i = (a.starts l).contains i := by
        rw [Bool.eq_iff_iff, List.contains_iff_mem, List.contains_iff_mem, List.mem_append]
        simp [ne]
      rw [c1, List.find?_append]
      cases e : (a.starts l).find? fun j => decide (i < j) with
      | some j => rfl
      | none =>
        simp [h1]
    · rw [List.getElem?_append_right (by rw [planTo_len]; omega), planTo_len]
      by_cases h2 : i = l
      · subst h2
        have c1 : (a.starts i ++ [i]).contains i = true := by rw [List.contains_iff_mem]; simp
        have f1 : (a.starts i).find? (fun j => decide (i < j)) = none := by
          rw [List.find?_eq_none]
          intro x hx
          have := hlt x hx
          simp; omega
        rw [if_pos c1, List.find?_append, f1]
        simp
      · have c1 : ¬ (a.starts l ++ [l]).contains i = true := by
          rw [List.contains_iff_mem, List.mem_append]
          rintro (hx | hx)
          · have := hlt i hx
            omega
          · exact h2 (by simpa using hx)
        rw [if_neg c1]
        obtain ⟨k, hk⟩ : ∃ k, i - l = k + 1 := ⟨i - l - 1, by omega⟩
        rw [hk, List.getElem?_cons_succ, List.getElem?_replicate, if_pos (by omega)]
  · rw [List.getElem?_eq_none (by rw [planTo_len]; omega), List.getElem?_eq_none (by rw [List.length_append, planTo_len, List.length_cons, List.length_replicate]; omega)]

/-! ### what the program reckons, against the specification -/
theorem span_drop (a : Abs) : ∀ {i j : Nat}, j ≤ a.needs.length → ((a.needs.drop i).take (j - i)).sum = a.span i j := by
  intro i j h
  unfold Abs.span
  have e : (a.needs.drop i).take (j - i) = (List.range (j - i)).map fun k => a.need (i + k) := by
    refine List.ext_getElem? fun k => ?_
    rw [List.getElem?_map]
    by_cases hk : k < j - i
    · rw [List.getElem?_take, if_pos hk, List.getElem?_drop, List.getElem?_range hk]
      show _ = some (a.needs.getD (i + k) 0)
      rw [List.getD_eq_getElem?_getD, List.getElem?_eq_getElem (by omega)]; rfl
    · rw [List.getElem?_take, if_neg hk, List.getElem?_eq_none (by rw [List.length_range]; omega)]; rfl
  rw [e]
theorem need_get (a : Abs) {i : Nat} (h : i < a.needs.length) : a.needs[i]? = some (a.need i) := by
  unfold Abs.need
  rw [List.getD_eq_getElem?_getD, List.getElem?_eq_getElem h]; rfl
theorem fee_get (a : Abs) {i : Nat} (h : i < a.fees.length) : a.fees[i]? = some (a.fee i) := by
  unfold Abs.fee
  rw [List.getD_eq_getElem?_getD, List.getElem?_eq_getElem h]; rfl

/-- what lies there, below 0 where there is too little -/
def lies : Int → List Nat → List Nat → List Int
  | s, n :: ns, q :: qs => (s + q - n) :: lies (s + q - n) ns qs
  | _, _, _ => []
theorem lies_len : ∀ (s : Int) (ns qs : List Nat), ns.length = qs.length → (lies s ns qs).length = ns.length
  | _, [], [], _ => rfl
  | s, n :: ns, q :: qs, h => by
    show (lies _ ns qs).length + 1 = ns.length + 1
    rw [lies_len _ ns qs (by simpa using h)]
theorem lies_snoc : ∀ (ns qs : List Nat) (s : Int) (n q : Nat), ns.length = qs.length → lies s (ns ++ [n]) (qs ++ [q]) = lies s ns qs ++ [(lies s ns qs).getLastD s + q - n]
  | [], [], s, n, q, _ => rfl
  | m :: ns, p :: qs, s, n, q, h => by
    show (s + p - m) :: lies (s + p - m) (ns ++ [n]) (qs ++ [q]) = (s + p - m) :: lies (s + p - m) ns qs ++ _
    rw [lies_snoc ns qs _ n q (by simpa using h)]
    show (s + p - m) :: (lies (s + p - m) ns qs ++ [(lies (s + p - m) ns qs).getLastD (s + p - m) + q - n]) = (s + p - m) :: (lies (s + p - m) ns qs ++ [((s + p - m) :: lies (s + p - m) ns qs).getLastD s + q - n])
    have e : ((s + (p : Int) - m) :: lies (s + p - m) ns qs).getLastD s = (lies (s + p - m) ns qs).getLastD (s + p - m) := by
      cases lies (s + p - m) ns qs <;> rfl
    rw [e]
theorem shelf_lies (a : Abs) : ∀ (l : List Nat) (t s : Nat), t + l.length = a.needs.length →
    a.shelf t s l = if ∃ z ∈ lies s (a.needs.drop t) l, z < 0 then none else some ((lies s (a.needs.drop t) l).map Int.toNat)
  | [], t, s, h => by
    have e : lies s (a.needs.drop t) [] = [] := by cases a.needs.drop t <;> rfl
    rw [e]; simp [Abs.shelf]
  | q :: l, t, s, h => by
    have ht : t < a.needs.length := by simp at h; omega
    have e : a.needs.drop t = a.need t :: a.needs.drop (t + 1) := by
      rw [List.drop_eq_getElem_cons ht]
      have := need_get a ht
      rw [List.getElem?_eq_getElem ht] at this
      rw [Option.some.inj this]
    rw [e]
    show (if s + q < a.need t then none else _) = _
    have e2 : lies s (a.need t :: a.needs.drop (t + 1)) (q :: l) = ((s : Int) + q - a.need t) :: lies ((s : Int) + q - a.need t) (a.needs.drop (t + 1)) l := rfl
    rw [e2]
    by_cases hc : s + q < a.need t
    · rw [if_pos hc, if_pos ⟨_, List.mem_cons_self .., by omega⟩]
    · have ec : ((s : Int) + q - a.need t) = ((s + q - a.need t : Nat) : Int) := by omega
      rw [if_neg hc, shelf_lies a l (t + 1) (s + q - a.need t) (by simp at h; omega), ec]
      by_cases hz : ∃ z ∈ lies ((s + q - a.need t : Nat) : Int) (a.needs.drop (t + 1)) l, z < 0
      · obtain ⟨z, hz1, hz2⟩ := hz
        rw [if_pos ⟨z, hz1, hz2⟩, if_pos ⟨z, List.mem_cons_of_mem _ hz1, hz2⟩]; rfl
      · rw [if_neg hz, if_neg]
        · simp
        · rintro ⟨z, hz1, hz2⟩
          rcases List.mem_cons.mp hz1 with e | e
          · omega
          · exact hz ⟨z, e, hz2⟩
end OK
end
section
set_option Elab.async false
set_option linter.all false
/-! By no plan does it cost less than the least. -/
namespace OK
open Su85

def hold (a : Abs) (t u : Nat) : Nat := ((List.range (u - t)).map fun k => k * a.need (t + k)).sum
theorem block_hold (a : Abs) (t u : Nat) : a.block t u = a.fee t + a.keep * hold a t u := rfl
theorem hold_self (a : Abs) (t : Nat) : hold a t t = 0 := by unfold hold; rw [Nat.sub_self]; rfl
theorem span_self (a : Abs) (t : Nat) : a.span t t = 0 := by unfold Abs.span; rw [Nat.sub_self]; rfl
theorem span_step (a : Abs) {t u : Nat} (h : t < u) : a.span t u = a.need t + a.span (t + 1) u := by
  unfold Abs.span
  obtain ⟨k, rfl⟩ : ∃ k, u = t + (k + 1) := ⟨u - t - 1, by omega⟩
  have e1 : t + (k + 1) - t = k + 1 := by omega
  have e2 : t + (k + 1) - (t + 1) = k := by omega
  rw [e1, e2, List.range_succ_eq_map, List.map_cons, List.sum_cons, List.map_map]
  have e3 : ((fun k => a.need (t + k)) ∘ Nat.succ) = fun k => a.need (t + 1 + k) := by
    funext k
    show a.need (t + (k + 1)) = _
    rw [show t + (k + 1) = t + 1 + k by omega]
  rw [e3, Nat.add_zero]
theorem sum_add_map (f g : Nat → Nat) : ∀ l : List Nat, (l.map fun k => f k + g k).sum = (l.map f).sum + (l.map g).sum
  | [] => rfl
  | x :: l => by
    rw [List.map_cons, List.map_cons, List.map_cons, List.sum_cons, List.sum_cons, List.sum_cons, sum_add_map f g l]; omega
theorem hold_step (a : Abs) {t u : Nat} (h : t < u) : hold a t u = hold a (t + 1) u + a.span (t + 1) u := by
  unfold hold Abs.span
  obtain ⟨k, rfl⟩ : ∃ k, u = t + (k + 1) := ⟨u - t - 1, by omega⟩
  have e1 : t + (k + 1) - t = k + 1 := by omega
  have e2 : t + (k + 1) - (t + 1) = k := by omega
  rw [e1, e2, List.range_succ_eq_map, List.map_cons, List.sum_cons, List.map_map, ← sum_add_map]
  have e3 : ((fun k => k * a.need (t + k)) ∘ Nat.succ) = fun k => k * a.need (t + 1 + k) + a.need (t + 1 + k) := by
    funext k
    show (k + 1) * a.need (t + (k + 1)) = _
    rw [show t + (k + 1) = t + 1 + k by omega, Nat.succ_mul]
  rw [e3, Nat.zero_mul, Nat.zero_add]
theorem hold_snoc_zero (a : Abs) {t u : Nat} (h : t ≤ u) (h0 : a.need u = 0) : hold a t (u + 1) = hold a t u := by
  unfold hold
  have e1 : u + 1 - t = (u - t) + 1 := by omega
  rw [e1, List.range_succ, List.map_append, List.map_cons, List.map_nil, sum_snocN, show t + (u - t) = u by omega, h0, Nat.mul_zero, Nat.add_zero]
theorem span_snoc (a : Abs) {t u : Nat} (h : t ≤ u) : a.span t (u + 1) = a.span t u + a.need u := by
  unfold Abs.span
  have e1 : u + 1 - t = (u - t) + 1 := by omega
  rw [e1, List.range_succ, List.map_append, List.map_cons, List.map_nil, sum_snocN, show t + (u - t) = u by omega]
theorem least_succ_zero (a : Abs) {n : Nat} (h : a.need n = 0) : a.least (n + 1) = a.least n := by
  show ((a.table (n + 1)).getD (n + 1) (0, 0)).1 = _
  rw [table_none a h, List.getD_eq_getElem?_getD, List.getElem?_append_right (by rw [table_len] <;> omega), table_len, Nat.sub_self]; rfl
theorem least_le (a : Abs) {t : Nat} : ∀ {u : Nat}, t < u → a.least u ≤ a.least t + a.block t u
  | 0, h => absurd h (by omega)
  | u + 1, h => by
    by_cases h0 : a.need u = 0
    · rw [least_succ_zero a h0]
      by_cases e : t = u
      · subst e; exact Nat.le_add_right _ _
      · have := least_le a (t := t) (u := u) (by omega)
        rw [block_hold] at this ⊢
        rw [hold_snoc_zero a (by omega) h0]; exact this
    · obtain ⟨M, h1, h2, h3, h4⟩ := fold_best (fun i => ((a.table u).getD i (0, 0)).1 + a.block i (u + 1)) u
      have e : a.least (u + 1) = ((a.table u).getD M (0, 0)).1 + a.block M (u + 1) := by
        show ((a.table (u + 1)).getD (u + 1) (0, 0)).1 = _
        rw [table_succ, if_neg h0, h2, List.getD_eq_getElem?_getD, List.getElem?_append_right (by rw [table_len] <;> omega), table_len, Nat.sub_self]; rfl
      have := h3 t (by omega)
      rw [e]
      rw [least_of a (show t ≤ u by omega)] at this
      exact this
theorem least_zero (a : Abs) : ∀ {u : Nat}, a.span 0 u = 0 → a.least u = 0
  | 0, _ => rfl
  | u + 1, h => by
    rw [span_snoc a (Nat.zero_le u)] at h
    rw [least_succ_zero a (by omega)]
    exact least_zero a (by omega)
/-- from a state (shelf s, spent c) that no least undercuts, no plan does -/
theorem lower (a : Abs) : ∀ (l : List Nat) (t s c : Nat) (r : List Nat), (∀ u, t ≤ u → a.span t u ≤ s → a.least u ≤ c + a.keep * hold a t u) → a.shelf t s l = some r →
    a.least (t + l.length) ≤ c + (a.feesOf t l + a.keep * r.sum)
  | [], t, s, c, r, inv, h => by
    have := inv t (Nat.le_refl _) (by rw [span_self]; exact Nat.zero_le _)
    rw [hold_self] at this
    show a.least t ≤ _
    omega
  | q :: l, t, s, c, r, inv, h => by
    have h' : (if s + q < a.need t then none else (a.shelf (t + 1) (s + q - a.need t) l).map fun r => (s + q - a.need t) :: r) = some r := h
    by_cases hc : s + q < a.need t
    · rw [if_pos hc] at h'; cases h'
    · rw [if_neg hc] at h'
      cases e : a.shelf (t + 1) (s + q - a.need t) l with
      | none => rw [e] at h'; cases h'
      | some r' =>
        rw [e] at h'
        have er : (s + q - a.need t) :: r' = r := Option.some.inj h'
        subst er
        have key := lower a l (t + 1) (s + q - a.need t) (c + (if q = 0 then 0 else a.fee t) + a.keep * (s + q - a.need t)) r' (fun u hu hs => ?_) e
        · rw [List.length_cons, show t + (l.length + 1) = t + 1 + l.length by omega, List.sum_cons, Nat.mul_add]
          show _ ≤ c + (((if q = 0 then 0 else a.fee t) + a.feesOf (t + 1) l) + _)
          omega
        · have e1 := hold_step a (show t < u by omega)
          have e2 := span_step a (show t < u by omega)
          have e3 : a.keep * a.span (t + 1) u ≤ a.keep * (s + q - a.need t) := Nat.mul_le_mul_left _ hs
          have e4 : a.keep * hold a t u = a.keep * hold a (t + 1) u + a.keep * a.span (t + 1) u := by rw [e1, Nat.mul_add]
          by_cases hq : q = 0
          · rw [if_pos hq]
            have := inv u (by omega) (by omega)
            omega
          · rw [if_neg hq]
            have i0 := inv t (Nat.le_refl _) (by rw [span_self]; exact Nat.zero_le _)
            rw [hold_self] at i0
            have i1 := least_le a (show t < u by omega)
            rw [block_hold] at i1
            omega
/-- By no plan does it cost less. -/
theorem cost_ge (a : Abs) {l : List Nat} {c : Nat} (h : a.cost l = some c) : a.least l.length ≤ c := by
  unfold Abs.cost at h
  cases e : a.shelf 0 0 l with
  | none => rw [e] at h; cases h
  | some r =>
    rw [e] at h
    have er : a.feesOf 0 l + a.keep * r.sum = c := Option.some.inj h
    have := lower a l 0 0 0 r (fun u _ hs => by rw [least_zero a (by omega)]; exact Nat.zero_le _) e
    rw [Nat.zero_add] at this
    omega
end OK
end
section
set_option Elab.async false
set_option linter.all false
set_option maxRecDepth 10000
/-! One list of calls, taken apart. -/
namespace OK
def sizesN : List Nat := [2, 2, 2, 1, 1, 0, 1, 0, 0, 0, 1, 0, 0, 0, 2, 2, 0, 2, 1, 0, 0]
def isRow (p : Int) : Bool := p == 8 || p == 9 || p == 16
theorem shape_cases {p : Int} {x : Nat × Nat} (h : PySu85.shape p = some x) : ∃ n : Nat, n < 21 ∧ p = (n : Int) := by
  by_cases h0 : 0 ≤ p ∧ p ≤ 20
  · exact ⟨p.toNat, by omega, by omega⟩
  · have e : PySu85.shape p = none := by
      unfold PySu85.shape
      repeat rw [if_neg (by omega)]
    rw [e] at h; cases h
/-- a call at the head of a list: its numbers, what is behind it -/
structure Head (p : Int) (r args rest : List Int) : Prop where
  plain : isRow p = false → ∃ n : Nat, sizesN[p.toNat]? = some n ∧ n ≤ r.length ∧ args = r.take n ∧ rest = r.drop n
  row : isRow p = true → ∃ (m : Nat) (r' : List Int), r = (m : Int) :: r' ∧ m ≤ r'.length ∧ args = r'.take m ∧ rest = r'.drop m
  num : ∃ n : Nat, n < 21 ∧ p = (n : Int)
theorem call_plain {p : Int} {r : List Int} {n : Nat} {c : List (List Int)} {t : List Int} (hs : PySu85.shape p = some (n, 0)) (h : PyFlat.call PySu85.shape (p :: r) = some (c, t)) : n ≤ r.length ∧ c = [p :: r.take n] ∧ t = r.drop n := by
  unfold PyFlat.call at h
  dsimp only at h
  rw [hs] at h
  have h : (if r.length < n then none else some ([p :: r.take n], r.drop n)) = some (c, t) := h
  by_cases hl : r.length < n
  · rw [if_pos hl] at h; cases h
  · rw [if_neg hl] at h
    cases h
    exact ⟨by omega, rfl, rfl⟩
theorem call_row {p : Int} {r : List Int} {c : List (List Int)} {t : List Int} (hs : PySu85.shape p = some (0, 1)) (h : PyFlat.call PySu85.shape (p :: r) = some (c, t)) :
    ∃ (m : Nat) (r' : List Int), r = (m : Int) :: r' ∧ m ≤ r'.length ∧ c = [[p], r'.take m] ∧ t = r'.drop m := by
  unfold PyFlat.call at h
  dsimp only at h
  rw [hs] at h
  cases r with
  | nil => cases h
  | cons m r' =>
    by_cases hm : 0 ≤ m ∧ m.toNat ≤ r'.length
    · have e : PyFlat.row (m :: r') = some (r'.take m.toNat, r'.drop m.toNat) := if_pos hm
      have h : (match PyFlat.row (m :: r') with | none => none | some (x, s) => some ([[p], x], s)) = some (c, t) := by
        have e2 : PyFlat.rows 1 (m :: r') = (match PyFlat.row (m :: r') with | none => none | some (x, s) => some ([x], s)) := rfl
        rw [e] at e2 ⊢
        have h' : (match PyFlat.rows 1 (m :: r') with | none => none | some (xs, t) => some ((p :: []) :: xs, t)) = some (c, t) := h
        rw [e2] at h'
        exact h'
      rw [e] at h
      cases h
      exact ⟨m.toNat, r', by rw [Int.toNat_of_nonneg hm.1], hm.2, rfl, rfl⟩
    · have e : PyFlat.row (m :: r') = none := if_neg hm
      have e2 : PyFlat.rows 1 (m :: r') = (match PyFlat.row (m :: r') with | none => none | some (x, s) => some ([x], s)) := rfl
      rw [e] at e2
      have h' : (match PyFlat.rows 1 (m :: r') with | none => none | some (xs, t) => some ((p :: []) :: xs, t)) = some (c, t) := h
      rw [e2] at h'
      cases h'
theorem take_two {r : List Int} (h : 2 ≤ r.length) : ∃ x y s, r = x :: y :: s := match r, h with | x :: y :: s, _ => ⟨x, y, s, rfl⟩
theorem take_one {r : List Int} (h : 1 ≤ r.length) : ∃ x s, r = x :: s := match r, h with | x :: s, _ => ⟨x, s, rfl⟩
theorem call_head {p : Int} {r : List Int} {c : List (List Int)} {t : List Int} (h : PyFlat.call PySu85.shape (p :: r) = some (c, t)) : ∃ args, Head p r args t ∧ (PySu85.whole c).headD [] = p :: args := by
  cases hs : PySu85.shape p with
  | none =>
    unfold PyFlat.call at h
    dsimp only at h
    rw [hs] at h; cases h
  | some x =>
    obtain ⟨n, hn, rfl⟩ := shape_cases hs
    match n, hn with
    | 0, _ | 1, _ | 2, _ | 14, _ | 15, _ | 17, _ =>
      obtain ⟨h1, rfl, rfl⟩ := call_plain (n := 2) rfl h
      obtain ⟨x, y, s, rfl⟩ := take_two h1
      exact ⟨[x, y], ⟨fun _ => ⟨2, rfl, h1, rfl, rfl⟩, fun z => absurd z (by decide), ⟨_, by decide, rfl⟩⟩, rfl⟩
    | 3, _ | 4, _ | 6, _ | 10, _ | 18, _ =>
      obtain ⟨h1, rfl, rfl⟩ := call_plain (n := 1) rfl h
      obtain ⟨x, s, rfl⟩ := take_one h1
      exact ⟨[x], ⟨fun _ => ⟨1, rfl, h1, rfl, rfl⟩, fun z => absurd z (by decide), ⟨_, by decide, rfl⟩⟩, rfl⟩
    | 5, _ | 7, _ | 11, _ | 12, _ | 13, _ | 19, _ | 20, _ =>
      obtain ⟨h1, rfl, rfl⟩ := call_plain (n := 0) rfl h
      exact ⟨[], ⟨fun _ => ⟨0, rfl, h1, rfl, rfl⟩, fun z => absurd z (by decide), ⟨_, by decide, rfl⟩⟩, rfl⟩
    | 8, _ | 9, _ | 16, _ =>
      obtain ⟨m, r', rfl, h1, rfl, rfl⟩ := call_row rfl h
      exact ⟨r'.take m, ⟨fun z => absurd z (by decide), fun _ => ⟨m, r', rfl, h1, rfl, rfl⟩, ⟨_, by decide, rfl⟩⟩, rfl⟩
/-- one call more -/
theorem calls_step {f : Nat} {p : Int} {r : List Int} {cs : List (List (List Int))} (h : PyFlat.calls PySu85.shape f (p :: r) = some cs) :
    ∃ (g : Nat) (args rest : List Int) (c : List (List Int)) (cs' : List (List (List Int))), cs = c :: cs' ∧ PyFlat.calls PySu85.shape g rest = some cs' ∧ Head p r args rest ∧ (PySu85.whole c).headD [] = p :: args := by
  cases f with
  | zero => cases h
  | succ g =>
    unfold PyFlat.calls at h
    cases e : PyFlat.call PySu85.shape (p :: r) with
    | none => rw [e] at h; cases h
    | some x =>
      obtain ⟨c, t⟩ := x
      rw [e] at h
      have h : (match PyFlat.calls PySu85.shape g t with | none => none | some cs => some (c :: cs)) = some cs := h
      cases e2 : PyFlat.calls PySu85.shape g t with
      | none => rw [e2] at h; cases h
      | some cs' =>
        rw [e2] at h
        cases h
        obtain ⟨args, h1, h2⟩ := call_head e
        exact ⟨g, args, t, c, cs', rfl, e2, h1, h2⟩
end OK
end
section
set_option Elab.async false
set_option linter.all false
/-! What the later calls want: rows made of rows, days by themselves, what is settled last. -/
namespace OK
open Su85
/-- the rest of the days as an object of its own -/
theorem from_needs (a : Abs) (t : Nat) : (a.from_ t).needs = a.needs.drop t := rfl
theorem from_fees (a : Abs) (t : Nat) : (a.from_ t).fees = a.fees.drop t := rfl
theorem plus_needs (a : Abs) (l : List Nat) (h : l.length = a.needs.length) : (a.plus l).needs = (List.zip a.needs l).map fun p => p.1 + p.2 := by
  refine List.ext_getElem? fun i => ?_
  show ((List.range a.needs.length).map fun t => a.need t + l.getD t 0)[i]? = _
  rw [List.getElem?_map, List.getElem?_map]
  by_cases hi : i < a.needs.length
  · have e : (List.zip a.needs l)[i]? = some (a.need i, l.getD i 0) := by
      rw [List.getElem?_zip_eq_some]
      exact ⟨need_get a hi, by rw [List.getD_eq_getElem?_getD, List.getElem?_eq_getElem (by omega)]; rfl⟩
    rw [List.getElem?_range hi, e]; rfl
  · rw [List.getElem?_eq_none (by rw [List.length_range]; omega), List.getElem?_eq_none (by rw [List.length_zip]; omega)]; rfl
theorem plus_get (a : Abs) (l : List Nat) {i : Nat} (h : i < a.needs.length) : (a.plus l).needs[i]? = some (a.need i + l.getD i 0) := by
  show ((List.range a.needs.length).map fun t => a.need t + l.getD t 0)[i]? = _
  rw [List.getElem?_map, List.getElem?_range h]; rfl
theorem plus_len (a : Abs) (l : List Nat) : (a.plus l).needs.length = a.needs.length := by
  show ((List.range a.needs.length).map fun t => a.need t + l.getD t 0).length = _
  rw [List.length_map, List.length_range]
theorem other_needs (a : Abs) (l : List Nat) (h : l.length = a.needs.length) : a.other l = { a with needs := l } := by
  have e : (List.range a.needs.length).map (fun t => l.getD t 0) = l := by
    refine List.ext_getElem? fun i => ?_
    rw [List.getElem?_map]
    by_cases hi : i < a.needs.length
    · rw [List.getElem?_range hi, List.getElem?_eq_getElem (show i < l.length by omega)]
      show some (l.getD i 0) = _
      rw [List.getD_eq_getElem?_getD, List.getElem?_eq_getElem (show i < l.length by omega)]; rfl
    · rw [List.getElem?_eq_none (by rw [List.length_range]; omega), List.getElem?_eq_none (by omega)]; rfl
  show { a with needs := (List.range a.needs.length).map fun t => l.getD t 0 } = _
  rw [e]
/-- each day what it needs: nothing lies there -/
theorem shelf_each (a : Abs) : ∀ (l : List Nat) (t : Nat), (∀ i, i < l.length → l.getD i 0 = a.need (t + i)) → a.shelf t 0 l = some (List.replicate l.length 0)
  | [], t, _ => rfl
  | q :: l, t, h => by
    have h0 : q = a.need t := h 0 (by simp)
    show (if 0 + q < a.need t then none else (a.shelf (t + 1) (0 + q - a.need t) l).map fun r => (0 + q - a.need t) :: r) = _
    rw [if_neg (by omega), show 0 + q - a.need t = 0 by omega, shelf_each a l (t + 1) fun i hi => by
      have := h (i + 1) (by simp; omega)
      rw [show t + 1 + i = t + (i + 1) by omega]
      exact this]
    rfl
theorem cost_each (a : Abs) : a.cost a.needs = some (a.feesOf 0 a.needs) := by
  unfold Abs.cost
  rw [shelf_each a a.needs 0 fun i hi => by rw [Nat.zero_add]; rfl]
  show some (a.feesOf 0 a.needs + a.keep * (List.replicate a.needs.length 0).sum) = _
  have e : ∀ n : Nat, (List.replicate n 0).sum = 0 := fun n => by
    induction n with
    | zero => rfl
    | succ n ih => rw [List.replicate_succ, List.sum_cons, ih]
  rw [e, Nat.mul_zero, Nat.add_zero]
/-- once: all on day 0 -/
def oncePlan (a : Abs) : List Nat := (List.range a.days).map fun t => if t = 0 then a.span 0 a.days else 0
theorem shelf_zeros (a : Abs) : ∀ (n t s : Nat), a.span t (t + n) = s → a.shelf t s (List.replicate n 0) = some ((List.range n).map fun k => a.span (t + k + 1) (t + n))
  | 0, t, s, _ => rfl
  | n + 1, t, s, h => by
    rw [span_step a (show t < t + (n + 1) by omega)] at h
    show (if s + 0 < a.need t then none else (a.shelf (t + 1) (s + 0 - a.need t) (List.replicate n 0)).map fun r => (s + 0 - a.need t) :: r) = _
    rw [if_neg (by omega), shelf_zeros a n (t + 1) (s + 0 - a.need t) (by rw [show t + 1 + n = t + (n + 1) by omega]; omega), List.range_succ_eq_map, List.map_cons, List.map_map]
    have e : s + 0 - a.need t = a.span (t + 0 + 1) (t + (n + 1)) := by show s - a.need t = a.span (t + 1) (t + (n + 1)); omega
    show some ((s + 0 - a.need t) :: _) = _
    rw [e]
    refine congrArg (fun l => some (a.span (t + 0 + 1) (t + (n + 1)) :: l)) (List.map_congr_left fun k _ => ?_)
    show a.span (t + 1 + k + 1) (t + 1 + n) = a.span (t + (k + 1) + 1) (t + (n + 1))
    rw [show t + 1 + k + 1 = t + (k + 1) + 1 by omega, show t + 1 + n = t + (n + 1) by omega]
theorem once_plan (a : Abs) {n : Nat} (h : a.needs.length = n + 1) : oncePlan a = a.span 0 (n + 1) :: List.replicate n 0 := by
  unfold oncePlan
  have hd : a.days = n + 1 := h
  rw [hd, List.range_succ_eq_map, List.map_cons, List.map_map, if_pos rfl]
  refine congrArg (fun l => a.span 0 (n + 1) :: l) ?_
  refine List.ext_getElem? fun i => ?_
  rw [List.getElem?_map]
  by_cases hi : i < n
  · rw [List.getElem?_range hi, List.getElem?_replicate, if_pos hi]; rfl
  · rw [List.getElem?_eq_none (by rw [List.length_range]; omega), List.getElem?_eq_none (by rw [List.length_replicate]; omega)]; rfl
/-- the last settled day -/
theorem find_last {p : Nat → Bool} : ∀ n : Nat, ((List.range n).reverse.find? p = none ↔ ∀ i, i < n → p i = false) ∧ ∀ t, ((List.range n).reverse.find? p = some t ↔ t < n ∧ p t = true ∧ ∀ i, t < i → i < n → p i = false)
  | 0 => ⟨⟨fun _ i h => absurd h (by omega), fun _ => rfl⟩, fun t => ⟨fun h => (by cases h), fun h => absurd h.1 (by omega)⟩⟩
  | n + 1 => by
    obtain ⟨h1, h2⟩ := find_last (p := p) n
    rw [List.range_succ, List.reverse_append, List.reverse_singleton, List.singleton_append, List.find?_cons]
    cases e : p n with
    | true =>
      refine ⟨⟨fun h => (by cases h), fun h => (by rw [h n (by omega)] at e; cases e)⟩, fun t => ⟨fun h => ?_, fun h => ?_⟩⟩
      · have : n = t := Option.some.inj h
        subst this
        exact ⟨by omega, e, fun i h3 h4 => absurd h3 (by omega)⟩
      · by_cases ht : t = n
        · rw [ht]
        · have := h.2.2 n (by omega) (by omega)
          rw [this] at e; cases e
    | false =>
      refine ⟨⟨fun h i hi => ?_, fun h => h1.mpr fun i hi => h i (by omega)⟩, fun t => ⟨fun h => ?_, fun h => ?_⟩⟩
      · by_cases hn : i = n
        · rw [hn]; exact e
        · exact h1.mp h i (by omega)
      · obtain ⟨k1, k2, k3⟩ := (h2 t).mp h
        refine ⟨by omega, k2, fun i h3 h4 => ?_⟩
        by_cases hn : i = n
        · rw [hn]; exact e
        · exact k3 i h3 (by omega)
      · obtain ⟨k1, k2, k3⟩ := h
        refine (h2 t).mpr ⟨?_, k2, fun i h3 h4 => k3 i h3 (by omega)⟩
        by_cases hn : t = n
        · rw [hn] at k2; rw [k2] at e; cases e
        · omega
end OK
end
section
set_option Elab.async false
set_option linter.all false
set_option maxRecDepth 100000
set_option maxHeartbeats 2000000
namespace OK
open PySem PySem.Spec PyProof.Rows L2
open Su85 (Abs)

/-! ### the text by places -/
def top (i : Nat) : Stmt := PySem.Challenge.pw_orderkeeping_s01_answers.main.body.getD i (.Pass ⟨0, 0, 0, 0⟩)
abbrev sBestInit : Stmt := inClass (top 1) 0
abbrev sBestOrders : Stmt := top 2
abbrev sAdd : Stmt := top 3
abbrev sKept : Stmt := top 4
abbrev sPlanTold : Stmt := top 5
abbrev sLeastOf : Stmt := top 6
abbrev sLeastPlan : Stmt := top 7
abbrev sLies : Stmt := top 8
abbrev sCosts : Stmt := top 9

/-! ### rows of whole numbers -/
def iv (l : List Nat) : List V := l.map fun (n : Nat) => V.int (n : Int)
theorem iv_len (l : List Nat) : (iv l).length = l.length := by unfold iv; rw [List.length_map]
theorem iv_get {l : List Nat} {i n : Nat} (h : l[i]? = some n) : (iv l)[i]? = some (V.int (n : Int)) := by unfold iv; rw [List.getElem?_map, h]; rfl
theorem iv_snoc (l : List Nat) (n : Nat) : iv (l ++ [n]) = iv l ++ [V.int (n : Int)] := by unfold iv; rw [List.map_append]; rfl
theorem iv_int (l : List Nat) : iv l = (l.map fun (n : Nat) => (n : Int)).map V.int := by unfold iv; rw [List.map_map]; rfl
theorem sum_int : ∀ l : List Nat, (l.map fun (n : Nat) => (n : Int)).sum = ((l.sum : Nat) : Int)
  | [] => rfl
  | a :: l => by rw [List.map_cons, List.sum_cons, List.sum_cons, sum_int l]; omega
theorem getD_get {l : List Nat} {i : Nat} (h : i < l.length) : l[i]? = some (l.getD i 0) := by
  rw [List.getD_eq_getElem?_getD, List.getElem?_eq_getElem h]; rfl
theorem small10 {n : Nat} (h : n ≤ 1000) : n < sizeLine := Nat.lt_of_le_of_lt h (by decide)
theorem Same.upd {H H' : Hp} {D : Addr} {o : HO} (s : Same H H') (h : H D = none) : Same H (L2.upd H' D o) := fun b u e => by
  rw [upd_ne (ne_of_none e h)]; exact s b u e

/-! ### what the text holds -/
structure Txt (K : PySem.W.Frag) (mg : Str → Option Value) (CB : Addr) : Prop where
  clB : Cls K CB
  nL : NoAttr K CB "leasts"
  nD : NoAttr K CB "lasts"
  mgB : mg "Best" = some (.ref CB)
  range : mg "range" = none
  len : mg "len" = none
  sum : mg "sum" = none
  min : mg "min" = none
  max : mg "max" = none
  list : mg "list" = none

/-! ### kept_from -/
def kept (ns : List Nat) (k i d : Nat) : Nat := k * ((List.range (d + 1 - i)).map fun m => m * ns.getD (i + m) 0).sum
def spKept (K : PySem.W.Frag) : Sp := fun vs H Q _ => ∃ (pn : Addr) (ns : List Nat) (k i d : Nat), vs = [.ref pn, .int k, .int i, .int d] ∧ SqL K H pn (iv ns) ∧ i ≤ d ∧ d < ns.length ∧ ns.length ≤ 10 ∧ k ≤ 100 ∧
  ∀ H' : Hp, Same H H' → Q (.int (kept ns k i d : Nat)) H'
section
variable {P : Program} {w : World} {K : PySem.W.Frag} {mg : Str → Option Value} {base : Heap}
theorem scKept : FnScope ["needs", "keeping", "first", "day", "j"] ["needs", "keeping", "first", "day"] (defScope sKept) := ⟨rfl, rfl, rfl, by decide +kernel, rfl, by decide +kernel, by decide +kernel⟩
theorem ok_kept {f CB : Addr} {fd : FuncData} (F : Fun K "kept_from" "kept_from" sKept f fd) (T : Txt K mg CB) : FnOk P w K mg base CX0 1 f fd ["needs", "keeping", "first", "day"] (spKept K) := by
  refine F.ok scKept (fun vs H Q E h => ?_) (fun cdv A outer s H vs Q E hr h => ?_)
  · obtain ⟨pn, ns, k, i, d, rfl, _⟩ := h
    rfl
  · obtain ⟨pn, ns, k, i, d, rfl, hS, hid, hd, hn, hk, q⟩ := h
    refine ⟨_, pss_one (ps_ret (pe_op op_mul (pv 1) (pe_callB (cr_sum rfl) rfl T.sum boot_sum (pa_cons
      (pe_lc rfl scKept.nd (pi_range2 rfl T.range (pa_cons (pv 2) (pa_cons (pe_op op_add (pv 3) pe_int) pa_nil))) (own := [("j", 4)]) (blkOk_by (show blkC ["needs", "keeping", "first", "day", "j"] (defScope sKept) _ _ = true by decide +kernel))
        (fun _ _ _ _ _ => pg_name (i := 4) scKept.nd rfl (Or.inl rfl)) (fun _ _ _ _ _ => pts_nil)
        (fun _ _ _ _ _ => pe_op op_mul (pe_ix (r := rIxL K) ix_list (pv 0) (pv 4) (fun _ _ => rfl)) (pe_op op_sub (pv 4) (pv 2)))) pa_nil)))), ?_⟩
    refine ⟨_, rfl, _, rfl, _, rfl, _, _, rfl, rfl, _, _, rfl, ⟨by omega, by omega, by omega, by omega⟩, fun D hD => ?_⟩
    refine lc_range (fun m H' => Same H H' ∧ H' D = some (.lst (iv ((List.range m).map fun m => ns.getD (i + m) 0 * m)))) ⟨Same.upd (Same.refl H) hD, upd_same⟩ ?_ ?_
    · rintro m H' hm ⟨s1, hL⟩
      have hm' : i + m < ns.length := by omega
      refine ⟨rfl, ?_⟩
      refine ⟨_, rfl, _, rfl, pn, _, _, _, rfl, rfl, s1.seq hS, at_of (j := i + m) (by omega) (iv_get (getD_get hm')), _, rfl, _, rfl, _, _, rfl, rfl, _, _, rfl, rfl, .inr ⟨by omega, by omega⟩, _, hL, ?_, ?_, ?_⟩
      · rw [iv_len, List.length_map, List.length_range]
        exact small10 (by omega)
      · exact Same.upd s1 hD
      · rw [upd_same, List.range_succ, List.map_append, List.map_cons, List.map_nil, iv_snoc]
        have e : (i : Int) + (m : Int) - (i : Int) = (m : Int) := by omega
        rw [e, Int.natCast_mul]
    · rintro H' ⟨s1, hL⟩
      rw [iv_int] at hL
      refine ⟨D, _, rfl, SqL.of hL, _, _, rfl, rfl, .inl ⟨by omega, by omega⟩, ?_⟩
      have e : (k : Int) * (((List.range ((d : Int) + 1 - i).toNat).map fun m => ns.getD (i + m) 0 * m).map fun (n : Nat) => (n : Int)).sum = ((kept ns k i d : Nat) : Int) := by
        rw [sum_int, ← Int.natCast_mul]
        have e1 : ((d : Int) + 1 - i).toNat = d + 1 - i := by omega
        have e2 : (fun m => ns.getD (i + m) 0 * m) = fun m => m * ns.getD (i + m) 0 := by funext m; rw [Nat.mul_comm]
        rw [e1, e2]; rfl
      show Q (V.int (_ * _)) H'
      rw [e]
      exact q H' s1
end
end OK
end
section
set_option Elab.async false
set_option linter.all false
set_option maxRecDepth 100000
set_option maxHeartbeats 4000000
namespace OK
open PySem PySem.Spec PyProof.Rows L2
open Su85 (Abs)

/-! ### Best -/
def bf (l d : Addr) : List (Str × V) := [("leasts", .ref l), ("lasts", .ref d)]
structure BestAt (CB : Addr) (H : Hp) (p pL pD : Addr) (a : Abs) (n : Nat) : Prop where
  ins : ∃ dx, H p = some (.ins CB dx (bf pL pD))
  L : H pL = some (.lst (iv (leasts a n)))
  D : H pD = some (.lst (iv (lasts a n)))
  ne : pL ≠ pD
/-- what is needed, the fees: rows that are read; as many days, at most ten -/
structure Days (K : PySem.W.Frag) (H : Hp) (pn pf : Addr) (a : Abs) : Prop where
  n : SqL K H pn (iv a.needs)
  f : SqL K H pf (iv a.fees)
  len : a.fees.length = a.needs.length
  ten : a.needs.length ≤ 10
  keep : a.keep ≤ 100
theorem Days.same {K : PySem.W.Frag} {H H' : Hp} {pn pf : Addr} {a : Abs} (s : Same H H') (d : Days K H pn pf a) : Days K H' pn pf a := ⟨s.seq d.n, s.seq d.f, d.len, d.ten, d.keep⟩
theorem block_kept (a : Abs) (i d : Nat) : a.block i (d + 1) = a.fee i + kept a.needs a.keep i d := rfl

def spAdd (K : PySem.W.Frag) (CB : Addr) : Sp := fun vs H Q _ => ∃ (p pL pD pn pf : Addr) (a : Abs) (d : Nat), vs = [.ref p, .ref pn, .ref pf, .int a.keep, .int d] ∧ Days K H pn pf a ∧ d < a.needs.length ∧ a.need d ≠ 0 ∧ BestAt CB H p pL pD a d ∧
  ∀ H' : Hp, BestAt CB H' p pL pD a (d + 1) → (∀ b o, H b = some o → b ≠ pL → b ≠ pD → H' b = some o) → Q .non H'
section
variable {P : Program} {w : World} {K : PySem.W.Frag} {mg : Str → Option Value} {base : Heap}
abbrev nAdd : List Str := ["best", "needs", "fees", "keeping", "day", "totals", "least", "last", "i"]
theorem scAdd : FnScope nAdd ["best", "needs", "fees", "keeping", "day"] (defScope sAdd) := ⟨rfl, rfl, rfl, by decide +kernel, rfl, by decide +kernel, by decide +kernel⟩
theorem leasts_snoc {a : Abs} {n x y : Nat} (e : a.table (n + 1) = a.table n ++ [(x, y)]) : iv (leasts a (n + 1)) = iv (leasts a n) ++ [V.int (x : Int)] := by
  rw [← iv_snoc]; unfold leasts; rw [e, List.map_append]; rfl
theorem lasts_snoc {a : Abs} {n x y : Nat} (e : a.table (n + 1) = a.table n ++ [(x, y)]) : iv (lasts a (n + 1)) = iv (lasts a n) ++ [V.int (y : Int)] := by
  rw [← iv_snoc]; unfold lasts; rw [e, List.map_append]; rfl
theorem mem_iv {l : List Nat} {m : Int} (h : m ∈ l.map fun (n : Nat) => (n : Int)) : ∃ n : Nat, n ∈ l ∧ m = (n : Int) := by
  obtain ⟨n, h1, h2⟩ := List.mem_map.mp h
  exact ⟨n, h1, h2.symm⟩
theorem ok_add {f fk CB : Addr} {fd fdk : FuncData} (F : Fun K "add_needing_day" "add_needing_day" sAdd f fd) (T : Txt K mg CB) (FK : Fun K "kept_from" "kept_from" sKept fk fdk) (mk : mg "kept_from" = some (.ref fk)) (bk : Binds K fdk ["needs", "keeping", "first", "day"] []) :
    FnOk P w K mg base CX0 2 f fd ["best", "needs", "fees", "keeping", "day"] (spAdd K CB) := by
  have GK : FnOk P w K mg base CX0 1 fk fdk ["needs", "keeping", "first", "day"] (spKept K) := ok_kept FK T
  refine F.ok scAdd (fun vs H Q E h => ?_) (fun cdv A outer s H vs Q E hr h => ?_)
  · obtain ⟨p, pL, pD, pn, pf, a, d, rfl, _⟩ := h
    rfl
  · obtain ⟨p, pL, pD, pn, pf, a, d, rfl, hY, hd, h0, hB, q⟩ := h
    obtain ⟨dx, hp⟩ := hB.ins
    refine ⟨_, pss_cons (ps_set (i := 5) scAdd.nd rfl (Or.inr rfl) (pe_lc rfl scAdd.nd (pi_range1 rfl T.range (pa_cons (pe_op op_add (pv 4) pe_int) pa_nil)) (own := [("i", 8)]) (blkOk_by (show blkC nAdd (defScope sAdd) _ _ = true by decide +kernel))
        (fun _ _ _ _ _ => pg_name (i := 8) scAdd.nd rfl (Or.inl rfl)) (fun _ _ _ _ _ => pts_nil)
        (fun _ _ _ _ _ => pe_op op_add (pe_op op_add (pe_ix (r := rIxL K) ix_list (show PE _ _ (tFld K (tVar 0) "leasts") from pe_fld (pv 0) rfl) (pv 8) (fun _ _ => rfl)) (pe_ix (r := rIxL K) ix_list (pv 2) (pv 8) (fun _ _ => rfl)))
          (pe_call GK hr rfl mk FK.kp bk .nil pass0 (pa_cons (pv 1) (pa_cons (pv 3) (pa_cons (pv 8) (pa_cons (pv 4) pa_nil))))))))
      (pss_cons (ps_set (i := 6) scAdd.nd rfl (Or.inr rfl) (pe_callB (cr_min rfl) rfl T.min boot_min (pa_cons (pv 5) pa_nil)))
      (pss_cons (ps_set (i := 7) scAdd.nd rfl (Or.inl rfl) (pe_callB (cr_max rfl) rfl T.max boot_max (pa_cons (pe_lc rfl scAdd.nd (pi_range1 rfl T.range (pa_cons (pe_op op_add (pv 4) pe_int) pa_nil)) (own := [("i", 8)]) (blkOk_by (show blkC nAdd (defScope sAdd) _ _ = true by decide +kernel))
        (fun _ _ _ _ _ => pg_name (i := 8) scAdd.nd rfl (Or.inl rfl)) (fun _ _ _ _ _ => pts_one (pt_cmpR op_eq (pe_ix (r := rIxL K) ix_list (pv 5) (pv 8) (fun _ _ => rfl)) (pv 6) (nomark _)))
        (fun _ _ _ _ _ => pv 8)) pa_nil)))
      (pss_cons (ps_expr (pe_bm PySem.F.plainAttrs_list PySem.F.slot_list_append PySem.F.type_list_append mt_append (pe_fld (pv 0) rfl) (pa_cons (pv 6) pa_nil)))
      (pss_one (ps_expr (pe_bm PySem.F.plainAttrs_list PySem.F.slot_list_append PySem.F.type_list_append mt_append (pe_fld (pv 0) rfl) (pa_cons (pe_op op_add (pv 7) pe_int) pa_nil))))))), ?_⟩
    have hlen := hY.len
    have hten := hY.ten
    have hkeep := hY.keep
    -- totals = [..]
    refine ⟨_, rfl, _, _, rfl, rfl, _, rfl, by omega, by omega, fun D1 hD1 => ?_⟩
    refine lc_range (fun m H' => Same H H' ∧ H' D1 = some (.lst (iv ((List.range m).map fun i => a.least i + a.block i (d + 1))))) ⟨Same.upd (Same.refl H) hD1, upd_same⟩ ?_ ?_
    · rintro m H' hm ⟨s1, hL⟩
      have hm' : m ≤ d := by omega
      refine ⟨rfl, ?_⟩
      refine ⟨_, rfl, p, CB, dx, _, _, rfl, s1 _ _ hp, T.clB, T.nL, rfl, _, rfl, pL, _, _, _, rfl, rfl, SqL.of (s1 _ _ hB.L), at_of (j := m) (by omega) (iv_get (leasts_get a hm')), ?_⟩
      refine ⟨_, rfl, _, rfl, pf, _, _, _, rfl, rfl, s1.seq hY.f, at_of (j := m) (by omega) (iv_get (fee_get a (by omega))), _, _, rfl, rfl, ?_⟩
      refine ⟨_, rfl, _, rfl, _, rfl, _, rfl, pn, a.needs, a.keep, m, d, ?_, s1.seq hY.n, hm', hd, hten, hkeep, fun H2 s2 => ?_⟩
      · show [V.ref pn, V.int a.keep, V.int (0 + (m : Int)), V.int d] = _
        rw [Int.zero_add]
      refine ⟨_, _, rfl, rfl, _, s2 _ _ hL, ?_, Same.upd (s1.trans s2) hD1, ?_⟩
      · rw [iv_len, List.length_map, List.length_range]
        exact small10 (by omega)
      · rw [upd_same, List.range_succ, List.map_append, List.map_cons, List.map_nil, iv_snoc]
        have e : (a.least m : Int) + (a.fee m : Int) + ((kept a.needs a.keep m d : Nat) : Int) = ((a.least m + a.block m (d + 1) : Nat) : Int) := by
          rw [block_kept]; omega
        show some (HO.lst (_ ++ [V.int (_ + _ + _)])) = _
        rw [e]
    · rintro H1 ⟨s1, hL⟩
      have ed : ((d : Int) + 1).toNat = d + 1 := by omega
      rw [ed] at hL
      -- least = min(totals)
      refine ⟨_, rfl, D1, _, rfl, SqL.of (by rw [iv_int] at hL; exact hL), by rw [List.length_map, List.length_map, List.length_range]; omega, fun m hm1 hm2 => ?_⟩
      obtain ⟨m, hm3, rfl⟩ := mem_iv hm1
      obtain ⟨i0, hi0, ei0⟩ := List.mem_map.mp hm3
      have hi0 := List.mem_range.mp hi0
      have hmin : ∀ i, i ≤ d → m ≤ a.least i + a.block i (d + 1) := fun i hi => by
        have := hm2 ((a.least i + a.block i (d + 1) : Nat) : Int) (List.mem_map.mpr ⟨_, List.mem_map.mpr ⟨i, List.mem_range.mpr (by omega), rfl⟩, rfl⟩)
        omega
      -- last = max([..])
      refine ⟨_, rfl, _, _, rfl, rfl, _, rfl, by omega, by omega, fun D2 hD2 => ?_⟩
      refine lc_range (fun n H' => Same H1 H' ∧ H' D2 = some (.lst (iv ((List.range n).filter fun i => decide (a.least i + a.block i (d + 1) = m))))) ⟨Same.upd (Same.refl H1) hD2, upd_same⟩ ?_ ?_
      · rintro n H' hn ⟨s2, hL2⟩
        have hn' : n ≤ d := by omega
        have e0 : (0 : Int) + (n : Int) = (n : Int) := Int.zero_add _
        refine ⟨rfl, _, rfl, _, rfl, D1, _, _, _, rfl, rfl, SqL.of (s2 _ _ hL), at_of (j := n) (by omega) (iv_get (n := a.least n + a.block n (d + 1)) (by rw [List.getElem?_map, List.getElem?_range (by omega)]; rfl)), _, rfl, rfl, _, rfl, ?_⟩
        refine ite2 (fun hc => ?_) (fun hc => ?_)
        · have hc : a.least n + a.block n (d + 1) = m := by
            have := V.int.inj (of_decide_eq_true hc)
            omega
          refine ⟨_, rfl, _, hL2, ?_, Same.upd s2 hD2, ?_⟩
          · rw [iv_len]
            exact small10 (Nat.le_trans (List.length_filter_le _ _) (by rw [List.length_range]; omega))
          · rw [upd_same, List.range_succ, List.filter_append, List.filter_cons, if_pos (decide_eq_true hc), List.filter_nil, iv_snoc, e0]
        · refine ⟨s2, ?_⟩
          have hc : ¬ a.least n + a.block n (d + 1) = m := fun e => hc (decide_eq_true (by rw [e]))
          rw [List.range_succ, List.filter_append, List.filter_cons, if_neg (fun e => hc (of_decide_eq_true e)), List.filter_nil, List.append_nil]
          exact hL2
      · rintro H2 ⟨s2, hL2⟩
        rw [ed, iv_int] at hL2
        have hmem : i0 ∈ (List.range (d + 1)).filter fun i => decide (a.least i + a.block i (d + 1) = m) := List.mem_filter.mpr ⟨List.mem_range.mpr hi0, decide_eq_true ei0⟩
        refine ⟨D2, _, rfl, SqL.of hL2, by rw [List.length_map]; exact List.length_pos_of_mem hmem, fun L hL1 hLm => ?_⟩
        obtain ⟨L, hL5, rfl⟩ := mem_iv hL1
        obtain ⟨hL3, hL4⟩ := List.mem_filter.mp hL5
        have hL3 := List.mem_range.mp hL3
        have hL4 : a.least L + a.block L (d + 1) = m := of_decide_eq_true hL4
        have hmax : ∀ i, i ≤ d → a.least i + a.block i (d + 1) = m → i ≤ L := fun i hi e => by
          have := hLm (i : Int) (List.mem_map.mpr ⟨i, List.mem_filter.mpr ⟨List.mem_range.mpr (by omega), decide_eq_true e⟩, rfl⟩)
          omega
        have et := table_need a h0 ⟨i0, by omega, ei0⟩ hmin (by omega) hL4 hmax
        have s12 := s1.trans s2
        have npL : p ≠ pL := ne_of hp hB.L (by intro z; cases z)
        have npD : p ≠ pD := ne_of hp hB.D (by intro z; cases z)
        refine ⟨_, rfl, p, CB, dx, _, _, rfl, s12 _ _ hp, T.clB, T.nL, rfl, .inl ⟨rfl, _, SqL.of (s12 _ _ hB.L)⟩, _, rfl, pL, _, _, rfl, rfl, s12 _ _ hB.L, by rw [iv_len, leasts_len]; exact small10 (by omega), ?_⟩
        refine ⟨_, rfl, p, CB, dx, bf pL pD, .ref pD, rfl, (by rw [upd_ne npL]; exact s12 _ _ hp), T.clB, T.nD, rfl, .inl ⟨rfl, _, SqL.of (show _ = some (HO.lst (iv (lasts a d))) by rw [upd_ne hB.ne.symm]; exact s12 _ _ hB.D)⟩, _, rfl, _, _, rfl, rfl, pD, iv (lasts a d), _, rfl, rfl, (by rw [upd_ne hB.ne.symm]; exact s12 _ _ hB.D), by rw [iv_len, lasts_len]; exact small10 (by omega), ?_⟩
        refine q _ ⟨⟨dx, by rw [upd_ne npD, upd_ne npL]; exact s12 _ _ hp⟩, ?_, ?_, hB.ne⟩ fun b o e h1 h2 => by rw [upd_ne h2, upd_ne h1]; exact s12 _ _ e
        · rw [upd_ne hB.ne, upd_same, leasts_snoc et]
        · rw [upd_same, lasts_snoc et]; rfl
end
end OK
end
section
set_option Elab.async false
set_option linter.all false
set_option maxRecDepth 100000
set_option maxHeartbeats 4000000
namespace OK
open PySem PySem.Spec PyProof.Rows L2
open Su85 (Abs)

def spBestInit (CB : Addr) : Sp := fun vs H Q _ => ∃ (p dx : Addr), vs = [.ref p] ∧ H p = some (.ins CB dx []) ∧
  ∀ (H' : Hp) (pL pD : Addr), H' p = some (.ins CB dx (bf pL pD)) → H' pL = some (.lst [.int 0]) → H' pD = some (.lst [.int 0]) → pL ≠ pD → H pL = none → H pD = none → (∀ b o, H b = some o → b ≠ p → H' b = some o) → Q .non H'
def spBest (K : PySem.W.Frag) (CB : Addr) : Sp := fun vs H Q _ => ∃ (pn pf : Addr) (a : Abs), vs = [.ref pn, .ref pf, .int a.keep] ∧ Days K H pn pf a ∧
  ∀ (H' : Hp) (p pL pD : Addr), Same H H' → BestAt CB H' p pL pD a a.needs.length → Q (.ref p) H'
section
variable {P : Program} {w : World} {K : PySem.W.Frag} {mg : Str → Option Value} {base : Heap}
theorem scBI : FnScope ["self"] ["self"] (defScope sBestInit) := ⟨rfl, rfl, rfl, by decide +kernel, rfl, by decide +kernel, by decide +kernel⟩
theorem ok_bestInit {f CB : Addr} {fd : FuncData} (F : Fun K "__init__" "Best.__init__" sBestInit f fd) (T : Txt K mg CB) : FnOk P w K mg base CX0 1 f fd ["self"] (spBestInit CB) := by
  refine F.ok scBI (fun vs H Q E h => ?_) (fun cdv A outer s H vs Q E hr h => ?_)
  · obtain ⟨p, dx, rfl, _⟩ := h
    rfl
  · obtain ⟨p, dx, rfl, hp, k⟩ := h
    refine ⟨_, pss_cons (ps_fld (pv 0) (pe_lst (pa_cons pe_int pa_nil)) rfl) (pss_one (ps_fld (pv 0) (pe_lst (pa_cons pe_int pa_nil)) rfl)), ?_⟩
    refine ⟨(by show 1 ≤ sizeLine; decide), fun pL hL => ?_⟩
    have n1 : p ≠ pL := ne_of_none hp hL
    refine ⟨_, rfl, p, CB, dx, [], rfl, by rw [upd_ne n1]; exact hp, T.clB, T.nL, (by show 0 < 1000; decide), ?_⟩
    refine ⟨(by show 1 ≤ sizeLine; decide), fun pD hD => ?_⟩
    have n2 : pD ≠ p := fun e => by subst e; rw [upd_same] at hD; cases hD
    have n3 : pD ≠ pL := fun e => by subst e; rw [upd_ne n1.symm, upd_same] at hD; cases hD
    have hD0 : H pD = none := by rw [upd_ne n2, upd_ne n3] at hD; exact hD
    refine ⟨_, rfl, p, CB, dx, _, rfl, by rw [upd_ne n2.symm, upd_same], T.clB, T.nD, (by show 1 < 1000; decide), ?_⟩
    refine k _ pL pD upd_same (by rw [upd_ne n1.symm, upd_ne n3.symm, upd_ne n1.symm, upd_same]) (by rw [upd_ne n2, upd_same]) n3.symm hL hD0 fun b o e hb => ?_
    rw [upd_ne hb, upd_ne (ne_of_none e hD0), upd_ne hb, upd_ne (ne_of_none e hL)]
    exact e
abbrev nBest : List Str := ["needs", "fees", "keeping", "best", "day"]
theorem scBest : FnScope nBest ["needs", "fees", "keeping"] (defScope sBestOrders) := ⟨rfl, rfl, rfl, by decide +kernel, rfl, by decide +kernel, by decide +kernel⟩
theorem leasts_zero (a : Abs) : iv (leasts a 0) = [V.int 0] := rfl
theorem lasts_zero (a : Abs) : iv (lasts a 0) = [V.int 0] := rfl
theorem ok_best {f fi fa CB : Addr} {fd fdi fda : FuncData} (F : Fun K "best_orders" "best_orders" sBestOrders f fd) (T : Txt K mg CB) (M : Mk K CB fi) (FI : Fun K "__init__" "Best.__init__" sBestInit fi fdi) (bi : Binds K fdi ["self"] [])
    (GA : FnOk P w K mg base CX0 2 fa fda ["best", "needs", "fees", "keeping", "day"] (spAdd K CB)) (ka : PySem.W.keepIn K (.ref fa) = true) (ma : mg "add_needing_day" = some (.ref fa)) (ba : Binds K fda ["best", "needs", "fees", "keeping", "day"] []) :
    FnOk P w K mg base CX0 3 f fd ["needs", "fees", "keeping"] (spBest K CB) := by
  have GI : FnOk P w K mg base CX0 1 fi fdi ["self"] (spBestInit CB) := ok_bestInit FI T
  refine F.ok scBest (fun vs H Q E h => ?_) (fun cdv A outer s H vs Q E hr h => ?_)
  · obtain ⟨pn, pf, a, rfl, _⟩ := h
    rfl
  · obtain ⟨pn, pf, a, rfl, hY, q⟩ := h
    have hten := hY.ten
    refine ⟨_, pss_cons (ps_set (i := 3) scBest.nd rfl (Or.inl rfl) (pe_make0 M GI hr rfl T.mgB bi .nil pass0))
      (pss_cons (ps_for PassesOwn.never rfl (pi_range1 rfl T.range (pa_cons (pe_callB call_len_seq rfl T.len PySem.boot_len (pa_cons (pv 0) pa_nil)) pa_nil)) (pg_name (i := 4) scBest.nd rfl (Or.inl rfl))
        (pss_one (ps_if (pt_cmpR op_eq (pe_ix ix_list (pv 0) (pv 4) (fun _ _ => rfl)) pe_int (nomark _))
          (pss_cons (ps_expr (pe_bm PySem.F.plainAttrs_list PySem.F.slot_list_append PySem.F.type_list_append mt_append (pe_fld (pv 3) rfl) (pa_cons (pe_ix ix_list (pe_fld (pv 3) rfl) (pv 4) (fun _ _ => rfl)) pa_nil)))
          (pss_one (ps_expr (pe_bm PySem.F.plainAttrs_list PySem.F.slot_list_append PySem.F.type_list_append mt_append (pe_fld (pv 3) rfl) (pa_cons (pe_ix ix_list (pe_fld (pv 3) rfl) (pv 4) (fun _ _ => rfl)) pa_nil)))))
          (pss_one (ps_expr (pe_call GA hr rfl ma ka ba .nil pass0 (pa_cons (pv 3) (pa_cons (pv 0) (pa_cons (pv 1) (pa_cons (pv 2) (pa_cons (pv 4) pa_nil)))))))))))
      (pss_one (ps_ret (pv 3)))), ?_⟩
    intro p dx np nd ne
    refine ⟨p, dx, rfl, upd_same, fun H1 pL pD hp hL hD nLD fL fD fr => ⟨rfl, ?_⟩⟩
    have s1 : Same H H1 := Same.made np nd fr
    have fL : H pL = none := by
      cases e : H pL with
      | none => rfl
      | some o => rw [upd_ne (ne_of_none e np), upd_ne (ne_of_none e nd), e] at fL; cases fL
    have fD : H pD = none := by
      cases e : H pD with
      | none => rfl
      | some o => rw [upd_ne (ne_of_none e np), upd_ne (ne_of_none e nd), e] at fD; cases fD
    have B0 : BestAt CB H1 p pL pD a 0 := ⟨⟨dx, hp⟩, by rw [leasts_zero]; exact hL, by rw [lasts_zero]; exact hD, nLD⟩
    refine ⟨_, rfl, pn, _, rfl, .inl (s1.seq hY.n), _, rfl, by omega, by rw [iv_len]; omega, ?_⟩
    refine for_range (fun i σ H' => ∃ v, σ = [some (.ref pn), some (.ref pf), some (.int a.keep), some (.ref p), v] ∧ Same H H' ∧ BestAt CB H' p pL pD a i) ⟨none, rfl, s1, B0⟩ ?_ ?_
    · rintro i σ H' hi ⟨v, rfl, s2, B⟩
      have hi' : i < a.needs.length := by rw [iv_len] at hi; omega
      have e0 : (0 : Int) + (i : Int) = (i : Int) := Int.zero_add _
      obtain ⟨dx', hp'⟩ := B.ins
      refine ⟨_, rfl, _, rfl, pn, _, _, _, rfl, rfl, s2.seq hY.n, at_of (j := i) (by omega) (iv_get (need_get a hi')), rfl, _, rfl, ?_⟩
      have npL : p ≠ pL := ne_of hp' B.L (by intro z; cases z)
      have npD : p ≠ pD := ne_of hp' B.D (by intro z; cases z)
      refine ite2 (fun hc => ?_) (fun hc => ?_)
      · have hc : a.need i = 0 := by
          have := V.int.inj (of_decide_eq_true hc)
          omega
        have et := table_none a hc
        refine ⟨_, rfl, p, CB, dx', bf pL pD, .ref pL, rfl, hp', T.clB, T.nL, rfl, .inl ⟨rfl, _, SqL.of B.L⟩, _, rfl, p, CB, dx', bf pL pD, .ref pL, rfl, hp', T.clB, T.nL, rfl, _, rfl, pL, _, _, _, rfl, rfl, SqL.of B.L, at_of (j := i) (by omega) (iv_get (leasts_get a (Nat.le_refl i))), pL, iv (leasts a i), _, rfl, rfl, B.L, (by rw [iv_len, leasts_len]; exact small10 (by omega)), ?_⟩
        have hD' : upd H' pL (HO.lst (iv (leasts a i) ++ [V.int (a.least i : Int)])) pD = some (.lst (iv (lasts a i))) := by rw [upd_ne B.ne.symm]; exact B.D
        have hp'' : upd H' pL (HO.lst (iv (leasts a i) ++ [V.int (a.least i : Int)])) p = some (.ins CB dx' (bf pL pD)) := by rw [upd_ne npL]; exact hp'
        refine ⟨_, rfl, p, CB, dx', bf pL pD, .ref pD, rfl, hp'', T.clB, T.nD, rfl, .inl ⟨rfl, _, SqL.of hD'⟩, _, rfl, p, CB, dx', bf pL pD, .ref pD, rfl, hp'', T.clB, T.nD, rfl, _, rfl, pD, _, _, _, rfl, rfl, SqL.of hD', at_of (j := i) (by omega) (iv_get (lasts_get a (Nat.le_refl i))), pD, iv (lasts a i), _, rfl, rfl, hD', (by rw [iv_len, lasts_len]; exact small10 (by omega)), ?_⟩
        refine ⟨_, rfl, Same.upd (Same.upd s2 fL) fD, ⟨dx', by rw [upd_ne npD]; exact hp''⟩, ?_, ?_, B.ne⟩
        · rw [upd_ne B.ne, upd_same, leasts_snoc et]
        · rw [upd_same, lasts_snoc et]
      · have hc : a.need i ≠ 0 := fun e => hc (decide_eq_true (by rw [e]; rfl))
        refine ⟨_, rfl, _, rfl, _, rfl, _, rfl, _, rfl, p, pL, pD, pn, pf, a, i, ?_, hY.same s2, hi', hc, B, fun H3 B3 fr3 => ?_⟩
        · show [V.ref p, V.ref pn, V.ref pf, V.int a.keep, V.int (0 + (i : Int))] = _
          rw [e0]
        · exact ⟨_, rfl, fun b o e => fr3 b o (s2 b o e) (ne_of_none e fL) (ne_of_none e fD), B3⟩
    · rintro σ H' ⟨v, rfl, s2, B⟩
      rw [iv_len] at B
      exact ⟨_, rfl, q H' p pL pD s2 B⟩
end
end OK
end
section
set_option Elab.async false
set_option linter.all false
set_option maxRecDepth 100000
set_option maxHeartbeats 4000000
namespace OK
open PySem PySem.Spec PyProof.Rows L2
open Su85 (Abs)

/-! ### rows: repeated, cut, changed -/
theorem rep_zero : ∀ n : Nat, (List.replicate n [V.int 0]).flatten = iv (List.replicate n 0)
  | 0 => rfl
  | n + 1 => by
    rw [List.replicate_succ, List.flatten_cons, rep_zero n, List.replicate_succ]; rfl
theorem cut_iv (l : List Nat) {i j : Nat} (hij : i ≤ j) (hj : j ≤ l.length) : cutV (iv l) (some (i : Int)) (some (j : Int)) = iv ((l.drop i).take (j - i)) := by
  unfold cutV
  rw [HT.sIx_nat, HT.sIx_nat, iv_len, Nat.min_eq_left (show i ≤ l.length by omega), Nat.min_eq_left hj]
  unfold iv
  rw [List.map_take, List.map_drop]
theorem set_iv (l : List Nat) (j n : Nat) : (iv l).set j (V.int (n : Int)) = iv (l.set j n) := by
  unfold iv; rw [List.map_set]
theorem ixN_nat {n j : Nat} (h : j < n) : ixN n (j : Int) = some j := by
  unfold ixN
  rw [if_pos (by omega), if_pos (by omega)]; simp
theorem set_zeros (suf : List Nat) {l e : Nat} (x : Nat) (h : l < e) : (List.replicate e 0 ++ suf).set l x = List.replicate l 0 ++ (x :: List.replicate (e - l - 1) 0 ++ suf) := by
  obtain ⟨k, rfl⟩ : ∃ k, e = l + (k + 1) := ⟨e - l - 1, by omega⟩
  have e1 : List.replicate (l + (k + 1)) 0 = List.replicate l 0 ++ (0 :: List.replicate k 0) := by
    rw [← List.replicate_succ, List.replicate_append_replicate]
  have e2 : l + (k + 1) - l - 1 = k := by omega
  rw [e1, e2, List.append_assoc, List.set_append_right _ _ (by rw [List.length_replicate] <;> omega), List.length_replicate, Nat.sub_self]
  rfl

def spPlan (K : PySem.W.Frag) (CB : Addr) : Sp := fun vs H Q _ => ∃ (p pL pD pn : Addr) (a : Abs) (n t : Nat), vs = [.ref p, .ref pn, .int t] ∧ SqL K H pn (iv a.needs) ∧ BestAt CB H p pL pD a n ∧ t ≤ n ∧ n ≤ a.needs.length ∧ a.needs.length ≤ 10 ∧
  ∀ (H' : Hp) (r : Addr), Same H H' → H r = none → H' r = some (.lst (iv (a.planTo t))) → Q (.ref r) H'
section
variable {P : Program} {w : World} {K : PySem.W.Frag} {mg : Str → Option Value} {base : Heap}
abbrev nPlan : List Str := ["best", "needs", "days", "told", "end", "day"]
theorem scPlan : FnScope nPlan ["best", "needs", "days"] (defScope sPlanTold) := ⟨rfl, rfl, rfl, by decide +kernel, rfl, by decide +kernel, by decide +kernel⟩
def numOf : Option V → Nat
  | some (V.int e) => e.toNat
  | _ => 0
def mPlan (σ : List (Option V)) (_ : Hp) : Nat := numOf (σ.getD 4 none)
theorem ok_plan {f CB : Addr} {fd : FuncData} (F : Fun K "plan_told" "plan_told" sPlanTold f fd) (T : Txt K mg CB) : FnOk P w K mg base CX0 1 f fd ["best", "needs", "days"] (spPlan K CB) := by
  refine F.ok scPlan (fun vs H Q E h => ?_) (fun cdv A outer s H vs Q E hr h => ?_)
  · obtain ⟨p, pL, pD, pn, a, n, t, rfl, _⟩ := h
    rfl
  · obtain ⟨p, pL, pD, pn, a, n, t, rfl, hN, hB, htn, hn, hten, q⟩ := h
    obtain ⟨dx, hp⟩ := hB.ins
    refine ⟨_, pss_cons (ps_set (i := 3) scPlan.nd rfl (Or.inl rfl) (pe_op op_rep (pe_lst (pa_cons pe_int pa_nil)) (pv 2)))
      (pss_cons (ps_set (i := 4) scPlan.nd rfl (Or.inl rfl) (pv 2))
      (pss_cons (ps_while PassesOwn.never (pt_cmpR op_gt (pe_ix ix_list (pe_fld (pv 0) rfl) (pv 4) (fun _ _ => rfl)) pe_int (nomark _))
        (pss_cons (ps_set (i := 5) scPlan.nd rfl (Or.inl rfl) (pe_op op_sub (pe_ix ix_list (pe_fld (pv 0) rfl) (pv 4) (fun _ _ => rfl)) pe_int))
        (pss_cons (ps_asg (pe_callB (cr_sum rfl) rfl T.sum boot_sum (pa_cons (pe_slice sl_list (pv 1) (po_some (pv 5)) (po_some (pv 4))) pa_nil)) (pg_sub (pv 3) (pv 5) set_list))
        (pss_one (ps_set (i := 4) scPlan.nd rfl (Or.inl rfl) (pv 5))))))
      (pss_one (ps_ret (pv 3))))), ?_⟩
    refine ⟨(by show 1 ≤ sizeLine; decide), fun l0 hl0 => ⟨_, rfl, l0, _, _, rfl, rfl, upd_same, by omega, by omega, ?_, fun r hr0 => ⟨_, rfl, ?_⟩⟩⟩
    · show 1 * (t : Int).toNat ≤ sizeLine
      have := small10 (show 1 * (t : Int).toNat ≤ 1000 by omega)
      omega
    have nl : r ≠ l0 := fun e => by subst e; rw [upd_same] at hr0; cases hr0
    have hr1 : H r = none := by rw [upd_ne nl] at hr0; exact hr0
    refine while_by (fun σ H' => ∃ (e : Nat) (v5 : Option V) (suf : List Nat), σ = [some (.ref p), some (.ref pn), some (.int t), some (.ref r), some (.int e), v5] ∧ Same H H' ∧ e ≤ t ∧ H' r = some (.lst (iv (List.replicate e 0 ++ suf))) ∧ a.planTo t = a.planTo e ++ suf) mPlan ?_ ?_ ?_
    · refine ⟨t, none, [], rfl, Same.upd (Same.upd (Same.refl H) hl0) hr1, Nat.le_refl _, ?_, by rw [List.append_nil]⟩
      rw [upd_same, Int.toNat_natCast, List.append_nil, ← rep_zero]
    · rintro σ H' ⟨e, v5, suf, rfl, s1, he, hr', hpl⟩
      have hln := last_le a e
      have hrn : r ≠ pD := (ne_of_none hB.D hr1).symm
      have hat : atI (iv (lasts a n)) (e : Int) = some (V.int (a.last e : Int)) := atI_nat (iv_get (lasts_get a (by omega)))
      refine ⟨_, rfl, p, CB, dx, bf pL pD, .ref pD, rfl, s1 _ _ hp, T.clB, T.nD, rfl, _, rfl, pD, _, _, _, rfl, rfl, SqL.of (s1 _ _ hB.D), hat, _, _, rfl, rfl, _, rfl, ?_⟩
      refine ite2 (fun hc => ?_) (fun hc => ?_)
      · have hc : (0 : Int) < (a.last e : Int) := of_decide_eq_true hc
        obtain ⟨l, hl⟩ : ∃ l, a.last e = l + 1 := ⟨a.last e - 1, by omega⟩
        have el : (a.last e : Int) - 1 = (l : Int) := by omega
        refine ⟨_, rfl, p, CB, dx, bf pL pD, .ref pD, rfl, s1 _ _ hp, T.clB, T.nD, rfl, _, rfl, pD, _, _, _, rfl, rfl, SqL.of (s1 _ _ hB.D), hat, _, _, rfl, rfl, ?_⟩
        show tSeq _ _ _ [some (V.ref p), some (V.ref pn), some (V.int t), some (V.ref r), some (V.int e), some (V.int ((a.last e : Int) - 1))] H'
        rw [el]
        refine ⟨_, rfl, _, rfl, _, rfl, _, rfl, _, rfl, pn, _, rfl, s1.seq hN, fun c hc0 => ?_⟩
        rw [cut_iv a.needs (i := l) (j := e) (by omega) (by omega)]
        refine ⟨c, _, rfl, SqL.of (by rw [upd_same, iv_int]), ?_⟩
        rw [sum_int, span_drop a (i := l) (j := e) (by omega)]
        have nrc : r ≠ c := ne_of_none hr' hc0
        refine ⟨_, rfl, _, rfl, r, iv (List.replicate e 0 ++ suf), _, l, rfl, rfl, by rw [upd_ne nrc]; exact hr', ?_, ?_⟩
        · rw [iv_len, List.length_append, List.length_replicate]
          exact ixN_nat (by omega)
        rw [set_iv, set_zeros suf _ (by omega)]
        refine ⟨_, rfl, ⟨l, _, _, rfl, Same.upd (Same.upd s1 (s1.free hc0)) hr1, by omega, upd_same, ?_⟩, ?_⟩
        · rw [hpl, planTo_step a hl, List.append_assoc]
        · show ((l : Int)).toNat < ((e : Int)).toNat
          omega
      · have hc : a.last e = 0 := by
          have : ¬ (0 : Int) < (a.last e : Int) := fun z => hc (decide_eq_true z)
          omega
        refine ⟨_, rfl, q H' r s1 hr1 ?_⟩
        rw [hr', hpl, planTo_none a hc]
    · rintro σ H' Q1 Q2 hQ ⟨v, e1, a1, C1, d1, f1, v1, e2, e3, c1, n1, l1, v2, e4, p2, xs2, i2, w2, e5, e6, h7, h8, i3, j3, e9, e10, k, e11, q1⟩
      exact ⟨v, e1, a1, C1, d1, f1, v1, e2, e3, c1, n1, l1, v2, e4, p2, xs2, i2, w2, e5, e6, h7, h8, i3, j3, e9, e10, k, e11, hQ _ _ q1⟩
end
end OK
end
section
set_option Elab.async false
set_option linter.all false
set_option maxRecDepth 100000
set_option maxHeartbeats 4000000
namespace OK
open PySem PySem.Spec PyProof.Rows L2
open Su85 (Abs)

theorem take_succN {l : List Nat} {i : Nat} (h : i < l.length) : l.take (i + 1) = l.take i ++ [l.getD i 0] := by
  rw [List.take_succ, getD_get h]; rfl
theorem lies_take {ns qs : List Nat} {i : Nat} (hl : ns.length = qs.length) (h : i < ns.length) :
    lies 0 (ns.take (i + 1)) (qs.take (i + 1)) = lies 0 (ns.take i) (qs.take i) ++ [(lies 0 (ns.take i) (qs.take i)).getLastD 0 + (qs.getD i 0 : Nat) - (ns.getD i 0 : Nat)] := by
  rw [take_succN h, take_succN (by omega), lies_snoc _ _ _ _ _ (by rw [List.length_take, List.length_take]; omega)]
theorem getLastD_snoc (l : List Int) (x d : Int) : (l ++ [x]).getLastD d = x := by
  rw [List.getLastD_eq_getLast?, List.getLast?_append]; rfl

def spLies (K : PySem.W.Frag) : Sp := fun vs H Q _ => ∃ (pn po : Addr) (ns qs : List Nat), vs = [.ref pn, .ref po] ∧ SqL K H pn (iv ns) ∧ SqL K H po (iv qs) ∧ ns.length = qs.length ∧ ns.length ≤ 10 ∧
  ∀ (H' : Hp) (r : Addr), Same H H' → H r = none → H' r = some (.lst ((lies 0 ns qs).map V.int)) → Q (.ref r) H'
section
variable {P : Program} {w : World} {K : PySem.W.Frag} {mg : Str → Option Value} {base : Heap}
abbrev nLies : List Str := ["needs", "ordered", "lies", "there", "day"]
theorem scLies : FnScope nLies ["needs", "ordered"] (defScope sLies) := ⟨rfl, rfl, rfl, by decide +kernel, rfl, by decide +kernel, by decide +kernel⟩
theorem ok_lies {f CB : Addr} {fd : FuncData} (F : Fun K "what_lies" "what_lies" sLies f fd) (T : Txt K mg CB) : FnOk P w K mg base CX0 1 f fd ["needs", "ordered"] (spLies K) := by
  refine F.ok scLies (fun vs H Q E h => ?_) (fun cdv A outer s H vs Q E hr h => ?_)
  · obtain ⟨pn, po, ns, qs, rfl, _⟩ := h
    rfl
  · obtain ⟨pn, po, ns, qs, rfl, hN, hO, hl, hten, q⟩ := h
    refine ⟨_, pss_cons (ps_set (i := 2) scLies.nd rfl (Or.inl rfl) (pe_lst pa_nil))
      (pss_cons (ps_set (i := 3) scLies.nd rfl (Or.inl rfl) pe_int)
      (pss_cons (ps_for PassesOwn.never rfl (pi_range1 rfl T.range (pa_cons (pe_callB call_len_seq rfl T.len PySem.boot_len (pa_cons (pv 0) pa_nil)) pa_nil)) (pg_name (i := 4) scLies.nd rfl (Or.inl rfl))
        (pss_cons (ps_set (i := 3) scLies.nd rfl (Or.inl rfl) (pe_op op_sub (pe_op op_add (pv 3) (pe_ix ix_list (pv 1) (pv 4) (fun _ _ => rfl))) (pe_ix ix_list (pv 0) (pv 4) (fun _ _ => rfl))))
        (pss_one (ps_expr (pe_bm PySem.F.plainAttrs_list PySem.F.slot_list_append PySem.F.type_list_append mt_append (pv 2) (pa_cons (pv 3) pa_nil))))))
      (pss_one (ps_ret (pv 2))))), ?_⟩
    refine ⟨Nat.zero_le _, fun r hr0 => ?_⟩
    have s1 : Same H (upd H r (.lst [])) := Same.upd (Same.refl H) hr0
    refine ⟨_, rfl, pn, _, rfl, .inl (s1.seq hN), _, rfl, by omega, by rw [iv_len]; omega, ?_⟩
    refine for_range (fun i σ H' => ∃ v, σ = [some (.ref pn), some (.ref po), some (.ref r), some (.int ((lies 0 (ns.take i) (qs.take i)).getLastD 0)), v] ∧ Same H H' ∧ H' r = some (.lst ((lies 0 (ns.take i) (qs.take i)).map V.int))) ⟨none, rfl, s1, upd_same⟩ ?_ ?_
    · rintro i σ H' hi ⟨v, rfl, s2, hr'⟩
      have hi' : i < ns.length := by rw [iv_len] at hi; omega
      refine ⟨_, rfl, _, rfl, _, rfl, po, _, _, _, rfl, rfl, s2.seq hO, at_of (j := i) (by omega) (iv_get (getD_get (by omega))), _, _, rfl, rfl, _, rfl, _, rfl, pn, _, _, _, rfl, rfl, s2.seq hN, at_of (j := i) (by omega) (iv_get (getD_get hi')), _, _, rfl, rfl, ?_⟩
      refine ⟨_, rfl, .inl ⟨rfl, _, SqL.of hr'⟩, _, rfl, r, _, _, rfl, rfl, hr', ?_, ?_⟩
      · rw [List.length_map, lies_len _ _ _ (by rw [List.length_take, List.length_take]; omega), List.length_take]
        exact small10 (by omega)
      · refine ⟨some (V.int (0 + (i : Int))), ?_, Same.upd s2 hr0, ?_⟩
        · rw [lies_take hl hi', getLastD_snoc]; rfl
        · rw [upd_same, lies_take hl hi', List.map_append]; rfl
    · rintro σ H' ⟨v, rfl, s2, hr'⟩
      rw [iv_len, Int.toNat_natCast, List.take_length, List.take_of_length_le (l := qs) (by omega)] at hr'
      exact ⟨_, rfl, q H' r s2 hr0 hr'⟩
end

/-! ### what it costs -/
def paid (fs qs : List Nat) : Nat := (((List.range fs.length).filter fun d => decide (0 < qs.getD d 0)).map fun d => fs.getD d 0).sum
theorem feesOf_filter (a : Abs) : ∀ (l : List Nat) (t : Nat), a.feesOf t l = (((List.range l.length).filter fun d => decide (0 < l.getD d 0)).map fun d => a.fee (t + d)).sum
  | [], t => rfl
  | q :: l, t => by
    show (if q = 0 then 0 else a.fee t) + a.feesOf (t + 1) l = _
    rw [feesOf_filter a l (t + 1), List.length_cons, List.range_succ_eq_map, List.filter_cons]
    have e : (List.filter (fun d => decide (0 < (q :: l).getD d 0)) (List.map Nat.succ (List.range l.length))) = (List.filter (fun d => decide (0 < l.getD d 0)) (List.range l.length)).map Nat.succ := by
      rw [List.filter_map]; rfl
    have e2 : ∀ m : List Nat, (m.map Nat.succ).map (fun d => a.fee (t + d)) = m.map fun d => a.fee (t + 1 + d) := fun m => by
      rw [List.map_map]
      refine List.map_congr_left fun x _ => ?_
      show a.fee (t + (x + 1)) = _
      rw [show t + (x + 1) = t + 1 + x by omega]
    by_cases h : q = 0
    · rw [if_pos h, if_neg (by subst h; simp), e, e2]; omega
    · rw [if_neg h, if_pos (decide_eq_true (by show 0 < q; omega)), e, List.map_cons, List.sum_cons, e2]; rfl
theorem paid_feesOf (a : Abs) {qs : List Nat} (h : qs.length = a.fees.length) : paid a.fees qs = a.feesOf 0 qs := by
  rw [feesOf_filter, paid, h]
  refine congrArg List.sum (List.map_congr_left fun d _ => ?_)
  rw [Nat.zero_add]; rfl
def spCosts (K : PySem.W.Frag) : Sp := fun vs H Q _ => ∃ (pn po pf : Addr) (ns qs fs : List Nat) (k : Nat), vs = [.ref pn, .ref po, .ref pf, .int k] ∧ SqL K H pn (iv ns) ∧ SqL K H po (iv qs) ∧ SqL K H pf (iv fs) ∧ ns.length = qs.length ∧ fs.length = qs.length ∧ fs.length ≤ 10 ∧ k ≤ 100 ∧
  ∀ H' : Hp, Same H H' → Q (.int ((paid fs qs : Nat) + (k : Int) * (lies 0 ns qs).sum)) H'
section
variable {P : Program} {w : World} {K : PySem.W.Frag} {mg : Str → Option Value} {base : Heap}
structure Lies (P : Program) (w : World) (K : PySem.W.Frag) (mg : Str → Option Value) (base : Heap) (f : Addr) (fd : FuncData) : Prop where
  ok : FnOk P w K mg base CX0 1 f fd ["needs", "ordered"] (spLies K)
  kp : PySem.W.keepIn K (.ref f) = true
  mg : mg "what_lies" = some (.ref f)
  bd : Binds K fd ["needs", "ordered"] []
abbrev nCosts : List Str := ["needs", "ordered", "fees", "keeping", "paid", "day"]
theorem scCosts : FnScope nCosts ["needs", "ordered", "fees", "keeping"] (defScope sCosts) := ⟨rfl, rfl, rfl, by decide +kernel, rfl, by decide +kernel, by decide +kernel⟩
theorem ok_costs {f fl CB : Addr} {fd fdl : FuncData} (F : Fun K "what_it_costs" "what_it_costs" sCosts f fd) (T : Txt K mg CB) (L : Lies P w K mg base fl fdl) : FnOk P w K mg base CX0 2 f fd ["needs", "ordered", "fees", "keeping"] (spCosts K) := by
  refine F.ok scCosts (fun vs H Q E h => ?_) (fun cdv A outer s H vs Q E hr h => ?_)
  · obtain ⟨pn, po, pf, ns, qs, fs, k, rfl, _⟩ := h
    rfl
  · obtain ⟨pn, po, pf, ns, qs, fs, k, rfl, hN, hO, hF, hnl, hl, hten, hk, q⟩ := h
    refine ⟨_, pss_cons (ps_set (i := 4) scCosts.nd rfl (Or.inl rfl) (pe_callB (cr_sum rfl) rfl T.sum boot_sum (pa_cons
        (pe_lc rfl scCosts.nd (pi_range1 rfl T.range (pa_cons (pe_callB call_len_seq rfl T.len PySem.boot_len (pa_cons (pv 2) pa_nil)) pa_nil)) (own := [("day", 5)]) (blkOk_by (show blkC nCosts (defScope sCosts) _ _ = true by decide +kernel))
          (fun _ _ _ _ _ => pg_name (i := 5) scCosts.nd rfl (Or.inl rfl)) (fun _ _ _ _ _ => pts_one (pt_cmpR op_gt (pe_ix (r := rIxL K) ix_list (pv 1) (pv 5) (fun _ _ => rfl)) pe_int (nomark _)))
          (fun _ _ _ _ _ => pe_ix (r := rIxL K) ix_list (pv 2) (pv 5) (fun _ _ => rfl))) pa_nil)))
      (pss_one (ps_ret (pe_op op_add (pv 4) (pe_op op_mul (pv 3) (pe_callB (cr_sum rfl) rfl T.sum boot_sum (pa_cons (pe_call L.ok hr rfl L.mg L.kp L.bd .nil pass0 (pa_cons (pv 0) (pa_cons (pv 1) pa_nil))) pa_nil)))))), ?_⟩
    refine ⟨_, rfl, pf, _, rfl, .inl hF, _, rfl, by omega, by rw [iv_len]; omega, fun D hD => ?_⟩
    refine lc_range (fun n H' => Same H H' ∧ H' D = some (.lst (iv (((List.range n).filter fun d => decide (0 < qs.getD d 0)).map fun d => fs.getD d 0)))) ⟨Same.upd (Same.refl H) hD, upd_same⟩ ?_ ?_
    · rintro n H' hn ⟨s1, hL'⟩
      have hn' : n < fs.length := by rw [iv_len] at hn; omega
      refine ⟨rfl, _, rfl, _, rfl, po, _, _, _, rfl, rfl, s1.seq hO, at_of (j := n) (by omega) (iv_get (getD_get (by omega))), _, _, rfl, rfl, _, rfl, ?_⟩
      refine ite2 (fun hc => ?_) (fun hc => ?_)
      · have hc : 0 < qs.getD n 0 := by
          have : (0 : Int) < ((qs.getD n 0 : Nat) : Int) := of_decide_eq_true hc
          omega
        refine ⟨_, rfl, _, rfl, pf, _, _, _, rfl, rfl, s1.seq hF, at_of (j := n) (by omega) (iv_get (getD_get hn')), _, hL', ?_, Same.upd s1 hD, ?_⟩
        · rw [iv_len, List.length_map]
          exact small10 (Nat.le_trans (List.length_filter_le _ _) (by rw [List.length_range]; omega))
        · rw [upd_same, List.range_succ, List.filter_append, List.filter_cons, if_pos (decide_eq_true hc), List.filter_nil, List.map_append, List.map_cons, List.map_nil, iv_snoc]
      · refine ⟨s1, ?_⟩
        have hc : ¬ 0 < qs.getD n 0 := fun e => hc (decide_eq_true (show (0 : Int) < ((qs.getD n 0 : Nat) : Int) by omega))
        rw [List.range_succ, List.filter_append, List.filter_cons, if_neg (fun e => hc (of_decide_eq_true e)), List.filter_nil, List.append_nil]
        exact hL'
    · rintro H' ⟨s1, hL'⟩
      have e1 : ((iv fs).length : Int).toNat = fs.length := by rw [iv_len]; omega
      rw [e1, iv_int] at hL'
      refine ⟨D, _, rfl, SqL.of hL', _, rfl, _, rfl, _, rfl, _, rfl, pn, po, ns, qs, rfl, s1.seq hN, s1.seq hO, hnl, by omega, fun H2 r s2 hr0 hr' => ?_⟩
      refine ⟨r, _, rfl, SqL.of hr', _, _, rfl, rfl, .inl ⟨by omega, by omega⟩, _, _, rfl, rfl, ?_⟩
      show Q (V.int (_ + _ * _)) H2
      rw [sum_int]
      exact q H2 (s1.trans s2)
end
end OK
end
section
set_option Elab.async false
set_option linter.all false
set_option maxRecDepth 100000
set_option maxHeartbeats 4000000
namespace OK
open PySem PySem.Spec PyProof.Rows L2
open Su85 (Abs)
def spLeastOf (K : PySem.W.Frag) : Sp := fun vs H Q _ => ∃ (pn pf : Addr) (a : Abs), vs = [.ref pn, .ref pf, .int a.keep] ∧ Days K H pn pf a ∧ ∀ H' : Hp, Same H H' → Q (.int (a.least a.needs.length : Nat)) H'
def spLeastPlan (K : PySem.W.Frag) : Sp := fun vs H Q _ => ∃ (pn pf : Addr) (a : Abs), vs = [.ref pn, .ref pf, .int a.keep] ∧ Days K H pn pf a ∧
  ∀ (H' : Hp) (r : Addr), Same H H' → H r = none → H' r = some (.lst (iv (a.least a.needs.length :: a.planTo a.needs.length))) → Q (.ref r) H'
section
variable {P : Program} {w : World} {K : PySem.W.Frag} {mg : Str → Option Value} {base : Heap}
abbrev nNFK : List Str := ["needs", "fees", "keeping"]
structure BestO (P : Program) (w : World) (K : PySem.W.Frag) (mg : Str → Option Value) (base : Heap) (CB f : Addr) (fd : FuncData) : Prop where
  ok : FnOk P w K mg base CX0 3 f fd ["needs", "fees", "keeping"] (spBest K CB)
  kp : PySem.W.keepIn K (.ref f) = true
  mg : mg "best_orders" = some (.ref f)
  bd : Binds K fd ["needs", "fees", "keeping"] []
structure PlanTold (P : Program) (w : World) (K : PySem.W.Frag) (mg : Str → Option Value) (base : Heap) (CB f : Addr) (fd : FuncData) : Prop where
  ok : FnOk P w K mg base CX0 1 f fd ["best", "needs", "days"] (spPlan K CB)
  kp : PySem.W.keepIn K (.ref f) = true
  mg : mg "plan_told" = some (.ref f)
  bd : Binds K fd ["best", "needs", "days"] []
structure LeastO (P : Program) (w : World) (K : PySem.W.Frag) (mg : Str → Option Value) (base : Heap) (f : Addr) (fd : FuncData) : Prop where
  ok : FnOk P w K mg base CX0 4 f fd ["needs", "fees", "keeping"] (spLeastOf K)
  kp : PySem.W.keepIn K (.ref f) = true
  mg : mg "least_of" = some (.ref f)
  bd : Binds K fd ["needs", "fees", "keeping"] []
structure LeastP (P : Program) (w : World) (K : PySem.W.Frag) (mg : Str → Option Value) (base : Heap) (f : Addr) (fd : FuncData) : Prop where
  ok : FnOk P w K mg base CX0 4 f fd ["needs", "fees", "keeping"] (spLeastPlan K)
  kp : PySem.W.keepIn K (.ref f) = true
  mg : mg "least_and_plan" = some (.ref f)
  bd : Binds K fd ["needs", "fees", "keeping"] []
theorem scLO : FnScope ["needs", "fees", "keeping"] ["needs", "fees", "keeping"] (defScope sLeastOf) := ⟨rfl, rfl, rfl, by decide +kernel, rfl, by decide +kernel, by decide +kernel⟩
theorem ok_leastOf {f fb CB : Addr} {fd fdb : FuncData} (F : Fun K "least_of" "least_of" sLeastOf f fd) (T : Txt K mg CB) (O : BestO P w K mg base CB fb fdb) : FnOk P w K mg base CX0 4 f fd ["needs", "fees", "keeping"] (spLeastOf K) := by
  refine F.ok scLO (fun vs H Q E h => ?_) (fun cdv A outer s H vs Q E hr h => ?_)
  · obtain ⟨pn, pf, a, rfl, _⟩ := h
    rfl
  · obtain ⟨pn, pf, a, rfl, hY, q⟩ := h
    refine ⟨_, pss_one (ps_ret (pe_ix ix_list (pe_fld (pe_call O.ok hr rfl O.mg O.kp O.bd .nil pass0 (pa_cons (pv 0) (pa_cons (pv 1) (pa_cons (pv 2) pa_nil)))) rfl) (pe_callB call_len_seq rfl T.len PySem.boot_len (pa_cons (pv 0) pa_nil)) (fun _ _ => rfl))), ?_⟩
    refine ⟨_, rfl, _, rfl, _, rfl, pn, pf, a, rfl, hY, fun H1 b pL pD s1 B => ?_⟩
    obtain ⟨db, hb⟩ := B.ins
    exact ⟨b, CB, db, bf pL pD, .ref pL, rfl, hb, T.clB, T.nL, rfl, _, rfl, pn, iv a.needs, rfl, .inl (s1.seq hY.n), pL, _, _, _, rfl, rfl, SqL.of B.L, at_of (j := a.needs.length) (by rw [iv_len]) (iv_get (leasts_get a (Nat.le_refl _))), q H1 s1⟩
abbrev nLP : List Str := ["needs", "fees", "keeping", "best"]
theorem scLP : FnScope nLP ["needs", "fees", "keeping"] (defScope sLeastPlan) := ⟨rfl, rfl, rfl, by decide +kernel, rfl, by decide +kernel, by decide +kernel⟩
theorem ok_leastPlan {f fb ft CB : Addr} {fd fdb fdt : FuncData} (F : Fun K "least_and_plan" "least_and_plan" sLeastPlan f fd) (T : Txt K mg CB) (O : BestO P w K mg base CB fb fdb) (G : PlanTold P w K mg base CB ft fdt) : FnOk P w K mg base CX0 4 f fd ["needs", "fees", "keeping"] (spLeastPlan K) := by
  refine F.ok scLP (fun vs H Q E h => ?_) (fun cdv A outer s H vs Q E hr h => ?_)
  · obtain ⟨pn, pf, a, rfl, _⟩ := h
    rfl
  · obtain ⟨pn, pf, a, rfl, hY, q⟩ := h
    have hten := hY.ten
    refine ⟨_, pss_cons (ps_set (i := 3) scLP.nd rfl (Or.inl rfl) (pe_call O.ok hr rfl O.mg O.kp O.bd .nil pass0 (pa_cons (pv 0) (pa_cons (pv 1) (pa_cons (pv 2) pa_nil)))))
      (pss_one (ps_ret (pe_op op_cat (pe_lst (pa_cons (pe_ix ix_list (pe_fld (pv 3) rfl) (pe_callB call_len_seq rfl T.len PySem.boot_len (pa_cons (pv 0) pa_nil)) (fun _ _ => rfl)) pa_nil)) (pe_call G.ok (hr.mono (by decide)) rfl G.mg G.kp G.bd .nil pass0 (pa_cons (pv 3) (pa_cons (pv 0) (pa_cons (pe_callB call_len_seq rfl T.len PySem.boot_len (pa_cons (pv 0) pa_nil)) pa_nil))))))), ?_⟩
    refine ⟨_, rfl, _, rfl, _, rfl, pn, pf, a, rfl, hY, fun H1 b pL pD s1 B => ?_⟩
    obtain ⟨db, hb⟩ := B.ins
    refine ⟨_, rfl, b, CB, db, bf pL pD, .ref pL, rfl, hb, T.clB, T.nL, rfl, _, rfl, pn, iv a.needs, rfl, .inl (s1.seq hY.n), pL, _, _, _, rfl, rfl, SqL.of B.L, at_of (j := a.needs.length) (by rw [iv_len]) (iv_get (leasts_get a (Nat.le_refl _))), (by show 1 ≤ sizeLine; decide), fun l hl => ?_⟩
    have s2 : Same H1 (upd H1 l (.lst [.int (a.least a.needs.length : Nat)])) := Same.upd (Same.refl _) hl
    have hl2 : upd H1 l (.lst [.int (a.least a.needs.length : Nat)]) l = some (.lst [.int (a.least a.needs.length : Nat)]) := upd_same
    generalize upd H1 l (.lst [.int (a.least a.needs.length : Nat)]) = H2 at s2 hl2 ⊢
    have s12 := s1.trans s2
    refine ⟨_, rfl, _, rfl, _, rfl, pn, iv a.needs, rfl, .inl (s12.seq hY.n), ?_⟩
    rw [iv_len]
    refine ⟨b, pL, pD, pn, a, a.needs.length, a.needs.length, rfl, s12.seq hY.n, ⟨⟨db, s2 _ _ hb⟩, s2 _ _ B.L, s2 _ _ B.D, B.ne⟩, Nat.le_refl _, Nat.le_refl _, hten, fun H3 r s3 hr0 hr' => ?_⟩
    refine ⟨l, r, _, _, rfl, rfl, s3 _ _ hl2, hr', ?_, fun z hz => ?_⟩
    · rw [iv_len, planTo_len]
      exact Nat.le_of_lt (small10 (by show 1 + a.needs.length ≤ 1000; omega))
    · exact q _ z (Same.upd (s12.trans s3) ((s12.trans s3).free hz)) ((s12.trans s3).free hz) upd_same
end
end OK
end
section
set_option Elab.async false
set_option linter.all false
set_option maxRecDepth 100000
set_option maxHeartbeats 4000000
namespace OK
open PySem PySem.Spec PyProof.Rows L2
open Su85 (Abs)

/-! ### the store -/
abbrev sStoreInit : Stmt := inClass (top 24) 0
abbrev sBestOf : Stmt := top 25
abbrev sBegin : Stmt := top 26
abbrev sDayRef : Stmt := top 27
abbrev sPut : Stmt := top 28
abbrev sNeed : Stmt := top 29
abbrev sFee : Stmt := top 30
abbrev sKeep : Stmt := top 31
abbrev sLeast : Stmt := top 32
abbrev sPlan : Stmt := top 33
abbrev sLast : Stmt := top 34
abbrev sLasts : Stmt := top 35
abbrev sRefusal : Stmt := top 36
abbrev sCost : Stmt := top 37
abbrev sShelf : Stmt := top 38
abbrev sIsSettled : Stmt := top 39
abbrev sSettled : Stmt := top 40
abbrev sSure : Stmt := top 41
abbrev sEach : Stmt := top 42
abbrev sOnce : Stmt := top 43
abbrev sWith : Stmt := top 44
abbrev sWould : Stmt := top 45
abbrev sDear : Stmt := top 46
abbrev sTogether : Stmt := top 47
abbrev sSpan : Stmt := top 48
abbrev sRest : Stmt := top 49
abbrev sSums : Stmt := top 50
abbrev sState : Stmt := top 51
def sf (pn pf : Addr) (k : Nat) : List (Str × V) := [("needs", .ref pn), ("fees", .ref pf), ("keeping", .int (k : Int))]
structure Good (a : Abs) : Prop where
  len : a.fees.length = a.needs.length
  ten : a.needs.length ≤ 10
  keep : a.keep ≤ 100
structure StoreAt (CS : Addr) (H : Hp) (p pn pf : Addr) (a : Abs) : Prop where
  ins : ∃ dx, H p = some (.ins CS dx (sf pn pf a.keep))
  n : H pn = some (.lst (iv a.needs))
  f : H pf = some (.lst (iv a.fees))
  ne : pn ≠ pf
  good : Good a
theorem StoreAt.days {K : PySem.W.Frag} {CS : Addr} {H : Hp} {p pn pf : Addr} {a : Abs} (S : StoreAt CS H p pn pf a) : Days K H pn pf a := ⟨SqL.of S.n, SqL.of S.f, S.good.len, S.good.ten, S.good.keep⟩
theorem StoreAt.same {CS : Addr} {H H' : Hp} {p pn pf : Addr} {a : Abs} (s : Same H H') (S : StoreAt CS H p pn pf a) : StoreAt CS H' p pn pf a :=
  ⟨let ⟨dx, h⟩ := S.ins; ⟨dx, s _ _ h⟩, s _ _ S.n, s _ _ S.f, S.ne, S.good⟩
/-- an answer as values -/
def ansV (y : Su85.Ans) : List V := V.int y.value :: iv y.out
/-- what is wanted behind a call -/
def Post (CS : Addr) (H : Hp) (p pn pf : Addr) (y : Abs × Su85.Ans) (Q : VK) : Prop := ∀ (H' : Hp) (r pn' pf' : Addr), StoreAt CS H' p pn' pf' y.1 → H' r = some (.lst (ansV y.2)) → H r = none → (pn' = pn ∨ H pn' = none) → (pf' = pf ∨ H pf' = none) → r ≠ pn' → r ≠ pf' →
  (∀ b o, H b = some o → b ≠ p → b ≠ pn → b ≠ pf → H' b = some o) → Q (.ref r) H'
theorem Post.read {CS : Addr} {H H' : Hp} {p pn pf r : Addr} {a : Abs} {y : Abs × Su85.Ans} {Q : VK} (q : Post CS H p pn pf y Q) (S : StoreAt CS H p pn pf a) (e : y.1 = a) (s : Same H H') (hr : H' r = some (.lst (ansV y.2))) (h0 : H r = none) : Q (.ref r) H' :=
  q H' r pn pf (by rw [e]; exact S.same s) hr h0 (.inl rfl) (.inl rfl) (ne_of_none S.n h0).symm (ne_of_none S.f h0).symm fun b o h _ _ _ => s b o h
/-- a call's promise: c tells the call of the numbers given; ok which are given -/
def spDo (K : PySem.W.Frag) (CS : Addr) (c : List Nat → Su85.Call) (ok : List Nat → Prop) (begun : Bool) : Sp := fun vs H Q _ => ∃ (p pn pf g : Addr) (a : Abs) (xs : List Nat), vs = [.ref p, .ref g] ∧ StoreAt CS H p pn pf a ∧ (begun = true → 0 < a.needs.length) ∧
  SqL K H g (iv xs) ∧ ok xs ∧ Post CS H p pn pf (Su85.does a (c xs)) Q
structure TxtS (K : PySem.W.Frag) (mg : Str → Option Value) (CB CS : Addr) : Prop extends Txt K mg CB where
  clS : Cls K CS
  nN : NoAttr K CS "needs"
  nF : NoAttr K CS "fees"
  nK : NoAttr K CS "keeping"
  mgS : mg "Store" = some (.ref CS)
  noneS : ∃ t, mg "NONE_SETTLED" = some (.int (-6) t)
  noSuch : ∃ t, mg "NO_SUCH" = some (.int (-2) t)
  notBegun : ∃ t, mg "NOT_BEGUN" = some (.int (-11) t)
  tooLittle : ∃ t, mg "TOO_LITTLE" = some (.int (-12) t)
  outOf : ∃ t, mg "OUT_OF_RANGE" = some (.int (-22) t)
  mDays : ∃ t, mg "MOST_DAYS" = some (.int 10 t)
  mKeep : ∃ t, mg "MOST_KEEPING" = some (.int 100 t)
  mNeed : ∃ t, mg "MOST_NEED" = some (.int 1000 t)
  mFee : ∃ t, mg "MOST_FEE" = some (.int 10000 t)
  mOrd : ∃ t, mg "MOST_ORDERED" = some (.int 100000 t)
  mBegin : ∃ t, mg "BEGIN" = some (.int 0 t)
section
variable {X : Cx}
/-- a constant of the file -/
theorem pgI {x : Str} {i : Int} {pos : Pos} (h : ∃ t, X.mg x = some (.int i t)) (hg : Gl X x := by rfl) (hd : (x == ("__debug__" : Str)) = false := by decide) : PE X (.Name x pos) (tC (.int i)) :=
  let ⟨t, e⟩ := h
  pe_glob hg e ⟨t, rfl⟩ hd
end
section
variable {P : Program} {w : World} {K : PySem.W.Frag} {mg : Str → Option Value} {base : Heap}
/-! ### __init__ -/
def spStoreInit (CS : Addr) : Sp := fun vs H Q _ => ∃ (p dx : Addr), vs = [.ref p] ∧ H p = some (.ins CS dx []) ∧
  ∀ (H' : Hp) (pn pf : Addr), StoreAt CS H' p pn pf ⟨0, [], []⟩ → H pn = none → H pf = none → (∀ b o, H b = some o → b ≠ p → H' b = some o) → Q .non H'
theorem scSI : FnScope ["self"] ["self"] (defScope sStoreInit) := ⟨rfl, rfl, rfl, by decide +kernel, rfl, by decide +kernel, by decide +kernel⟩
theorem ok_storeInit {f CB CS : Addr} {fd : FuncData} (F : Fun K "__init__" "Store.__init__" sStoreInit f fd) (T : TxtS K mg CB CS) : FnOk P w K mg base CX0 1 f fd ["self"] (spStoreInit CS) := by
  refine F.ok scSI (fun vs H Q E h => ?_) (fun cdv A outer s H vs Q E hr h => ?_)
  · obtain ⟨p, dx, rfl, _⟩ := h
    rfl
  · obtain ⟨p, dx, rfl, hp, k⟩ := h
    refine ⟨_, pss_cons (ps_fld (pv 0) (pe_lst pa_nil) rfl) (pss_cons (ps_fld (pv 0) (pe_lst pa_nil) rfl) (pss_one (ps_fld (pv 0) pe_int rfl))), ?_⟩
    refine ⟨Nat.zero_le _, fun pn hn => ?_⟩
    have n1 : p ≠ pn := ne_of_none hp hn
    refine ⟨_, rfl, p, CS, dx, [], rfl, by rw [upd_ne n1]; exact hp, T.clS, T.nN, (by show 0 < 1000; decide), ?_⟩
    refine ⟨Nat.zero_le _, fun pf hf => ?_⟩
    have n2 : pf ≠ p := fun e => by subst e; rw [upd_same] at hf; cases hf
    have n3 : pf ≠ pn := fun e => by subst e; rw [upd_ne n1.symm, upd_same] at hf; cases hf
    have hf0 : H pf = none := by rw [upd_ne n2, upd_ne n3] at hf; exact hf
    refine ⟨_, rfl, p, CS, dx, _, rfl, by rw [upd_ne n2.symm, upd_same], T.clS, T.nF, (by show 1 < 1000; decide), ?_⟩
    refine ⟨_, rfl, p, CS, dx, _, rfl, upd_same, T.clS, T.nK, (by show 2 < 1000; decide), ?_⟩
    refine k _ pn pf ⟨⟨dx, upd_same⟩, ?_, ?_, n3.symm, rfl, Nat.zero_le _, Nat.zero_le _⟩ hn hf0 fun b o e hb => ?_
    · rw [upd_ne n1.symm, upd_ne n1.symm, upd_ne n3.symm, upd_ne n1.symm, upd_same]; rfl
    · rw [upd_ne n2, upd_ne n2, upd_same]; rfl
    · rw [upd_ne hb, upd_ne hb, upd_ne (ne_of_none e hf0), upd_ne hb, upd_ne (ne_of_none e hn)]
      exact e
/-! ### best_of -/
def spBestOf (CB CS : Addr) : Sp := fun vs H Q _ => ∃ (p pn pf : Addr) (a : Abs), vs = [.ref p] ∧ StoreAt CS H p pn pf a ∧
  ∀ (H' : Hp) (b pL pD : Addr), Same H H' → BestAt CB H' b pL pD a a.needs.length → Q (.ref b) H'
theorem scBO : FnScope ["store"] ["store"] (defScope sBestOf) := ⟨rfl, rfl, rfl, by decide +kernel, rfl, by decide +kernel, by decide +kernel⟩
theorem ok_bestOf {f fb CB CS : Addr} {fd fdb : FuncData} (F : Fun K "best_of" "best_of" sBestOf f fd) (T : TxtS K mg CB CS) (O : BestO P w K mg base CB fb fdb) : FnOk P w K mg base CX0 4 f fd ["store"] (spBestOf CB CS) := by
  refine F.ok scBO (fun vs H Q E h => ?_) (fun cdv A outer s H vs Q E hr h => ?_)
  · obtain ⟨p, pn, pf, a, rfl, _⟩ := h
    rfl
  · obtain ⟨p, pn, pf, a, rfl, S, q⟩ := h
    obtain ⟨dx, hp⟩ := S.ins
    refine ⟨_, pss_one (ps_ret (pe_call O.ok hr rfl O.mg O.kp O.bd .nil pass0 (pa_cons (pe_fld (pv 0) rfl) (pa_cons (pe_fld (pv 0) rfl) (pa_cons (pe_fld (pv 0) rfl) pa_nil))))), ?_⟩
    refine ⟨_, rfl, p, CS, dx, sf pn pf a.keep, .ref pn, rfl, hp, T.clS, T.nN, rfl, _, rfl, p, CS, dx, sf pn pf a.keep, .ref pf, rfl, hp, T.clS, T.nF, rfl, _, rfl, p, CS, dx, sf pn pf a.keep, .int a.keep, rfl, hp, T.clS, T.nK, rfl, ?_⟩
    exact ⟨pn, pf, a, rfl, S.days, fun H' b pL pD s1 B => q H' b pL pD s1 B⟩
/-! ### begin -/
abbrev nBegin : List Str := ["store", "given", "days", "keeping"]
theorem scBegin : FnScope nBegin ["store", "given"] (defScope sBegin) := ⟨rfl, rfl, rfl, by decide +kernel, rfl, by decide +kernel, by decide +kernel⟩
theorem put_needs (pn pf q : Addr) (k : Nat) : putF "needs" (.ref q) (sf pn pf k) = sf q pf k := rfl
theorem put_fees (pn pf q : Addr) (k : Nat) : putF "fees" (.ref q) (sf pn pf k) = sf pn q k := rfl
theorem put_keeping (pn pf : Addr) (k j : Nat) : putF "keeping" (.int (j : Int)) (sf pn pf k) = sf pn pf j := rfl
theorem new_good {n k : Nat} (h : n ≤ 10) (hk : k ≤ 100) : Good (Su85.new n k) := ⟨rfl, by show (List.replicate n 0).length ≤ 10; rw [List.length_replicate]; exact h, hk⟩
theorem ok_begin {f CB CS : Addr} {fd : FuncData} (F : Fun K "begin" "begin" sBegin f fd) (T : TxtS K mg CB CS) :
    FnOk P w K mg base CX0 5 f fd ["store", "given"] (spDo K CS (fun xs => .begin_ (xs.getD 0 0) (xs.getD 1 0)) (fun xs => xs.length = 2) false) := by
  refine F.ok scBegin (fun vs H Q E h => ?_) (fun cdv A outer s H vs Q E hr h => ?_)
  · obtain ⟨p, pn, pf, g, a, xs, rfl, _⟩ := h
    rfl
  · obtain ⟨p, pn, pf, g, a, xs, rfl, S, _, hg, hx, q⟩ := h
    obtain ⟨n, k, rfl⟩ : ∃ n k, xs = [n, k] := match xs, hx with | [n, k], _ => ⟨n, k, rfl⟩
    obtain ⟨dx, hp⟩ := S.ins
    refine ⟨_, pss_cons (ps_set (i := 2) scBegin.nd rfl (Or.inl rfl) (pe_ix ix_list (pv 1) pe_int (fun _ _ => rfl)))
      (pss_cons (ps_set (i := 3) scBegin.nd rfl (Or.inl rfl) (pe_ix ix_list (pv 1) pe_int (fun _ _ => rfl)))
      (pss_cons (ps_if (PW.pt (pw_or (pt_cmpR op_lt (pv 2) pe_int (nomark _)) (pw_or (pt_cmpR op_gt (pv 2) (pgI T.mDays) (nomark _)) (pw_or1 (pt_cmpR op_gt (pv 3) (pgI T.mKeep) (nomark _)))))) (pss_one (ps_ret (pe_lst (pa_cons (pgI T.outOf) pa_nil)))) pss_nil)
      (pss_cons (ps_fld (pv 0) (pe_op op_rep (pe_lst (pa_cons pe_int pa_nil)) (pv 2)) rfl)
      (pss_cons (ps_fld (pv 0) (pe_op op_rep (pe_lst (pa_cons pe_int pa_nil)) (pv 2)) rfl)
      (pss_cons (ps_fld (pv 0) (pv 3) rfl)
      (pss_one (ps_ret (pe_lst (pa_cons pe_int pa_nil))))))))), ?_⟩
    refine ⟨_, rfl, g, _, _, _, rfl, rfl, hg, at_of (j := 0) rfl rfl, _, rfl, g, _, _, _, rfl, rfl, hg, at_of (j := 1) rfl rfl, ?_⟩
    have refused : (n = 0 ∨ 10 < n ∨ 100 < k) → ∀ D : Ends, D.rt = Q → tRet (tLst (tCons (tC (V.int (-22))) tNil)) D [some (.ref p), some (.ref g), some (.int n), some (.int k)] H := fun hc D hD => by
      refine ⟨(by show 1 ≤ sizeLine; decide), fun r hr0 => ?_⟩
      rw [hD]
      have e : Su85.does a (.begin_ n k) = (a, Su85.no (-22)) := if_pos hc
      exact q.read (a := a) S (by show (Su85.does a (.begin_ n k)).1 = a; rw [e]) (Same.upd (Same.refl H) hr0) (by show _ = some (HO.lst (ansV (Su85.does a (.begin_ n k)).2)); rw [e, upd_same]; rfl) hr0
    refine ⟨_, rfl, _, _, rfl, rfl, _, rfl, ite2 (fun h1 => refused (.inl (by have := of_decide_eq_true h1; omega)) _ rfl) (fun h1 => ?_)⟩
    have h1 : ¬ (n : Int) < 1 := fun z => h1 (decide_eq_true z)
    refine ⟨_, rfl, _, _, rfl, rfl, _, rfl, ite2 (fun h2 => refused (.inr (.inl (by have := of_decide_eq_true h2; omega))) _ rfl) (fun h2 => ?_)⟩
    have h2 : ¬ (10 : Int) < n := fun z => h2 (decide_eq_true z)
    refine ⟨_, rfl, _, _, rfl, rfl, _, rfl, ite2 (fun h3 => refused (.inr (.inr (by have := of_decide_eq_true h3; omega))) _ rfl) (fun h3 => ?_)⟩
    have h3 : ¬ (100 : Int) < k := fun z => h3 (decide_eq_true z)
    have hz : 1 * (n : Int).toNat ≤ sizeLine := Nat.le_of_lt (small10 (by omega))
    -- store.needs = [0] * days
    refine ⟨(by show 1 ≤ sizeLine; decide), fun l0 hl0 => ⟨_, rfl, l0, _, _, rfl, rfl, upd_same, by omega, by omega, hz, fun pn' hpn' => ?_⟩⟩
    rw [Int.toNat_natCast, rep_zero]
    have s1 : Same H (upd (upd H l0 (.lst [.int 0])) pn' (.lst (iv (List.replicate n 0)))) := (Same.upd (Same.refl H) hl0).trans (Same.upd (Same.refl _) hpn')
    have fn : H pn' = none := (Same.upd (Same.refl H) hl0).free hpn'
    have np1 : p ≠ pn' := ne_of_none hp fn
    refine ⟨_, rfl, p, CS, dx, sf pn pf a.keep, rfl, s1 _ _ hp, T.clS, T.nN, (by show 3 < 1000; decide), ?_⟩
    have hn1 : upd (upd H l0 (.lst [.int 0])) pn' (.lst (iv (List.replicate n 0))) pn' = some (.lst (iv (List.replicate n 0))) := upd_same
    generalize upd (upd H l0 (HO.lst [V.int 0])) pn' (HO.lst (iv (List.replicate n 0))) = H1 at s1 hn1 ⊢
    -- store.fees = [0] * days
    refine ⟨(by show 1 ≤ sizeLine; decide), fun l1 hl1 => ⟨_, rfl, l1, _, _, rfl, rfl, upd_same, by omega, by omega, hz, fun pf' hpf' => ?_⟩⟩
    rw [Int.toNat_natCast, rep_zero]
    have np2 : pf' ≠ p := fun e => by
      subst e
      have : upd H1 pf' (HO.ins CS dx (sf pn' pf a.keep)) pf' = none := (Same.upd (Same.refl _) hl1).free hpf'
      rw [upd_same] at this; cases this
    have fn1 : H1 pf' = none := by
      have : upd H1 p (HO.ins CS dx (sf pn' pf a.keep)) pf' = none := (Same.upd (Same.refl _) hl1).free hpf'
      rw [upd_ne np2] at this; exact this
    have np3 : pn' ≠ pf' := ne_of_none hn1 fn1
    have np4 : p ≠ l1 := fun e => by subst e; rw [show _ = _ from upd_same] at hl1; cases hl1
    have fl1 : H1 l1 = none := by
      have : upd H1 p (HO.ins CS dx (sf pn' pf a.keep)) l1 = none := hl1
      rw [upd_ne np4.symm] at this; exact this
    refine ⟨_, rfl, p, CS, dx, sf pn' pf a.keep, rfl, by rw [upd_ne np2.symm, upd_ne np4, upd_same]; rfl, T.clS, T.nF, (by show 3 < 1000; decide), ?_⟩
    refine ⟨_, rfl, _, rfl, p, CS, dx, sf pn' pf' a.keep, rfl, upd_same, T.clS, T.nK, (by show 3 < 1000; decide), ?_⟩
    refine ⟨(by show 1 ≤ sizeLine; decide), fun r hr0 => ?_⟩
    have np5 : r ≠ p := fun e => by subst e; rw [show _ = _ from upd_same] at hr0; cases hr0
    rw [upd_ne np5, upd_ne np5] at hr0
    have np6 : r ≠ pf' := fun e => by subst e; rw [show _ = _ from upd_same] at hr0; cases hr0
    rw [upd_ne np6] at hr0
    have np7 : r ≠ l1 := fun e => by subst e; rw [show _ = _ from upd_same] at hr0; cases hr0
    rw [upd_ne np7, upd_ne np5] at hr0
    have np8 : r ≠ pn' := (ne_of_none hn1 hr0).symm
    have e : Su85.does a (.begin_ n k) = (Su85.new n k, Su85.no 0) := if_neg (by show ¬ (n = 0 ∨ 10 < n ∨ 100 < k); omega)
    refine q _ r pn' pf' ?_ ?_ (s1.free hr0) (.inr fn) (.inr (s1.free fn1)) np8 np6 fun b o hb h4 h5 h6 => ?_
    · show StoreAt CS _ p pn' pf' (Su85.does a (.begin_ n k)).1
      rw [e]
      refine ⟨⟨dx, by rw [upd_ne np5.symm, upd_same]; rfl⟩, ?_, ?_, np3, new_good (by omega) (by omega)⟩
      · rw [upd_ne np8.symm, upd_ne np1.symm, upd_ne np1.symm, upd_ne np3, upd_ne (ne_of_none hn1 fl1), upd_ne np1.symm]; exact hn1
      · rw [upd_ne np6.symm, upd_ne np2, upd_ne np2, upd_same]; rfl
    · show _ = some (HO.lst (ansV (Su85.does a (.begin_ n k)).2))
      rw [e, upd_same]; rfl
    · have hb1 := s1 _ _ hb
      rw [upd_ne (ne_of_none hb1 hr0), upd_ne h4, upd_ne h4, upd_ne (ne_of_none hb1 fn1), upd_ne (ne_of_none hb1 fl1), upd_ne h4]
      exact hb1
end
end OK
end
section
set_option Elab.async false
set_option linter.all false
set_option maxRecDepth 100000
set_option maxHeartbeats 4000000
namespace OK
open PySem PySem.Spec PyProof.Rows L2
open Su85 (Abs)
section
variable {P : Program} {w : World} {K : PySem.W.Frag} {mg : Str → Option Value} {base : Heap}
/-! ### day_refusal, put -/
def dayRef (l : List Nat) (d x m : Nat) : Int := if l.length ≤ d then -2 else if m < x then -22 else 0
def spDayRef (K : PySem.W.Frag) : Sp := fun vs H Q _ => ∃ (q : Addr) (l : List Nat) (d x m : Nat), vs = [.ref q, .int d, .int x, .int m] ∧ SqL K H q (iv l) ∧ ∀ H' : Hp, Same H H' → Q (.int (dayRef l d x m)) H'
abbrev nDayRef : List Str := ["amounts", "day", "amount", "most"]
structure DayRef (P : Program) (w : World) (K : PySem.W.Frag) (mg : Str → Option Value) (base : Heap) (f : Addr) (fd : FuncData) : Prop where
  ok : FnOk P w K mg base CX0 1 f fd ["amounts", "day", "amount", "most"] (spDayRef K)
  kp : PySem.W.keepIn K (.ref f) = true
  mg : mg "day_refusal" = some (.ref f)
  bd : Binds K fd ["amounts", "day", "amount", "most"] []
theorem scDayRef : FnScope nDayRef ["amounts", "day", "amount", "most"] (defScope sDayRef) := ⟨rfl, rfl, rfl, by decide +kernel, rfl, by decide +kernel, by decide +kernel⟩
theorem ok_dayRef {f CB CS : Addr} {fd : FuncData} (F : Fun K "day_refusal" "day_refusal" sDayRef f fd) (T : TxtS K mg CB CS) : FnOk P w K mg base CX0 1 f fd ["amounts", "day", "amount", "most"] (spDayRef K) := by
  refine F.ok scDayRef (fun vs H Q E h => ?_) (fun cdv A outer s H vs Q E hr h => ?_)
  · obtain ⟨q, l, d, x, m, rfl, _⟩ := h
    rfl
  · obtain ⟨p, l, d, x, m, rfl, hp, q⟩ := h
    refine ⟨_, pss_cons (ps_if (pt_cmpR op_ge (pv 1) (pe_callB call_len_seq rfl T.len PySem.boot_len (pa_cons (pv 0) pa_nil)) (nomark _)) (pss_one (ps_ret (pgI T.noSuch))) pss_nil)
      (pss_cons (ps_if (pt_cmpR op_gt (pv 2) (pv 3) (nomark _)) (pss_one (ps_ret (pgI T.outOf))) pss_nil)
      (pss_one (ps_ret pe_int))), ?_⟩
    refine ⟨_, rfl, _, rfl, p, iv l, rfl, .inl hp, _, _, rfl, rfl, _, rfl, ite2 (fun h1 => ?_) (fun h1 => ?_)⟩
    · have h1 : ((iv l).length : Int) ≤ d := of_decide_eq_true h1
      rw [iv_len] at h1
      have e : dayRef l d x m = -2 := if_pos (by omega)
      rw [e] at q
      exact q H (Same.refl H)
    have h1 : ¬ ((iv l).length : Int) ≤ d := fun z => h1 (decide_eq_true z)
    rw [iv_len] at h1
    refine ⟨_, rfl, _, rfl, _, _, rfl, rfl, _, rfl, ite2 (fun h2 => ?_) (fun h2 => ?_)⟩
    · have h2 : (m : Int) < x := of_decide_eq_true h2
      have e : dayRef l d x m = -22 := (if_neg (by omega)).trans (if_pos (by omega))
      rw [e] at q
      exact q H (Same.refl H)
    have h2 : ¬ (m : Int) < x := fun z => h2 (decide_eq_true z)
    have e : dayRef l d x m = 0 := (if_neg (by omega)).trans (if_neg (by omega))
    rw [e] at q
    exact q H (Same.refl H)
/-- what a refusal says -/
theorem dayRef_neg {l : List Nat} {d x m : Nat} (h : dayRef l d x m < 0) : (l.length ≤ d ∧ dayRef l d x m = -2) ∨ (d < l.length ∧ m < x ∧ dayRef l d x m = -22) := by
  unfold dayRef at h ⊢
  by_cases h1 : l.length ≤ d
  · exact .inl ⟨h1, if_pos h1⟩
  · rw [if_neg h1] at h ⊢
    by_cases h2 : m < x
    · exact .inr ⟨by omega, h2, if_pos h2⟩
    · rw [if_neg h2] at h
      exact absurd h (by decide)
theorem dayRef_ok {l : List Nat} {d x m : Nat} (h : ¬ dayRef l d x m < 0) : d < l.length ∧ x ≤ m := by
  unfold dayRef at h
  by_cases h1 : l.length ≤ d
  · rw [if_pos h1] at h
    exact absurd (by decide) h
  · rw [if_neg h1] at h
    by_cases h2 : m < x
    · rw [if_pos h2] at h
      exact absurd (by decide) h
    · exact ⟨by omega, by omega⟩
def spPut : Sp := fun vs H Q _ => ∃ (q : Addr) (l : List Nat) (d x m : Nat), vs = [.ref q, .int d, .int x, .int m] ∧ H q = some (.lst (iv l)) ∧ l.length ≤ 10 ∧
  (l.length ≤ d → ∀ (H' : Hp) (r : Addr), Same H H' → H r = none → H' r = some (.lst [.int (-2)]) → Q (.ref r) H') ∧
  (d < l.length → m < x → ∀ (H' : Hp) (r : Addr), Same H H' → H r = none → H' r = some (.lst [.int (-22)]) → Q (.ref r) H') ∧
  (d < l.length → x ≤ m → ∀ (H' : Hp) (r : Addr), H' q = some (.lst (iv (l.set d x))) → H r = none → H' r = some (.lst [.int (l.getD d 0 : Nat)]) → (∀ b o, H b = some o → b ≠ q → H' b = some o) → Q (.ref r) H')
abbrev nPut : List Str := ["amounts", "day", "amount", "most", "refusal", "was"]
theorem scPut : FnScope nPut ["amounts", "day", "amount", "most"] (defScope sPut) := ⟨rfl, rfl, rfl, by decide +kernel, rfl, by decide +kernel, by decide +kernel⟩
theorem ok_put {f fr CB CS : Addr} {fd fdr : FuncData} (F : Fun K "put" "put" sPut f fd) (T : TxtS K mg CB CS) (R : DayRef P w K mg base fr fdr) : FnOk P w K mg base CX0 2 f fd ["amounts", "day", "amount", "most"] spPut := by
  refine F.ok scPut (fun vs H Q E h => ?_) (fun cdv A outer s H vs Q E hr h => ?_)
  · obtain ⟨q, l, d, x, m, rfl, _⟩ := h
    rfl
  · obtain ⟨q, l, d, x, m, rfl, hq, hl, k1, k2, k3⟩ := h
    refine ⟨_, pss_cons (ps_set (i := 4) scPut.nd rfl (Or.inl rfl) (pe_call R.ok hr rfl R.mg R.kp R.bd .nil pass0 (pa_cons (pv 0) (pa_cons (pv 1) (pa_cons (pv 2) (pa_cons (pv 3) pa_nil))))))
      (pss_cons (ps_if (pt_cmpR op_lt (pv 4) pe_int (nomark _)) (pss_one (ps_ret (pe_lst (pa_cons (pv 4) pa_nil)))) pss_nil)
      (pss_cons (ps_set (i := 5) scPut.nd rfl (Or.inl rfl) (pe_ix ix_list (pv 0) (pv 1) (fun _ _ => rfl)))
      (pss_cons (ps_asg (pv 2) (pg_sub (pv 0) (pv 1) set_list))
      (pss_one (ps_ret (pe_lst (pa_cons (pv 5) pa_nil))))))), ?_⟩
    refine ⟨_, rfl, _, rfl, _, rfl, _, rfl, q, l, d, x, m, rfl, SqL.of hq, fun H1 s1 => ?_⟩
    refine ⟨_, rfl, _, _, rfl, rfl, _, rfl, ite2 (fun h1 => ?_) (fun h1 => ?_)⟩
    · have h1 : dayRef l d x m < 0 := of_decide_eq_true h1
      refine ⟨_, rfl, (by show 1 ≤ sizeLine; decide), fun r hr0 => ?_⟩
      rcases dayRef_neg h1 with ⟨g1, g2⟩ | ⟨g1, g2, g3⟩
      · exact k1 g1 _ r (Same.upd s1 (s1.free hr0)) (s1.free hr0) (by rw [upd_same, g2])
      · exact k2 g1 g2 _ r (Same.upd s1 (s1.free hr0)) (s1.free hr0) (by rw [upd_same, g3])
    have h1 : ¬ dayRef l d x m < 0 := fun z => h1 (decide_eq_true z)
    obtain ⟨hd, h2⟩ := dayRef_ok h1
    have hq1 := s1 _ _ hq
    refine ⟨_, rfl, _, rfl, q, _, _, _, rfl, rfl, SqL.of hq1, at_of (j := d) rfl (iv_get (getD_get hd)), _, rfl, _, rfl, _, rfl, q, iv l, _, d, rfl, rfl, hq1, ixN_nat (by rw [iv_len]; exact hd), ?_⟩
    rw [set_iv]
    refine ⟨_, rfl, (by show 1 ≤ sizeLine; decide), fun r hr0 => ?_⟩
    have nq : r ≠ q := fun e => by subst e; rw [show _ = _ from upd_same] at hr0; cases hr0
    rw [upd_ne nq] at hr0
    refine k3 hd h2 _ r (by rw [upd_ne nq.symm, upd_same]) (s1.free hr0) upd_same fun b o e hb => ?_
    rw [upd_ne (ne_of_none (s1 _ _ e) hr0), upd_ne hb]; exact s1 _ _ e
/-! ### need, fee, keep -/
theorem is_len {xs : List Nat} (h : xs.length = 2) : ∃ n k, xs = [n, k] := match xs, h with | [n, k], _ => ⟨n, k, rfl⟩
theorem is_len1 {xs : List Nat} (h : xs.length = 1) : ∃ n, xs = [n] := match xs, h with | [n], _ => ⟨n, rfl⟩
theorem scNeed : FnScope ["store", "given"] ["store", "given"] (defScope sNeed) := ⟨rfl, rfl, rfl, by decide +kernel, rfl, by decide +kernel, by decide +kernel⟩
theorem ok_need {f fp CB CS : Addr} {fd fdp : FuncData} (F : Fun K "need" "need" sNeed f fd) (T : TxtS K mg CB CS) (GP : FnOk P w K mg base CX0 2 fp fdp ["amounts", "day", "amount", "most"] spPut) (kp : PySem.W.keepIn K (.ref fp) = true) (mp : mg "put" = some (.ref fp))
    (bp : Binds K fdp ["amounts", "day", "amount", "most"] []) : FnOk P w K mg base CX0 3 f fd ["store", "given"] (spDo K CS (fun xs => .need (xs.getD 0 0) (xs.getD 1 0)) (fun xs => xs.length = 2) true) := by
  refine F.ok scNeed (fun vs H Q E h => ?_) (fun cdv A outer s H vs Q E hr h => ?_)
  · obtain ⟨p, pn, pf, g, a, xs, rfl, _⟩ := h
    rfl
  · obtain ⟨p, pn, pf, g, a, xs, rfl, S, _, hg, hx, q⟩ := h
    obtain ⟨t, n, rfl⟩ := is_len hx
    obtain ⟨dx, hp⟩ := S.ins
    have q : Post CS H p pn pf (Su85.does a (.need t n)) Q := q
    refine ⟨_, pss_one (ps_ret (pe_call GP hr rfl mp kp bp .nil pass0 (pa_cons (pe_fld (pv 0) rfl) (pa_cons (pe_ix ix_list (pv 1) pe_int (fun _ _ => rfl)) (pa_cons (pe_ix ix_list (pv 1) pe_int (fun _ _ => rfl)) (pa_cons (pgI T.mNeed) pa_nil)))))), ?_⟩
    refine ⟨_, rfl, p, CS, dx, sf pn pf a.keep, .ref pn, rfl, hp, T.clS, T.nN, rfl, _, rfl, g, _, _, _, rfl, rfl, hg, at_of (j := 0) rfl rfl, _, rfl, g, _, _, _, rfl, rfl, hg, at_of (j := 1) rfl rfl, ?_⟩
    refine ⟨pn, a.needs, t, n, 1000, rfl, S.n, S.good.ten, fun h1 H' r s1 h0 hr' => ?_, fun h1 h2 H' r s1 h0 hr' => ?_, fun h1 h2 H' r hn h0 hr' fr => ?_⟩
    · have e : Su85.does a (.need t n) = (a, Su85.no (-2)) := if_pos (decide_eq_false (show ¬ t < a.needs.length by omega))
      rw [e] at q
      exact q.read S rfl s1 hr' h0
    · have e : Su85.does a (.need t n) = (a, Su85.no (-22)) := (if_neg (by show ¬ decide (t < a.needs.length) = false; rw [decide_eq_true h1]; decide)).trans (if_pos h2)
      rw [e] at q
      exact q.read S rfl s1 hr' h0
    · have e : Su85.does a (.need t n) = ({ a with needs := a.needs.set t n }, Su85.num (a.need t) []) := (if_neg (by show ¬ decide (t < a.needs.length) = false; rw [decide_eq_true h1]; decide)).trans (if_neg (by show ¬ 1000 < n; omega))
      rw [e] at q
      have npn : p ≠ pn := ne_of hp S.n (by intro z; cases z)
      refine q H' r pn pf ⟨⟨dx, fr _ _ hp npn⟩, hn, fr _ _ S.f S.ne.symm, S.ne, ?_⟩ hr' h0 (.inl rfl) (.inl rfl) (ne_of_none S.n h0).symm (ne_of_none S.f h0).symm fun b o hb _ h4 _ => fr b o hb h4
      exact ⟨by show a.fees.length = (a.needs.set t n).length; rw [List.length_set]; exact S.good.len, by show (a.needs.set t n).length ≤ 10; rw [List.length_set]; exact S.good.ten, S.good.keep⟩
theorem scFee : FnScope ["store", "given"] ["store", "given"] (defScope sFee) := ⟨rfl, rfl, rfl, by decide +kernel, rfl, by decide +kernel, by decide +kernel⟩
theorem ok_fee {f fp CB CS : Addr} {fd fdp : FuncData} (F : Fun K "fee" "fee" sFee f fd) (T : TxtS K mg CB CS) (GP : FnOk P w K mg base CX0 2 fp fdp ["amounts", "day", "amount", "most"] spPut) (kp : PySem.W.keepIn K (.ref fp) = true) (mp : mg "put" = some (.ref fp))
    (bp : Binds K fdp ["amounts", "day", "amount", "most"] []) : FnOk P w K mg base CX0 3 f fd ["store", "given"] (spDo K CS (fun xs => .fee (xs.getD 0 0) (xs.getD 1 0)) (fun xs => xs.length = 2) true) := by
  refine F.ok scFee (fun vs H Q E h => ?_) (fun cdv A outer s H vs Q E hr h => ?_)
  · obtain ⟨p, pn, pf, g, a, xs, rfl, _⟩ := h
    rfl
  · obtain ⟨p, pn, pf, g, a, xs, rfl, S, _, hg, hx, q⟩ := h
    obtain ⟨t, n, rfl⟩ := is_len hx
    obtain ⟨dx, hp⟩ := S.ins
    have hlen := S.good.len
    have hten := S.good.ten
    have q : Post CS H p pn pf (Su85.does a (.fee t n)) Q := q
    refine ⟨_, pss_one (ps_ret (pe_call GP hr rfl mp kp bp .nil pass0 (pa_cons (pe_fld (pv 0) rfl) (pa_cons (pe_ix ix_list (pv 1) pe_int (fun _ _ => rfl)) (pa_cons (pe_ix ix_list (pv 1) pe_int (fun _ _ => rfl)) (pa_cons (pgI T.mFee) pa_nil)))))), ?_⟩
    refine ⟨_, rfl, p, CS, dx, sf pn pf a.keep, .ref pf, rfl, hp, T.clS, T.nF, rfl, _, rfl, g, _, _, _, rfl, rfl, hg, at_of (j := 0) rfl rfl, _, rfl, g, _, _, _, rfl, rfl, hg, at_of (j := 1) rfl rfl, ?_⟩
    refine ⟨pf, a.fees, t, n, 10000, rfl, S.f, by omega, fun h1 H' r s1 h0 hr' => ?_, fun h1 h2 H' r s1 h0 hr' => ?_, fun h1 h2 H' r hn h0 hr' fr => ?_⟩
    · have e : Su85.does a (.fee t n) = (a, Su85.no (-2)) := if_pos (decide_eq_false (show ¬ t < a.needs.length by omega))
      rw [e] at q
      exact q.read S rfl s1 hr' h0
    · have e : Su85.does a (.fee t n) = (a, Su85.no (-22)) := (if_neg (by show ¬ decide (t < a.needs.length) = false; rw [decide_eq_true (by omega)]; decide)).trans (if_pos h2)
      rw [e] at q
      exact q.read S rfl s1 hr' h0
    · have e : Su85.does a (.fee t n) = ({ a with fees := a.fees.set t n }, Su85.num (a.fee t) []) := (if_neg (by show ¬ decide (t < a.needs.length) = false; rw [decide_eq_true (by omega)]; decide)).trans (if_neg (by show ¬ 10000 < n; omega))
      rw [e] at q
      have npf : p ≠ pf := ne_of hp S.f (by intro z; cases z)
      refine q H' r pn pf ⟨⟨dx, fr _ _ hp npf⟩, fr _ _ S.n S.ne, hn, S.ne, ?_⟩ hr' h0 (.inl rfl) (.inl rfl) (ne_of_none S.n h0).symm (ne_of_none S.f h0).symm fun b o hb _ _ h5 => fr b o hb h5
      exact ⟨by show (a.fees.set t n).length = a.needs.length; rw [List.length_set]; exact S.good.len, S.good.ten, S.good.keep⟩
theorem scKeep : FnScope ["store", "given", "was"] ["store", "given"] (defScope sKeep) := ⟨rfl, rfl, rfl, by decide +kernel, rfl, by decide +kernel, by decide +kernel⟩
theorem ok_keep {f CB CS : Addr} {fd : FuncData} (F : Fun K "keep" "keep" sKeep f fd) (T : TxtS K mg CB CS) : FnOk P w K mg base CX0 1 f fd ["store", "given"] (spDo K CS (fun xs => .keep (xs.getD 0 0)) (fun xs => xs.length = 1) true) := by
  refine F.ok scKeep (fun vs H Q E h => ?_) (fun cdv A outer s H vs Q E hr h => ?_)
  · obtain ⟨p, pn, pf, g, a, xs, rfl, _⟩ := h
    rfl
  · obtain ⟨p, pn, pf, g, a, xs, rfl, S, _, hg, hx, q⟩ := h
    obtain ⟨n, rfl⟩ := is_len1 hx
    obtain ⟨dx, hp⟩ := S.ins
    have q : Post CS H p pn pf (Su85.does a (.keep n)) Q := q
    refine ⟨_, pss_cons (ps_if (pt_cmpR op_gt (pe_ix ix_list (pv 1) pe_int (fun _ _ => rfl)) (pgI T.mKeep) (nomark _)) (pss_one (ps_ret (pe_lst (pa_cons (pgI T.outOf) pa_nil)))) pss_nil)
      (pss_cons (ps_set (i := 2) scKeep.nd rfl (Or.inl rfl) (pe_fld (pv 0) rfl))
      (pss_cons (ps_fld (pv 0) (pe_ix ix_list (pv 1) pe_int (fun _ _ => rfl)) rfl)
      (pss_one (ps_ret (pe_lst (pa_cons (pv 2) pa_nil)))))), ?_⟩
    refine ⟨_, rfl, g, _, _, _, rfl, rfl, hg, at_of (j := 0) rfl rfl, _, _, rfl, rfl, _, rfl, ite2 (fun h1 => ?_) (fun h1 => ?_)⟩
    · have h1 : (100 : Int) < n := of_decide_eq_true h1
      have e : Su85.does a (.keep n) = (a, Su85.no (-22)) := if_pos (by omega)
      rw [e] at q
      exact ⟨(by show 1 ≤ sizeLine; decide), fun r hr0 => q.read S rfl (Same.upd (Same.refl H) hr0) upd_same hr0⟩
    have h1 : ¬ (100 : Int) < n := fun z => h1 (decide_eq_true z)
    have e : Su85.does a (.keep n) = ({ a with keep := n }, Su85.num a.keep []) := if_neg (by omega)
    rw [e] at q
    refine ⟨_, rfl, p, CS, dx, sf pn pf a.keep, .int a.keep, rfl, hp, T.clS, T.nK, rfl, _, rfl, g, _, _, _, rfl, rfl, hg, at_of (j := 0) rfl rfl, _, rfl, p, CS, dx, sf pn pf a.keep, rfl, hp, T.clS, T.nK, (by show 3 < 1000; decide), ?_⟩
    refine ⟨_, rfl, (by show 1 ≤ sizeLine; decide), fun r hr0 => ?_⟩
    have np : r ≠ p := fun e => by subst e; rw [show _ = _ from upd_same] at hr0; cases hr0
    rw [upd_ne np] at hr0
    have npn : pn ≠ p := (ne_of hp S.n (by intro z; cases z)).symm
    have npf : pf ≠ p := (ne_of hp S.f (by intro z; cases z)).symm
    refine q _ r pn pf ⟨⟨dx, by rw [upd_ne np.symm, upd_same]; rfl⟩, by rw [upd_ne (ne_of_none S.n hr0), upd_ne npn]; exact S.n, by rw [upd_ne (ne_of_none S.f hr0), upd_ne npf]; exact S.f, S.ne, S.good.len, S.good.ten, by show n ≤ 100; omega⟩ upd_same hr0 (.inl rfl) (.inl rfl) (ne_of_none S.n hr0).symm (ne_of_none S.f hr0).symm fun b o hb h3 _ _ => ?_
    rw [upd_ne (ne_of_none hb hr0), upd_ne h3]; exact hb
end
end OK
end
section
set_option Elab.async false
set_option linter.all false
set_option maxRecDepth 100000
set_option maxHeartbeats 4000000
namespace OK
open PySem PySem.Spec PyProof.Rows L2
open Su85 (Abs)
section
variable {P : Program} {w : World} {K : PySem.W.Frag} {mg : Str → Option Value} {base : Heap}
/-- best_of as it is called -/
structure BestOf (P : Program) (w : World) (K : PySem.W.Frag) (mg : Str → Option Value) (base : Heap) (CB CS f : Addr) (fd : FuncData) : Prop where
  ok : FnOk P w K mg base CX0 4 f fd ["store"] (spBestOf CB CS)
  kp : PySem.W.keepIn K (.ref f) = true
  mg : mg "best_of" = some (.ref f)
  bd : Binds K fd ["store"] []
theorem scLeast : FnScope ["store", "given"] ["store", "given"] (defScope sLeast) := ⟨rfl, rfl, rfl, by decide +kernel, rfl, by decide +kernel, by decide +kernel⟩
theorem ok_least {f fo CB CS : Addr} {fd fdo : FuncData} (F : Fun K "least" "least" sLeast f fd) (T : TxtS K mg CB CS) (O : BestOf P w K mg base CB CS fo fdo) : FnOk P w K mg base CX0 5 f fd ["store", "given"] (spDo K CS (fun xs => .least (xs.getD 0 0)) (fun xs => xs.length = 1) true) := by
  refine F.ok scLeast (fun vs H Q E h => ?_) (fun cdv A outer s H vs Q E hr h => ?_)
  · obtain ⟨p, pn, pf, g, a, xs, rfl, _⟩ := h
    rfl
  · obtain ⟨p, pn, pf, g, a, xs, rfl, S, _, hg, hx, q⟩ := h
    obtain ⟨t, rfl⟩ := is_len1 hx
    obtain ⟨dx, hp⟩ := S.ins
    have q : Post CS H p pn pf (Su85.does a (.least t)) Q := q
    refine ⟨_, pss_cons (ps_if (pt_cmpR op_gt (pe_ix ix_list (pv 1) pe_int (fun _ _ => rfl)) (pe_callB call_len_seq rfl T.len PySem.boot_len (pa_cons (pe_fld (pv 0) rfl) pa_nil)) (nomark _)) (pss_one (ps_ret (pe_lst (pa_cons (pgI T.outOf) pa_nil)))) pss_nil)
      (pss_one (ps_ret (pe_lst (pa_cons (pe_ix ix_list (pe_fld (pe_call O.ok hr rfl O.mg O.kp O.bd .nil pass0 (pa_cons (pv 0) pa_nil)) rfl) (pe_ix ix_list (pv 1) pe_int (fun _ _ => rfl)) (fun _ _ => rfl)) pa_nil)))), ?_⟩
    refine ⟨_, rfl, g, _, _, _, rfl, rfl, hg, at_of (j := 0) rfl rfl, _, rfl, p, CS, dx, sf pn pf a.keep, .ref pn, rfl, hp, T.clS, T.nN, rfl, pn, iv a.needs, rfl, .inl (SqL.of S.n), _, _, rfl, rfl, _, rfl, ite2 (fun h1 => ?_) (fun h1 => ?_)⟩
    · have h1 : ((iv a.needs).length : Int) < t := of_decide_eq_true h1
      rw [iv_len] at h1
      have e : Su85.does a (.least t) = (a, Su85.no (-22)) := if_pos (by show a.needs.length < t; omega)
      rw [e] at q
      exact ⟨(by show 1 ≤ sizeLine; decide), fun r hr0 => q.read S rfl (Same.upd (Same.refl H) hr0) upd_same hr0⟩
    have h1 : ¬ ((iv a.needs).length : Int) < t := fun z => h1 (decide_eq_true z)
    rw [iv_len] at h1
    have e : Su85.does a (.least t) = (a, Su85.num (a.least t) []) := if_neg (by show ¬ a.needs.length < t; omega)
    rw [e] at q
    refine ⟨_, rfl, p, pn, pf, a, rfl, S, fun H1 b pL pD s1 B => ?_⟩
    obtain ⟨db, hb⟩ := B.ins
    refine ⟨b, CB, db, bf pL pD, .ref pL, rfl, hb, T.clB, T.nL, rfl, _, rfl, g, _, _, _, rfl, rfl, s1.seq hg, at_of (j := 0) rfl rfl, pL, _, _, _, rfl, rfl, SqL.of B.L, at_of (j := t) rfl (iv_get (leasts_get a (by omega))), ?_⟩
    exact ⟨(by show 1 ≤ sizeLine; decide), fun r hr0 => q.read S rfl (Same.upd s1 (s1.free hr0)) upd_same (s1.free hr0)⟩
theorem scLast : FnScope ["store", "given"] ["store", "given"] (defScope sLast) := ⟨rfl, rfl, rfl, by decide +kernel, rfl, by decide +kernel, by decide +kernel⟩
theorem ok_last {f fo CB CS : Addr} {fd fdo : FuncData} (F : Fun K "last" "last" sLast f fd) (T : TxtS K mg CB CS) (O : BestOf P w K mg base CB CS fo fdo) : FnOk P w K mg base CX0 5 f fd ["store", "given"] (spDo K CS (fun xs => .last (xs.getD 0 0)) (fun xs => xs.length = 1) true) := by
  refine F.ok scLast (fun vs H Q E h => ?_) (fun cdv A outer s H vs Q E hr h => ?_)
  · obtain ⟨p, pn, pf, g, a, xs, rfl, _⟩ := h
    rfl
  · obtain ⟨p, pn, pf, g, a, xs, rfl, S, _, hg, hx, q⟩ := h
    obtain ⟨t, rfl⟩ := is_len1 hx
    obtain ⟨dx, hp⟩ := S.ins
    have q : Post CS H p pn pf (Su85.does a (.last t)) Q := q
    refine ⟨_, pss_cons (ps_if (pt_cmpR op_gt (pe_ix ix_list (pv 1) pe_int (fun _ _ => rfl)) (pe_callB call_len_seq rfl T.len PySem.boot_len (pa_cons (pe_fld (pv 0) rfl) pa_nil)) (nomark _)) (pss_one (ps_ret (pe_lst (pa_cons (pgI T.outOf) pa_nil)))) pss_nil)
      (pss_one (ps_ret (pe_lst (pa_cons (pe_ix ix_list (pe_fld (pe_call O.ok hr rfl O.mg O.kp O.bd .nil pass0 (pa_cons (pv 0) pa_nil)) rfl) (pe_ix ix_list (pv 1) pe_int (fun _ _ => rfl)) (fun _ _ => rfl)) pa_nil)))), ?_⟩
    refine ⟨_, rfl, g, _, _, _, rfl, rfl, hg, at_of (j := 0) rfl rfl, _, rfl, p, CS, dx, sf pn pf a.keep, .ref pn, rfl, hp, T.clS, T.nN, rfl, pn, iv a.needs, rfl, .inl (SqL.of S.n), _, _, rfl, rfl, _, rfl, ite2 (fun h1 => ?_) (fun h1 => ?_)⟩
    · have h1 : ((iv a.needs).length : Int) < t := of_decide_eq_true h1
      rw [iv_len] at h1
      have e : Su85.does a (.last t) = (a, Su85.no (-22)) := if_pos (by show a.needs.length < t; omega)
      rw [e] at q
      exact ⟨(by show 1 ≤ sizeLine; decide), fun r hr0 => q.read S rfl (Same.upd (Same.refl H) hr0) upd_same hr0⟩
    have h1 : ¬ ((iv a.needs).length : Int) < t := fun z => h1 (decide_eq_true z)
    rw [iv_len] at h1
    have e : Su85.does a (.last t) = (a, Su85.num (a.last t) []) := if_neg (by show ¬ a.needs.length < t; omega)
    rw [e] at q
    refine ⟨_, rfl, p, pn, pf, a, rfl, S, fun H1 b pL pD s1 B => ?_⟩
    obtain ⟨db, hb⟩ := B.ins
    refine ⟨b, CB, db, bf pL pD, .ref pD, rfl, hb, T.clB, T.nD, rfl, _, rfl, g, _, _, _, rfl, rfl, s1.seq hg, at_of (j := 0) rfl rfl, pD, _, _, _, rfl, rfl, SqL.of B.D, at_of (j := t) rfl (iv_get (lasts_get a (by omega))), ?_⟩
    exact ⟨(by show 1 ≤ sizeLine; decide), fun r hr0 => q.read S rfl (Same.upd s1 (s1.free hr0)) upd_same (s1.free hr0)⟩
/-! ### plan -/
theorem scPlanC : FnScope ["store", "given"] ["store", "given"] (defScope sPlan) := ⟨rfl, rfl, rfl, by decide +kernel, rfl, by decide +kernel, by decide +kernel⟩
theorem ok_planC {f fo CB CS : Addr} {fd fdo : FuncData} (F : Fun K "plan" "plan" sPlan f fd) (T : TxtS K mg CB CS) (O : LeastP P w K mg base fo fdo) :
    FnOk P w K mg base CX0 5 f fd ["store", "given"] (spDo K CS (fun _ => .plan) (fun xs => xs.length = 0) true) := by
  refine F.ok scPlanC (fun vs H Q E h => ?_) (fun cdv A outer s H vs Q E hr h => ?_)
  · obtain ⟨p, pn, pf, g, a, xs, rfl, _⟩ := h
    rfl
  · obtain ⟨p, pn, pf, g, a, xs, rfl, S, _, hg, hx, q⟩ := h
    obtain ⟨dx, hp⟩ := S.ins
    have q : Post CS H p pn pf (a, Su85.num (a.least a.days) a.plan) Q := q
    refine ⟨_, pss_one (ps_ret (pe_call O.ok hr rfl O.mg O.kp O.bd .nil pass0 (pa_cons (pe_fld (pv 0) rfl) (pa_cons (pe_fld (pv 0) rfl) (pa_cons (pe_fld (pv 0) rfl) pa_nil))))), ?_⟩
    refine ⟨_, rfl, p, CS, dx, sf pn pf a.keep, .ref pn, rfl, hp, T.clS, T.nN, rfl, _, rfl, p, CS, dx, sf pn pf a.keep, .ref pf, rfl, hp, T.clS, T.nF, rfl, _, rfl, p, CS, dx, sf pn pf a.keep, .int a.keep, rfl, hp, T.clS, T.nK, rfl, ?_⟩
    exact ⟨pn, pf, a, rfl, S.days, fun H' r s1 h0 hr' => q.read S rfl s1 hr' h0⟩
/-! ### lasts -/
theorem cut_tail (l : List Nat) (h : 0 < l.length) : cutV (iv l) (some 1) none = iv (l.drop 1) := by
  unfold cutV
  have e : HT.sIx (iv l).length 0 (some 1) = 1 := by
    rw [show (1 : Int) = ((1 : Nat) : Int) from rfl, HT.sIx_nat, iv_len, Nat.min_eq_left h]
  rw [e, HT.sIx_none, List.take_of_length_le (by rw [List.length_drop]; exact Nat.le_refl _)]
  unfold iv; rw [List.map_drop]
theorem scLasts : FnScope ["store", "given"] ["store", "given"] (defScope sLasts) := ⟨rfl, rfl, rfl, by decide +kernel, rfl, by decide +kernel, by decide +kernel⟩
theorem ok_lasts {f fo CB CS : Addr} {fd fdo : FuncData} (F : Fun K "lasts" "lasts" sLasts f fd) (T : TxtS K mg CB CS) (O : BestOf P w K mg base CB CS fo fdo) :
    FnOk P w K mg base CX0 5 f fd ["store", "given"] (spDo K CS (fun _ => .lasts) (fun xs => xs.length = 0) true) := by
  refine F.ok scLasts (fun vs H Q E h => ?_) (fun cdv A outer s H vs Q E hr h => ?_)
  · obtain ⟨p, pn, pf, g, a, xs, rfl, _⟩ := h
    rfl
  · obtain ⟨p, pn, pf, g, a, xs, rfl, S, _, hg, hx, q⟩ := h
    obtain ⟨dx, hp⟩ := S.ins
    have hten := S.good.ten
    have q : Post CS H p pn pf (a, Su85.num a.days ((List.range a.days).map fun t => a.last (t + 1))) Q := q
    refine ⟨_, pss_one (ps_ret (pe_op op_cat (pe_lst (pa_cons (pe_callB call_len_seq rfl T.len PySem.boot_len (pa_cons (pe_fld (pv 0) rfl) pa_nil)) pa_nil)) (pe_slice sl_list (pe_fld (pe_call O.ok hr rfl O.mg O.kp O.bd .nil pass0 (pa_cons (pv 0) pa_nil)) rfl) (po_some pe_int) po_none))), ?_⟩
    refine ⟨_, rfl, p, CS, dx, sf pn pf a.keep, .ref pn, rfl, hp, T.clS, T.nN, rfl, pn, iv a.needs, rfl, .inl (SqL.of S.n), (by show 1 ≤ sizeLine; decide), fun l hl => ?_⟩
    rw [iv_len]
    have s1 : Same H (upd H l (.lst [.int (a.needs.length : Nat)])) := Same.upd (Same.refl _) hl
    have hl1 : upd H l (.lst [.int (a.needs.length : Nat)]) l = some (.lst [.int (a.needs.length : Nat)]) := upd_same
    generalize upd H l (.lst [.int (a.needs.length : Nat)]) = H1 at s1 hl1 ⊢
    refine ⟨_, rfl, p, pn, pf, a, rfl, S.same s1, fun H2 b pL pD s2 B => ?_⟩
    obtain ⟨db, hb⟩ := B.ins
    refine ⟨b, CB, db, bf pL pD, .ref pD, rfl, hb, T.clB, T.nD, rfl, 1, rfl, pD, _, rfl, SqL.of B.D, fun c hc => ?_⟩
    rw [cut_tail _ (by rw [lasts_len]; omega), lasts_tail]
    refine ⟨l, c, _, _, rfl, rfl, by rw [upd_ne (ne_of_none (s2 _ _ hl1) hc)]; exact s2 _ _ hl1, upd_same, ?_, fun z hz => ?_⟩
    · rw [iv_len, List.length_map, List.length_range]
      exact Nat.le_of_lt (small10 (by show 1 + a.needs.length ≤ 1000; omega))
    · have s3 : Same H (upd H2 c (.lst (iv ((List.range a.needs.length).map fun t => a.last (t + 1))))) := Same.upd (s1.trans s2) ((s1.trans s2).free hc)
      exact q.read S rfl (Same.upd s3 (s3.free hz)) upd_same (s3.free hz)
/-! ### settled -/
def spIsSettled (CB : Addr) : Sp := fun vs H Q _ => ∃ (p pL pD : Addr) (a : Abs) (n t : Nat), vs = [.ref p, .int t] ∧ BestAt CB H p pL pD a n ∧ t < n ∧ ∀ H' : Hp, Same H H' → Q (.bl (a.settled t)) H'
structure IsSettled (P : Program) (w : World) (K : PySem.W.Frag) (mg : Str → Option Value) (base : Heap) (CB f : Addr) (fd : FuncData) : Prop where
  ok : FnOk P w K mg base CX0 1 f fd ["best", "day"] (spIsSettled CB)
  kp : PySem.W.keepIn K (.ref f) = true
  mg : mg "is_settled" = some (.ref f)
  bd : Binds K fd ["best", "day"] []
theorem scIsS : FnScope ["best", "day"] ["best", "day"] (defScope sIsSettled) := ⟨rfl, rfl, rfl, by decide +kernel, rfl, by decide +kernel, by decide +kernel⟩
theorem ok_isSettled {f CB : Addr} {fd : FuncData} (F : Fun K "is_settled" "is_settled" sIsSettled f fd) (T : Txt K mg CB) : FnOk P w K mg base CX0 1 f fd ["best", "day"] (spIsSettled CB) := by
  refine F.ok scIsS (fun vs H Q E h => ?_) (fun cdv A outer s H vs Q E hr h => ?_)
  · obtain ⟨p, pL, pD, a, n, t, rfl, _⟩ := h
    rfl
  · obtain ⟨p, pL, pD, a, n, t, rfl, B, ht, q⟩ := h
    obtain ⟨db, hb⟩ := B.ins
    refine ⟨_, pss_one (ps_ret (pe_cmpR op_eq (pe_ix ix_list (pe_fld (pv 0) rfl) (pe_op op_add (pv 1) pe_int) (fun _ _ => rfl)) (pe_op op_add (pv 1) pe_int) (nomark _))), ?_⟩
    refine ⟨_, rfl, p, CB, db, bf pL pD, .ref pD, rfl, hb, T.clB, T.nD, rfl, _, rfl, _, _, rfl, rfl, pD, _, _, _, rfl, rfl, SqL.of B.D, at_of (j := t + 1) (by omega) (iv_get (lasts_get a (by omega))), _, rfl, _, _, rfl, rfl, rfl, ?_⟩
    have e : decide (V.int (a.last (t + 1) : Int) = V.int ((t : Int) + 1)) = a.settled t := by
      show _ = (a.last (t + 1) == t + 1)
      rw [Bool.eq_iff_iff, decide_eq_true_iff, beq_iff_eq]
      constructor
      · intro z
        have := V.int.inj z
        omega
      · intro z
        rw [z]; rfl
    show Q (V.bl (decide (V.int (a.last (t + 1) : Int) = V.int ((t : Int) + 1)))) H
    rw [e]
    exact q H (Same.refl H)
theorem scSettled : FnScope ["store", "given"] ["store", "given"] (defScope sSettled) := ⟨rfl, rfl, rfl, by decide +kernel, rfl, by decide +kernel, by decide +kernel⟩
theorem ok_settled {f fo fs CB CS : Addr} {fd fdo fds : FuncData} (F : Fun K "settled" "settled" sSettled f fd) (T : TxtS K mg CB CS) (O : BestOf P w K mg base CB CS fo fdo) (G : IsSettled P w K mg base CB fs fds) :
    FnOk P w K mg base CX0 5 f fd ["store", "given"] (spDo K CS (fun xs => .settled (xs.getD 0 0)) (fun xs => xs.length = 1) true) := by
  refine F.ok scSettled (fun vs H Q E h => ?_) (fun cdv A outer s H vs Q E hr h => ?_)
  · obtain ⟨p, pn, pf, g, a, xs, rfl, _⟩ := h
    rfl
  · obtain ⟨p, pn, pf, g, a, xs, rfl, S, _, hg, hx, q⟩ := h
    obtain ⟨t, rfl⟩ := is_len1 hx
    obtain ⟨dx, hp⟩ := S.ins
    have q : Post CS H p pn pf (Su85.does a (.settled t)) Q := q
    refine ⟨_, pss_cons (ps_if (pt_cmpR op_ge (pe_ix ix_list (pv 1) pe_int (fun _ _ => rfl)) (pe_callB call_len_seq rfl T.len PySem.boot_len (pa_cons (pe_fld (pv 0) rfl) pa_nil)) (nomark _)) (pss_one (ps_ret (pe_lst (pa_cons (pgI T.noSuch) pa_nil)))) pss_nil)
      (pss_one (ps_ret (pe_lst (pa_cons (pe_ifExp (pt_val (pe_call G.ok (hr.mono (by decide)) rfl G.mg G.kp G.bd .nil pass0 (pa_cons (pe_call O.ok hr rfl O.mg O.kp O.bd .nil pass0 (pa_cons (pv 0) pa_nil)) (pa_cons (pe_ix ix_list (pv 1) pe_int (fun _ _ => rfl)) pa_nil)))) pe_int pe_int) pa_nil)))), ?_⟩
    refine ⟨_, rfl, g, _, _, _, rfl, rfl, hg, at_of (j := 0) rfl rfl, _, rfl, p, CS, dx, sf pn pf a.keep, .ref pn, rfl, hp, T.clS, T.nN, rfl, pn, iv a.needs, rfl, .inl (SqL.of S.n), _, _, rfl, rfl, _, rfl, ite2 (fun h1 => ?_) (fun h1 => ?_)⟩
    · have h1 : ((iv a.needs).length : Int) ≤ t := of_decide_eq_true h1
      rw [iv_len] at h1
      have e : Su85.does a (.settled t) = (a, Su85.no (-2)) := if_pos (decide_eq_false (show ¬ t < a.needs.length by omega))
      rw [e] at q
      exact ⟨(by show 1 ≤ sizeLine; decide), fun r hr0 => q.read S rfl (Same.upd (Same.refl H) hr0) upd_same hr0⟩
    have h1 : ¬ ((iv a.needs).length : Int) ≤ t := fun z => h1 (decide_eq_true z)
    rw [iv_len] at h1
    have ht : t < a.needs.length := by omega
    have e : Su85.does a (.settled t) = (a, Su85.num (Su85.bit (a.settled t)) []) := if_neg (by show ¬ decide (t < a.needs.length) = false; rw [decide_eq_true ht]; decide)
    rw [e] at q
    refine ⟨_, rfl, p, pn, pf, a, rfl, S, fun H1 b pL pD s1 B => ?_⟩
    refine ⟨_, rfl, g, _, _, _, rfl, rfl, s1.seq hg, at_of (j := 0) rfl rfl, b, pL, pD, a, a.needs.length, t, rfl, B, ht, fun H2 s2 => ⟨_, rfl, ?_⟩⟩
    have s12 := s1.trans s2
    cases e2 : a.settled t with
    | true =>
      rw [e2] at q
      exact ⟨(by show 1 ≤ sizeLine; decide), fun r hr0 => q.read S rfl (Same.upd s12 (s12.free hr0)) upd_same (s12.free hr0)⟩
    | false =>
      rw [e2] at q
      exact ⟨(by show 1 ≤ sizeLine; decide), fun r hr0 => q.read S rfl (Same.upd s12 (s12.free hr0)) upd_same (s12.free hr0)⟩
end
end OK
end
section
set_option Elab.async false
set_option linter.all false
set_option maxRecDepth 100000
set_option maxHeartbeats 4000000
namespace OK
open PySem PySem.Spec PyProof.Rows L2
open Su85 (Abs)
/-! ### a plan refused -/
def refusal (a : Abs) (qs : List Nat) : Int := if a.okP qs = false then -22 else match a.shelf 0 0 qs with
  | none => -12
  | some _ => 0
theorem okP_iff {a : Abs} {qs : List Nat} : a.okP qs = true ↔ qs.length = a.needs.length ∧ ∀ x ∈ qs, x ≤ 100000 := by
  unfold Abs.okP
  rw [Bool.and_eq_true, List.all_eq_true]
  constructor
  · rintro ⟨h1, h2⟩
    exact ⟨eq_of_beq h1, fun x hx => of_decide_eq_true (h2 x hx)⟩
  · rintro ⟨h1, h2⟩
    exact ⟨beq_iff_eq.mpr h1, fun x hx => decide_eq_true (h2 x hx)⟩
theorem shelf_none {a : Abs} {qs : List Nat} (hl : qs.length = a.needs.length) (h : ∃ z ∈ lies 0 a.needs qs, z < 0) : a.shelf 0 0 qs = none := by
  have e := shelf_lies a qs 0 0 (by omega)
  rw [List.drop_zero] at e
  rw [e]; exact if_pos h
theorem shelf_some {a : Abs} {qs : List Nat} (hl : qs.length = a.needs.length) (h : ∀ z ∈ lies 0 a.needs qs, 0 ≤ z) : a.shelf 0 0 qs = some ((lies 0 a.needs qs).map Int.toNat) := by
  have e := shelf_lies a qs 0 0 (by omega)
  rw [List.drop_zero] at e
  rw [e]; refine if_neg ?_
  rintro ⟨z, h1, h2⟩
  have := h z h1
  omega
theorem sum_toNat : ∀ {l : List Int}, (∀ z ∈ l, 0 ≤ z) → (((l.map Int.toNat).sum : Nat) : Int) = l.sum
  | [], _ => rfl
  | z :: l, h => by
    rw [List.map_cons, List.sum_cons, List.sum_cons, Int.natCast_add, sum_toNat fun y hy => h y (List.mem_cons_of_mem _ hy)]
    have := h z (List.mem_cons_self ..)
    omega
theorem iv_toNat : ∀ {l : List Int}, (∀ z ∈ l, 0 ≤ z) → iv (l.map Int.toNat) = l.map V.int
  | [], _ => rfl
  | z :: l, h => by
    show V.int (z.toNat : Int) :: iv (l.map Int.toNat) = V.int z :: l.map V.int
    rw [iv_toNat fun y hy => h y (List.mem_cons_of_mem _ hy), Int.toNat_of_nonneg (h z (List.mem_cons_self ..))]
/-- a plan that is not refused -/
structure Fits (a : Abs) (qs : List Nat) : Prop where
  len : qs.length = a.needs.length
  nn : ∀ z ∈ lies 0 a.needs qs, 0 ≤ z
  ok : a.okP qs = true
theorem refusal_fits {a : Abs} {qs : List Nat} (h : ¬ refusal a qs < 0) : Fits a qs := by
  unfold refusal at h
  by_cases h1 : a.okP qs = false
  · rw [if_pos h1] at h; exact absurd (by decide) h
  · rw [if_neg h1] at h
    have h1 : a.okP qs = true := by cases e : a.okP qs with | false => exact absurd e h1 | true => rfl
    have hl := (okP_iff.mp h1).1
    refine ⟨hl, fun z hz => ?_, h1⟩
    by_cases hz0 : 0 ≤ z
    · exact hz0
    · rw [shelf_none hl ⟨z, hz, by omega⟩] at h
      exact absurd (by decide) h
theorem cost_is {a : Abs} {qs : List Nat} (hl : qs.length = a.needs.length) (hn : ∀ z ∈ lies 0 a.needs qs, 0 ≤ z) : a.cost qs = some (a.feesOf 0 qs + a.keep * ((lies 0 a.needs qs).map Int.toNat).sum) := by
  unfold Abs.cost; rw [shelf_some hl hn]; rfl
theorem cost_int {a : Abs} {qs : List Nat} (hf : a.fees.length = a.needs.length) (hl : qs.length = a.needs.length) (hn : ∀ z ∈ lies 0 a.needs qs, 0 ≤ z) :
    ((paid a.fees qs : Nat) : Int) + (a.keep : Int) * (lies 0 a.needs qs).sum = ((a.feesOf 0 qs + a.keep * ((lies 0 a.needs qs).map Int.toNat).sum : Nat) : Int) := by
  rw [paid_feesOf a (by omega), Int.natCast_add, Int.natCast_mul, sum_toNat hn]
theorem nn_of {a : Abs} {qs r : List Nat} (hl : qs.length = a.needs.length) (h : a.shelf 0 0 qs = some r) : ∀ z ∈ lies 0 a.needs qs, 0 ≤ z := fun z hz => by
  by_cases hz0 : 0 ≤ z
  · exact hz0
  · rw [shelf_none hl ⟨z, hz, by omega⟩] at h
    cases h
theorem Fits.cost {a : Abs} {qs : List Nat} (F : Fits a qs) : a.cost qs = some (a.feesOf 0 qs + a.keep * ((lies 0 a.needs qs).map Int.toNat).sum) := by
  unfold Abs.cost; rw [shelf_some F.len F.nn]; rfl
theorem does_cost {a : Abs} {qs : List Nat} (F : Fits a qs) (c : Nat) (h : a.cost qs = some c) : Su85.does a (.cost qs) = (a, Su85.num c [c - a.least a.days]) := by
  show (if a.okP qs = false then _ else _) = _
  rw [if_neg (by rw [F.ok]; decide), h]
theorem does_shelf {a : Abs} {qs : List Nat} (F : Fits a qs) : Su85.does a (.shelf qs) = (a, Su85.num ((lies 0 a.needs qs).map Int.toNat).sum ((lies 0 a.needs qs).map Int.toNat)) := by
  show (if a.okP qs = false then _ else _) = _
  rw [if_neg (by rw [F.ok]; decide), shelf_some F.len F.nn]
theorem cost_refused {a : Abs} {qs : List Nat} (h : refusal a qs < 0) : Su85.does a (.cost qs) = (a, Su85.no (refusal a qs)) := by
  show (if a.okP qs = false then _ else _) = _
  unfold refusal at h ⊢
  by_cases h1 : a.okP qs = false
  · rw [if_pos h1, if_pos h1]
  · rw [if_neg h1] at h
    rw [if_neg h1, if_neg h1]
    unfold Abs.cost
    cases e : a.shelf 0 0 qs with
    | none => rfl
    | some r => rw [e] at h; exact absurd (show (0 : Int) < 0 from h) (by decide)
theorem shelf_refused {a : Abs} {qs : List Nat} (h : refusal a qs < 0) : Su85.does a (.shelf qs) = (a, Su85.no (refusal a qs)) := by
  show (if a.okP qs = false then _ else _) = _
  unfold refusal at h ⊢
  by_cases h1 : a.okP qs = false
  · rw [if_pos h1, if_pos h1]
  · rw [if_neg h1] at h
    rw [if_neg h1, if_neg h1]
    cases e : a.shelf 0 0 qs with
    | none => rfl
    | some r => rw [e] at h; exact absurd (show (0 : Int) < 0 from h) (by decide)
section
variable {P : Program} {w : World} {K : PySem.W.Frag} {mg : Str → Option Value} {base : Heap}
def spRefusal (K : PySem.W.Frag) (CS : Addr) : Sp := fun vs H Q _ => ∃ (p pn pf g : Addr) (a : Abs) (qs : List Nat), vs = [.ref p, .ref g] ∧ StoreAt CS H p pn pf a ∧ 0 < a.needs.length ∧ SqL K H g (iv qs) ∧
  ∀ H' : Hp, Same H H' → Q (.int (refusal a qs)) H'
structure Refuses (P : Program) (w : World) (K : PySem.W.Frag) (mg : Str → Option Value) (base : Heap) (CS f : Addr) (fd : FuncData) : Prop where
  ok : FnOk P w K mg base CX0 2 f fd ["store", "ordered"] (spRefusal K CS)
  kp : PySem.W.keepIn K (.ref f) = true
  mg : mg "plan_refusal" = some (.ref f)
  bd : Binds K fd ["store", "ordered"] []
structure Costs (P : Program) (w : World) (K : PySem.W.Frag) (mg : Str → Option Value) (base : Heap) (f : Addr) (fd : FuncData) : Prop where
  ok : FnOk P w K mg base CX0 2 f fd ["needs", "ordered", "fees", "keeping"] (spCosts K)
  kp : PySem.W.keepIn K (.ref f) = true
  mg : mg "what_it_costs" = some (.ref f)
  bd : Binds K fd ["needs", "ordered", "fees", "keeping"] []
theorem scRef : FnScope ["store", "ordered"] ["store", "ordered"] (defScope sRefusal) := ⟨rfl, rfl, rfl, by decide +kernel, rfl, by decide +kernel, by decide +kernel⟩
theorem ok_refusal {f fl CB CS : Addr} {fd fdl : FuncData} (F : Fun K "plan_refusal" "plan_refusal" sRefusal f fd) (T : TxtS K mg CB CS) (L : Lies P w K mg base fl fdl) : FnOk P w K mg base CX0 2 f fd ["store", "ordered"] (spRefusal K CS) := by
  refine F.ok scRef (fun vs H Q E h => ?_) (fun cdv A outer s H vs Q E hr h => ?_)
  · obtain ⟨p, pn, pf, g, a, qs, rfl, _⟩ := h
    rfl
  · obtain ⟨p, pn, pf, g, a, qs, rfl, S, h0, hg, q⟩ := h
    obtain ⟨dx, hp⟩ := S.ins
    have hten := S.good.ten
    refine ⟨_, pss_cons (ps_if (PW.pt (pw_or (pt_cmpR op_ne (pe_callB call_len_seq rfl T.len PySem.boot_len (pa_cons (pv 1) pa_nil)) (pe_callB call_len_seq rfl T.len PySem.boot_len (pa_cons (pe_fld (pv 0) rfl) pa_nil)) (nomark _))
        (pw_or1 (pt_cmpR op_gt (pe_callB (cr_max rfl) rfl T.max boot_max (pa_cons (pv 1) pa_nil)) (pgI T.mOrd) (nomark _))))) (pss_one (ps_ret (pgI T.outOf))) pss_nil)
      (pss_cons (ps_if (pt_cmpR op_lt (pe_callB (cr_min rfl) rfl T.min boot_min (pa_cons (pe_call L.ok hr rfl L.mg L.kp L.bd .nil pass0 (pa_cons (pe_fld (pv 0) rfl) (pa_cons (pv 1) pa_nil))) pa_nil)) pe_int (nomark _)) (pss_one (ps_ret (pgI T.tooLittle))) pss_nil)
      (pss_one (ps_ret pe_int))), ?_⟩
    refine ⟨_, rfl, g, iv qs, rfl, .inl hg, _, rfl, p, CS, dx, sf pn pf a.keep, .ref pn, rfl, hp, T.clS, T.nN, rfl, pn, iv a.needs, rfl, .inl (SqL.of S.n), rfl, _, rfl, ?_⟩
    rw [iv_len, iv_len]
    by_cases hl : qs.length = a.needs.length
    · rw [hl, decide_eq_true rfl]
      refine ⟨_, rfl, g, _, rfl, (by rw [iv_int] at hg; exact hg), by rw [List.length_map]; omega, fun m hm1 hm2 => ⟨_, _, rfl, rfl, _, rfl, ite2 (fun h1 => ?_) (fun h1 => ?_)⟩⟩
      · have h1 : (100000 : Int) < m := of_decide_eq_true h1
        have e : refusal a qs = -22 := by
          refine if_pos ?_
          cases e : a.okP qs with
          | false => rfl
          | true =>
            obtain ⟨n, hn1, hn2⟩ := List.mem_map.mp hm1
            have := (okP_iff.mp e).2 n hn1
            omega
        rw [e] at q
        exact q H (Same.refl H)
      · have h1 : ¬ (100000 : Int) < m := fun z => h1 (decide_eq_true z)
        have eo : a.okP qs = true := okP_iff.mpr ⟨hl, fun x hx => by
          have := hm2 (x : Int) (List.mem_map.mpr ⟨x, hx, rfl⟩)
          omega⟩
        refine ⟨_, rfl, p, CS, dx, sf pn pf a.keep, .ref pn, rfl, hp, T.clS, T.nN, rfl, _, rfl, pn, g, a.needs, qs, rfl, SqL.of S.n, hg, hl.symm, hten, fun H1 r s1 hr0 hr' => ?_⟩
        refine ⟨r, _, rfl, SqL.of hr', by rw [lies_len _ _ _ hl.symm]; omega, fun m hm1 hm2 => ⟨_, _, rfl, rfl, _, rfl, ite2 (fun h2 => ?_) (fun h2 => ?_)⟩⟩
        · have h2 : m < (0 : Int) := of_decide_eq_true h2
          have e : refusal a qs = -12 := by
            refine (if_neg (by rw [eo]; decide)).trans ?_
            rw [shelf_none hl ⟨m, hm1, h2⟩]
          rw [e] at q
          exact q H1 s1
        · have h2 : ¬ m < (0 : Int) := fun z => h2 (decide_eq_true z)
          have e : refusal a qs = 0 := by
            refine (if_neg (by rw [eo]; decide)).trans ?_
            rw [shelf_some hl fun z hz => by have := hm2 z hz; omega]
          rw [e] at q
          exact q H1 s1
    · have hd : decide (V.int (qs.length : Int) = V.int (a.needs.length : Int)) = false := decide_eq_false fun z => hl (by have := V.int.inj z; omega)
      rw [hd]
      have e : refusal a qs = -22 := by
        refine if_pos ?_
        cases e : a.okP qs with
        | false => rfl
        | true => exact absurd (okP_iff.mp e).1 hl
      rw [e] at q
      exact q H (Same.refl H)
/-! ### cost, shelf -/
abbrev nCost : List Str := ["store", "given", "refusal", "spent"]
theorem scCost : FnScope nCost ["store", "given"] (defScope sCost) := ⟨rfl, rfl, rfl, by decide +kernel, rfl, by decide +kernel, by decide +kernel⟩
theorem ok_cost {f fo fr fc CB CS : Addr} {fd fdo fdr fdc : FuncData} (F : Fun K "cost" "cost" sCost f fd) (T : TxtS K mg CB CS) (O : LeastO P w K mg base fo fdo) (R : Refuses P w K mg base CS fr fdr) (C : Costs P w K mg base fc fdc) :
    FnOk P w K mg base CX0 5 f fd ["store", "given"] (spDo K CS (fun xs => .cost xs) (fun xs => xs.length ≤ 14) true) := by
  refine F.ok scCost (fun vs H Q E h => ?_) (fun cdv A outer s H vs Q E hr h => ?_)
  · obtain ⟨p, pn, pf, g, a, xs, rfl, _⟩ := h
    rfl
  · obtain ⟨p, pn, pf, g, a, qs, rfl, S, h0, hg, hx, q⟩ := h
    have h0 := h0 rfl
    obtain ⟨dx, hp⟩ := S.ins
    have hten := S.good.ten
    have hlen := S.good.len
    have q : Post CS H p pn pf (Su85.does a (.cost qs)) Q := q
    refine ⟨_, pss_cons (ps_set (i := 2) scCost.nd rfl (Or.inl rfl) (pe_call R.ok (hr.mono (by decide)) rfl R.mg R.kp R.bd .nil pass0 (pa_cons (pv 0) (pa_cons (pv 1) pa_nil))))
      (pss_cons (ps_if (pt_cmpR op_lt (pv 2) pe_int (nomark _)) (pss_one (ps_ret (pe_lst (pa_cons (pv 2) pa_nil)))) pss_nil)
      (pss_cons (ps_set (i := 3) scCost.nd rfl (Or.inl rfl) (pe_call C.ok (hr.mono (by decide)) rfl C.mg C.kp C.bd .nil pass0 (pa_cons (pe_fld (pv 0) rfl) (pa_cons (pv 1) (pa_cons (pe_fld (pv 0) rfl) (pa_cons (pe_fld (pv 0) rfl) pa_nil))))))
      (pss_one (ps_ret (pe_lst (pa_cons (pv 3) (pa_cons (pe_op op_sub (pv 3) (pe_call O.ok hr rfl O.mg O.kp O.bd .nil pass0 (pa_cons (pe_fld (pv 0) rfl) (pa_cons (pe_fld (pv 0) rfl) (pa_cons (pe_fld (pv 0) rfl) pa_nil))))) pa_nil))))))), ?_⟩
    refine ⟨_, rfl, _, rfl, p, pn, pf, g, a, qs, rfl, S, h0, hg, fun H1 s1 => ?_⟩
    refine ⟨_, rfl, _, _, rfl, rfl, _, rfl, ite2 (fun h1 => ?_) (fun h1 => ?_)⟩
    · have h1 : refusal a qs < 0 := of_decide_eq_true h1
      rw [cost_refused h1] at q
      exact ⟨_, rfl, (by show 1 ≤ sizeLine; decide), fun r hr0 => q.read S rfl (Same.upd s1 (s1.free hr0)) upd_same (s1.free hr0)⟩
    have h1 : ¬ refusal a qs < 0 := fun z => h1 (decide_eq_true z)
    have FT := refusal_fits h1
    have hl := FT.len
    have S1 := S.same s1
    refine ⟨_, rfl, p, CS, dx, sf pn pf a.keep, .ref pn, rfl, s1 _ _ hp, T.clS, T.nN, rfl, _, rfl, _, rfl, p, CS, dx, sf pn pf a.keep, .ref pf, rfl, s1 _ _ hp, T.clS, T.nF, rfl, _, rfl, p, CS, dx, sf pn pf a.keep, .int a.keep, rfl, s1 _ _ hp, T.clS, T.nK, rfl, ?_⟩
    refine ⟨pn, g, pf, a.needs, qs, a.fees, a.keep, rfl, SqL.of S1.n, s1.seq hg, SqL.of S1.f, hl.symm, by omega, by omega, S.good.keep, fun H3 s3 => ?_⟩
    rw [cost_int hlen hl FT.nn]
    have hcost := FT.cost
    have hge := cost_ge a hcost
    rw [hl] at hge
    rw [does_cost FT _ hcost] at q
    generalize (a.feesOf 0 qs + a.keep * ((lies 0 a.needs qs).map Int.toNat).sum) = c at hge q ⊢
    have s13 := s1.trans s3
    refine ⟨_, rfl, _, rfl, _, rfl, p, CS, dx, sf pn pf a.keep, .ref pn, rfl, s13 _ _ hp, T.clS, T.nN, rfl, _, rfl, p, CS, dx, sf pn pf a.keep, .ref pf, rfl, s13 _ _ hp, T.clS, T.nF, rfl, _, rfl, p, CS, dx, sf pn pf a.keep, .int a.keep, rfl, s13 _ _ hp, T.clS, T.nK, rfl, ?_⟩
    refine ⟨pn, pf, a, rfl, (S.same s13).days, fun H4 s4 => ⟨_, _, rfl, rfl, (by show 2 ≤ sizeLine; decide), fun z hz => ?_⟩⟩
    have s14 := s13.trans s4
    refine q.read S rfl (Same.upd s14 (s14.free hz)) ?_ (s14.free hz)
    rw [upd_same]
    have e5 : (c : Int) - (a.least a.needs.length : Int) = ((c - a.least a.days : Nat) : Int) := by show _ = ((c - a.least a.needs.length : Nat) : Int); omega
    show some (HO.lst [V.int c, V.int ((c : Int) - (a.least a.needs.length : Int))]) = _
    rw [e5]; rfl
abbrev nShelf : List Str := ["store", "given", "refusal", "lies"]
theorem scShelf : FnScope nShelf ["store", "given"] (defScope sShelf) := ⟨rfl, rfl, rfl, by decide +kernel, rfl, by decide +kernel, by decide +kernel⟩
theorem ok_shelf {f fr fl CB CS : Addr} {fd fdr fdl : FuncData} (F : Fun K "shelf" "shelf" sShelf f fd) (T : TxtS K mg CB CS) (R : Refuses P w K mg base CS fr fdr) (L : Lies P w K mg base fl fdl) :
    FnOk P w K mg base CX0 5 f fd ["store", "given"] (spDo K CS (fun xs => .shelf xs) (fun xs => xs.length ≤ 14) true) := by
  refine F.ok scShelf (fun vs H Q E h => ?_) (fun cdv A outer s H vs Q E hr h => ?_)
  · obtain ⟨p, pn, pf, g, a, xs, rfl, _⟩ := h
    rfl
  · obtain ⟨p, pn, pf, g, a, qs, rfl, S, h0, hg, hx, q⟩ := h
    have h0 := h0 rfl
    obtain ⟨dx, hp⟩ := S.ins
    have hten := S.good.ten
    have q : Post CS H p pn pf (Su85.does a (.shelf qs)) Q := q
    refine ⟨_, pss_cons (ps_set (i := 2) scShelf.nd rfl (Or.inl rfl) (pe_call R.ok (hr.mono (by decide)) rfl R.mg R.kp R.bd .nil pass0 (pa_cons (pv 0) (pa_cons (pv 1) pa_nil))))
      (pss_cons (ps_if (pt_cmpR op_lt (pv 2) pe_int (nomark _)) (pss_one (ps_ret (pe_lst (pa_cons (pv 2) pa_nil)))) pss_nil)
      (pss_cons (ps_set (i := 3) scShelf.nd rfl (Or.inl rfl) (pe_call L.ok (hr.mono (by decide)) rfl L.mg L.kp L.bd .nil pass0 (pa_cons (pe_fld (pv 0) rfl) (pa_cons (pv 1) pa_nil))))
      (pss_one (ps_ret (pe_op op_cat (pe_lst (pa_cons (pe_callB (cr_sum rfl) rfl T.sum boot_sum (pa_cons (pv 3) pa_nil)) pa_nil)) (pv 3)))))), ?_⟩
    refine ⟨_, rfl, _, rfl, p, pn, pf, g, a, qs, rfl, S, h0, hg, fun H1 s1 => ?_⟩
    refine ⟨_, rfl, _, _, rfl, rfl, _, rfl, ite2 (fun h1 => ?_) (fun h1 => ?_)⟩
    · have h1 : refusal a qs < 0 := of_decide_eq_true h1
      rw [shelf_refused h1] at q
      exact ⟨_, rfl, (by show 1 ≤ sizeLine; decide), fun r hr0 => q.read S rfl (Same.upd s1 (s1.free hr0)) upd_same (s1.free hr0)⟩
    have h1 : ¬ refusal a qs < 0 := fun z => h1 (decide_eq_true z)
    have FT := refusal_fits h1
    have hl := FT.len
    rw [does_shelf FT] at q
    refine ⟨_, rfl, p, CS, dx, sf pn pf a.keep, .ref pn, rfl, s1 _ _ hp, T.clS, T.nN, rfl, _, rfl, pn, g, a.needs, qs, rfl, SqL.of (s1 _ _ S.n), s1.seq hg, hl.symm, hten, fun H2 r s2 hr0 hr' => ?_⟩
    have s12 := s1.trans s2
    refine ⟨_, rfl, r, _, rfl, SqL.of hr', (by show 1 ≤ sizeLine; decide), fun l hl0 => ⟨_, rfl, l, r, _, _, rfl, rfl, upd_same, by rw [upd_ne (ne_of_none hr' hl0)]; exact hr', ?_, fun z hz => ?_⟩⟩
    · rw [List.length_map, lies_len _ _ _ hl.symm]
      exact Nat.le_of_lt (small10 (by show 1 + a.needs.length ≤ 1000; omega))
    · have s3 := Same.upd (o := .lst [.int (lies 0 a.needs qs).sum]) s12 (s12.free hl0)
      refine q.read S rfl (Same.upd s3 (s3.free hz)) ?_ (s3.free hz)
      rw [upd_same]
      show some (HO.lst ([V.int (lies 0 a.needs qs).sum] ++ _)) = some (HO.lst (V.int ((((lies 0 a.needs qs).map Int.toNat).sum : Nat) : Int) :: iv ((lies 0 a.needs qs).map Int.toNat)))
      rw [sum_toNat FT.nn, iv_toNat FT.nn]; rfl
end
end OK
end
section
set_option Elab.async false
set_option linter.all false
set_option maxRecDepth 100000
set_option maxHeartbeats 4000000
namespace OK
open PySem PySem.Spec PyProof.Rows L2
open Su85 (Abs)
section
variable {P : Program} {w : World} {K : PySem.W.Frag} {mg : Str → Option Value} {base : Heap}
theorem is_len0 {xs : List Nat} (h : xs.length = 0) : xs = [] := List.length_eq_zero_iff.mp h
/-! ### sums, state, span -/
theorem scSums : FnScope ["store", "given"] ["store", "given"] (defScope sSums) := ⟨rfl, rfl, rfl, by decide +kernel, rfl, by decide +kernel, by decide +kernel⟩
theorem ok_sums {f CB CS : Addr} {fd : FuncData} (F : Fun K "sums" "sums" sSums f fd) (T : TxtS K mg CB CS) :
    FnOk P w K mg base CX0 1 f fd ["store", "given"] (spDo K CS (fun _ => .sums) (fun xs => xs.length = 0) true) := by
  refine F.ok scSums (fun vs H Q E h => ?_) (fun cdv A outer s H vs Q E hr h => ?_)
  · obtain ⟨p, pn, pf, g, a, xs, rfl, _⟩ := h
    rfl
  · obtain ⟨p, pn, pf, g, a, xs, rfl, S, _, hg, hx, q⟩ := h
    obtain ⟨dx, hp⟩ := S.ins
    have q : Post CS H p pn pf (a, Su85.num 0 [a.needs.sum, a.fees.sum, a.keep]) Q := q
    refine ⟨_, pss_one (ps_ret (pe_lst (pa_cons pe_int (pa_cons (pe_callB (cr_sum rfl) rfl T.sum boot_sum (pa_cons (pe_fld (pv 0) rfl) pa_nil)) (pa_cons (pe_callB (cr_sum rfl) rfl T.sum boot_sum (pa_cons (pe_fld (pv 0) rfl) pa_nil)) (pa_cons (pe_fld (pv 0) rfl) pa_nil)))))), ?_⟩
    have hN : SqL K H pn ((a.needs.map fun (n : Nat) => (n : Int)).map V.int) := by rw [← iv_int]; exact SqL.of S.n
    have hF : SqL K H pf ((a.fees.map fun (n : Nat) => (n : Int)).map V.int) := by rw [← iv_int]; exact SqL.of S.f
    refine ⟨_, rfl, p, CS, dx, sf pn pf a.keep, .ref pn, rfl, hp, T.clS, T.nN, rfl, pn, _, rfl, hN, _, rfl, p, CS, dx, sf pn pf a.keep, .ref pf, rfl, hp, T.clS, T.nF, rfl, pf, _, rfl, hF, _, rfl, p, CS, dx, sf pn pf a.keep, .int a.keep, rfl, hp, T.clS, T.nK, rfl, (by show 4 ≤ sizeLine; decide), fun r hr0 => ?_⟩
    refine q.read S rfl (Same.upd (Same.refl H) hr0) ?_ hr0
    rw [upd_same, sum_int, sum_int]; rfl
theorem scState : FnScope ["store", "given"] ["store", "given"] (defScope sState) := ⟨rfl, rfl, rfl, by decide +kernel, rfl, by decide +kernel, by decide +kernel⟩
theorem ok_state {f CB CS : Addr} {fd : FuncData} (F : Fun K "state" "state" sState f fd) (T : TxtS K mg CB CS) :
    FnOk P w K mg base CX0 1 f fd ["store", "given"] (spDo K CS (fun _ => .state) (fun xs => xs.length = 0) true) := by
  refine F.ok scState (fun vs H Q E h => ?_) (fun cdv A outer s H vs Q E hr h => ?_)
  · obtain ⟨p, pn, pf, g, a, xs, rfl, _⟩ := h
    rfl
  · obtain ⟨p, pn, pf, g, a, xs, rfl, S, _, hg, hx, q⟩ := h
    obtain ⟨dx, hp⟩ := S.ins
    have hten := S.good.ten
    have hlen := S.good.len
    have q : Post CS H p pn pf (a, Su85.num a.days (a.needs ++ a.fees)) Q := q
    refine ⟨_, pss_one (ps_ret (pe_op op_cat (pe_op op_cat (pe_lst (pa_cons (pe_callB call_len_seq rfl T.len PySem.boot_len (pa_cons (pe_fld (pv 0) rfl) pa_nil)) pa_nil)) (pe_fld (pv 0) rfl)) (pe_fld (pv 0) rfl))), ?_⟩
    refine ⟨_, rfl, p, CS, dx, sf pn pf a.keep, .ref pn, rfl, hp, T.clS, T.nN, rfl, pn, iv a.needs, rfl, .inl (SqL.of S.n), (by show 1 ≤ sizeLine; decide), fun l hl => ?_⟩
    rw [iv_len]
    have s1 : Same H (upd H l (.lst [.int (a.needs.length : Nat)])) := Same.upd (Same.refl _) hl
    have hl1 : upd H l (.lst [.int (a.needs.length : Nat)]) l = some (.lst [.int (a.needs.length : Nat)]) := upd_same
    generalize upd H l (.lst [.int (a.needs.length : Nat)]) = H1 at s1 hl1 ⊢
    refine ⟨_, rfl, p, CS, dx, sf pn pf a.keep, .ref pn, rfl, s1 _ _ hp, T.clS, T.nN, rfl, l, pn, _, iv a.needs, rfl, rfl, hl1, s1 _ _ S.n, ?_, fun c hc => ?_⟩
    · rw [iv_len]
      exact Nat.le_of_lt (small10 (by show 1 + a.needs.length ≤ 1000; omega))
    have s2 : Same H (upd H1 c (.lst ([.int (a.needs.length : Nat)] ++ iv a.needs))) := Same.upd s1 (s1.free hc)
    have hc2 : upd H1 c (.lst ([.int (a.needs.length : Nat)] ++ iv a.needs)) c = some (.lst ([.int (a.needs.length : Nat)] ++ iv a.needs)) := upd_same
    generalize upd H1 c (.lst ([.int (a.needs.length : Nat)] ++ iv a.needs)) = H2 at s2 hc2 ⊢
    refine ⟨_, rfl, p, CS, dx, sf pn pf a.keep, .ref pf, rfl, s2 _ _ hp, T.clS, T.nF, rfl, c, pf, _, iv a.fees, rfl, rfl, hc2, s2 _ _ S.f, ?_, fun z hz => ?_⟩
    · rw [List.length_append, iv_len, iv_len]
      exact Nat.le_of_lt (small10 (by show 1 + a.needs.length + a.fees.length ≤ 1000; omega))
    refine q.read S rfl (Same.upd s2 (s2.free hz)) ?_ (s2.free hz)
    rw [upd_same]
    show some (HO.lst (V.int (a.needs.length : Int) :: (iv a.needs ++ iv a.fees))) = some (HO.lst (V.int (a.needs.length : Int) :: iv (a.needs ++ a.fees)))
    unfold iv
    rw [List.map_append]
abbrev nSpan : List Str := ["store", "given", "start", "end"]
theorem scSpan : FnScope nSpan ["store", "given"] (defScope sSpan) := ⟨rfl, rfl, rfl, by decide +kernel, rfl, by decide +kernel, by decide +kernel⟩
theorem ok_span {f CB CS : Addr} {fd : FuncData} (F : Fun K "span" "span" sSpan f fd) (T : TxtS K mg CB CS) :
    FnOk P w K mg base CX0 1 f fd ["store", "given"] (spDo K CS (fun xs => .span (xs.getD 0 0) (xs.getD 1 0)) (fun xs => xs.length = 2) true) := by
  refine F.ok scSpan (fun vs H Q E h => ?_) (fun cdv A outer s H vs Q E hr h => ?_)
  · obtain ⟨p, pn, pf, g, a, xs, rfl, _⟩ := h
    rfl
  · obtain ⟨p, pn, pf, g, a, xs, rfl, S, _, hg, hx, q⟩ := h
    obtain ⟨i, j, rfl⟩ := is_len hx
    obtain ⟨dx, hp⟩ := S.ins
    have q : Post CS H p pn pf (Su85.does a (.span i j)) Q := q
    refine ⟨_, pss_cons (ps_set (i := 2) scSpan.nd rfl (Or.inl rfl) (pe_ix ix_list (pv 1) pe_int (fun _ _ => rfl)))
      (pss_cons (ps_set (i := 3) scSpan.nd rfl (Or.inl rfl) (pe_ix ix_list (pv 1) pe_int (fun _ _ => rfl)))
      (pss_cons (ps_if (PW.pt (pw_or (pt_cmpR op_gt (pv 3) (pe_callB call_len_seq rfl T.len PySem.boot_len (pa_cons (pe_fld (pv 0) rfl) pa_nil)) (nomark _)) (pw_or1 (pt_cmpR op_lt (pv 3) (pv 2) (nomark _))))) (pss_one (ps_ret (pe_lst (pa_cons (pgI T.outOf) pa_nil)))) pss_nil)
      (pss_one (ps_ret (pe_lst (pa_cons (pe_callB (cr_sum rfl) rfl T.sum boot_sum (pa_cons (pe_slice sl_list (pe_fld (pv 0) rfl) (po_some (pv 2)) (po_some (pv 3))) pa_nil)) pa_nil)))))), ?_⟩
    refine ⟨_, rfl, g, _, _, _, rfl, rfl, hg, at_of (j := 0) rfl rfl, _, rfl, g, _, _, _, rfl, rfl, hg, at_of (j := 1) rfl rfl, ?_⟩
    have refused : (a.needs.length < j ∨ j < i) → ∀ D : Ends, D.rt = Q → tRet (tLst (tCons (tC (V.int (-22))) tNil)) D [some (.ref p), some (.ref g), some (.int i), some (.int j)] H := fun hc D hD => by
      refine ⟨(by show 1 ≤ sizeLine; decide), fun r hr0 => ?_⟩
      rw [hD]
      have e : Su85.does a (.span i j) = (a, Su85.no (-22)) := if_pos hc
      rw [e] at q
      exact q.read S rfl (Same.upd (Same.refl H) hr0) upd_same hr0
    refine ⟨_, rfl, _, rfl, p, CS, dx, sf pn pf a.keep, .ref pn, rfl, hp, T.clS, T.nN, rfl, pn, iv a.needs, rfl, .inl (SqL.of S.n), _, _, rfl, rfl, _, rfl, ite2 (fun h1 => ?_) (fun h1 => ?_)⟩
    · have h1 : ((iv a.needs).length : Int) < j := of_decide_eq_true h1
      rw [iv_len] at h1
      exact refused (.inl (by omega)) _ rfl
    have h1 : ¬ ((iv a.needs).length : Int) < j := fun z => h1 (decide_eq_true z)
    rw [iv_len] at h1
    refine ⟨_, rfl, _, rfl, _, _, rfl, rfl, _, rfl, ite2 (fun h2 => refused (.inr (by have := of_decide_eq_true h2; omega)) _ rfl) (fun h2 => ?_)⟩
    have h2 : ¬ (j : Int) < i := fun z => h2 (decide_eq_true z)
    have e : Su85.does a (.span i j) = (a, Su85.num (a.span i j) []) := if_neg (by show ¬ (a.needs.length < j ∨ j < i); omega)
    rw [e] at q
    refine ⟨_, rfl, p, CS, dx, sf pn pf a.keep, .ref pn, rfl, hp, T.clS, T.nN, rfl, _, rfl, _, rfl, _, rfl, _, rfl, pn, _, rfl, SqL.of S.n, fun c hc => ?_⟩
    rw [cut_iv a.needs (i := i) (j := j) (by omega) (by omega)]
    refine ⟨c, _, rfl, SqL.of (by rw [upd_same, iv_int]), ?_⟩
    rw [sum_int, span_drop a (i := i) (j := j) (by omega)]
    have s1 : Same H (upd H c (.lst (iv ((a.needs.drop i).take (j - i))))) := Same.upd (Same.refl _) hc
    exact ⟨(by show 1 ≤ sizeLine; decide), fun r hr0 => q.read S rfl (Same.upd s1 (s1.free hr0)) upd_same (s1.free hr0)⟩
/-! ### rest -/
theorem cut_from (l : List Nat) {d : Nat} (h : d ≤ l.length) : cutV (iv l) (some (d : Int)) none = iv (l.drop d) := by
  unfold cutV
  rw [HT.sIx_nat, iv_len, Nat.min_eq_left h, HT.sIx_none, List.take_of_length_le (by rw [List.length_drop, iv_len]; exact Nat.le_refl _)]
  unfold iv; rw [List.map_drop]
abbrev nRest : List Str := ["store", "given", "days", "behind"]
theorem scRest : FnScope nRest ["store", "given"] (defScope sRest) := ⟨rfl, rfl, rfl, by decide +kernel, rfl, by decide +kernel, by decide +kernel⟩
theorem ok_rest {f fo fl CB CS : Addr} {fd fdo fdl : FuncData} (F : Fun K "rest" "rest" sRest f fd) (T : TxtS K mg CB CS) (O : BestOf P w K mg base CB CS fo fdo) (L : LeastO P w K mg base fl fdl) :
    FnOk P w K mg base CX0 5 f fd ["store", "given"] (spDo K CS (fun xs => .rest (xs.getD 0 0)) (fun xs => xs.length = 1) true) := by
  refine F.ok scRest (fun vs H Q E h => ?_) (fun cdv A outer s H vs Q E hr h => ?_)
  · obtain ⟨p, pn, pf, g, a, xs, rfl, _⟩ := h
    rfl
  · obtain ⟨p, pn, pf, g, a, xs, rfl, S, _, hg, hx, q⟩ := h
    obtain ⟨t, rfl⟩ := is_len1 hx
    obtain ⟨dx, hp⟩ := S.ins
    have hten := S.good.ten
    have hlen := S.good.len
    have q : Post CS H p pn pf (Su85.does a (.rest t)) Q := q
    refine ⟨_, pss_cons (ps_set (i := 2) scRest.nd rfl (Or.inl rfl) (pe_ix ix_list (pv 1) pe_int (fun _ _ => rfl)))
      (pss_cons (ps_if (pt_cmpR op_gt (pv 2) (pe_callB call_len_seq rfl T.len PySem.boot_len (pa_cons (pe_fld (pv 0) rfl) pa_nil)) (nomark _)) (pss_one (ps_ret (pe_lst (pa_cons (pgI T.outOf) pa_nil)))) pss_nil)
      (pss_cons (ps_set (i := 3) scRest.nd rfl (Or.inl rfl) (pe_call L.ok hr rfl L.mg L.kp L.bd .nil pass0 (pa_cons (pe_slice sl_list (pe_fld (pv 0) rfl) (po_some (pv 2)) po_none) (pa_cons (pe_slice sl_list (pe_fld (pv 0) rfl) (po_some (pv 2)) po_none) (pa_cons (pe_fld (pv 0) rfl) pa_nil)))))
      (pss_one (ps_ret (pe_lst (pa_cons (pv 3) (pa_cons (pe_ix ix_list (pe_fld (pe_call O.ok hr rfl O.mg O.kp O.bd .nil pass0 (pa_cons (pv 0) pa_nil)) rfl) (pv 2) (fun _ _ => rfl)) pa_nil))))))), ?_⟩
    refine ⟨_, rfl, g, _, _, _, rfl, rfl, hg, at_of (j := 0) rfl rfl, _, rfl, _, rfl, p, CS, dx, sf pn pf a.keep, .ref pn, rfl, hp, T.clS, T.nN, rfl, pn, iv a.needs, rfl, .inl (SqL.of S.n), _, _, rfl, rfl, _, rfl, ite2 (fun h1 => ?_) (fun h1 => ?_)⟩
    · have h1 : ((iv a.needs).length : Int) < t := of_decide_eq_true h1
      rw [iv_len] at h1
      have e : Su85.does a (.rest t) = (a, Su85.no (-22)) := if_pos (by show a.needs.length < t; omega)
      rw [e] at q
      exact ⟨(by show 1 ≤ sizeLine; decide), fun r hr0 => q.read S rfl (Same.upd (Same.refl H) hr0) upd_same hr0⟩
    have h1 : ¬ ((iv a.needs).length : Int) < t := fun z => h1 (decide_eq_true z)
    rw [iv_len] at h1
    have ht : t ≤ a.needs.length := by omega
    have e : Su85.does a (.rest t) = (a, Su85.num ((a.from_ t).least (a.days - t)) [a.least t]) := if_neg (by show ¬ a.needs.length < t; omega)
    rw [e] at q
    refine ⟨_, rfl, p, CS, dx, sf pn pf a.keep, .ref pn, rfl, hp, T.clS, T.nN, rfl, _, rfl, _, rfl, pn, _, rfl, SqL.of S.n, fun c1 hc1 => ?_⟩
    rw [cut_from a.needs ht]
    have s1 : Same H (upd H c1 (.lst (iv (a.needs.drop t)))) := Same.upd (Same.refl _) hc1
    have hh1 : upd H c1 (.lst (iv (a.needs.drop t))) c1 = some (.lst (iv (a.needs.drop t))) := upd_same
    generalize upd H c1 (.lst (iv (a.needs.drop t))) = H1 at s1 hh1 ⊢
    refine ⟨_, rfl, p, CS, dx, sf pn pf a.keep, .ref pf, rfl, s1 _ _ hp, T.clS, T.nF, rfl, _, rfl, _, rfl, pf, _, rfl, SqL.of (s1 _ _ S.f), fun c2 hc2 => ?_⟩
    rw [cut_from a.fees (by omega)]
    have s2 : Same H1 (upd H1 c2 (.lst (iv (a.fees.drop t)))) := Same.upd (Same.refl _) hc2
    have hh2 : upd H1 c2 (.lst (iv (a.fees.drop t))) c2 = some (.lst (iv (a.fees.drop t))) := upd_same
    generalize upd H1 c2 (.lst (iv (a.fees.drop t))) = H2 at s2 hh2 ⊢
    have s12 := s1.trans s2
    refine ⟨_, rfl, p, CS, dx, sf pn pf a.keep, .int a.keep, rfl, s12 _ _ hp, T.clS, T.nK, rfl, ?_⟩
    refine ⟨c1, c2, a.from_ t, rfl, ⟨SqL.of (s2 _ _ hh1), SqL.of hh2, ?_, ?_, S.good.keep⟩, fun H3 s3 => ?_⟩
    · show (a.fees.drop t).length = (a.needs.drop t).length
      rw [List.length_drop, List.length_drop]; omega
    · show (a.needs.drop t).length ≤ 10
      rw [List.length_drop]; omega
    have s13 := s12.trans s3
    refine ⟨_, rfl, _, rfl, p, pn, pf, a, rfl, S.same s13, fun H4 b pL pD s4 B => ?_⟩
    obtain ⟨db, hb⟩ := B.ins
    have s14 := s13.trans s4
    refine ⟨b, CB, db, bf pL pD, .ref pL, rfl, hb, T.clB, T.nL, rfl, _, rfl, pL, _, _, _, rfl, rfl, SqL.of B.L, at_of (j := t) rfl (iv_get (leasts_get a ht)), (by show 2 ≤ sizeLine; decide), fun r hr0 => ?_⟩
    refine q.read S rfl (Same.upd s14 (s14.free hr0)) ?_ (s14.free hr0)
    rw [upd_same]
    show some (HO.lst [V.int ((a.from_ t).least (a.needs.drop t).length : Nat), V.int (a.least t : Nat)]) = _
    rw [List.length_drop]; rfl
/-! ### each, once -/
theorem scEach : FnScope ["store", "given"] ["store", "given"] (defScope sEach) := ⟨rfl, rfl, rfl, by decide +kernel, rfl, by decide +kernel, by decide +kernel⟩
theorem ok_each {f fc CB CS : Addr} {fd fdc : FuncData} (F : Fun K "each" "each" sEach f fd) (T : TxtS K mg CB CS) (C : Costs P w K mg base fc fdc) :
    FnOk P w K mg base CX0 3 f fd ["store", "given"] (spDo K CS (fun _ => .each) (fun xs => xs.length = 0) true) := by
  refine F.ok scEach (fun vs H Q E h => ?_) (fun cdv A outer s H vs Q E hr h => ?_)
  · obtain ⟨p, pn, pf, g, a, xs, rfl, _⟩ := h
    rfl
  · obtain ⟨p, pn, pf, g, a, xs, rfl, S, _, hg, hx, q⟩ := h
    obtain ⟨dx, hp⟩ := S.ins
    have hten := S.good.ten
    have hlen := S.good.len
    have nn := nn_of (a := a) (qs := a.needs) rfl (shelf_each a a.needs 0 fun i hi => by rw [Nat.zero_add]; rfl)
    have hcost := cost_is (a := a) (qs := a.needs) rfl nn
    have ec := cost_int (a := a) (qs := a.needs) hlen rfl nn
    generalize (a.feesOf 0 a.needs + a.keep * ((lies 0 a.needs a.needs).map Int.toNat).sum) = c at hcost ec
    have e : Su85.does a .each = (a, Su85.num c []) := by
      show (match a.cost a.needs with | none => _ | some c => _) = _
      rw [hcost]
    have q : Post CS H p pn pf (Su85.does a .each) Q := q
    rw [e] at q
    refine ⟨_, pss_one (ps_ret (pe_lst (pa_cons (pe_call C.ok hr rfl C.mg C.kp C.bd .nil pass0 (pa_cons (pe_fld (pv 0) rfl) (pa_cons (pe_fld (pv 0) rfl) (pa_cons (pe_fld (pv 0) rfl) (pa_cons (pe_fld (pv 0) rfl) pa_nil))))) pa_nil))), ?_⟩
    refine ⟨_, rfl, p, CS, dx, sf pn pf a.keep, .ref pn, rfl, hp, T.clS, T.nN, rfl, _, rfl, p, CS, dx, sf pn pf a.keep, .ref pn, rfl, hp, T.clS, T.nN, rfl, _, rfl, p, CS, dx, sf pn pf a.keep, .ref pf, rfl, hp, T.clS, T.nF, rfl, _, rfl, p, CS, dx, sf pn pf a.keep, .int a.keep, rfl, hp, T.clS, T.nK, rfl, ?_⟩
    refine ⟨pn, pn, pf, a.needs, a.needs, a.fees, a.keep, rfl, SqL.of S.n, SqL.of S.n, SqL.of S.f, rfl, hlen, by omega, S.good.keep, fun H1 s1 => ?_⟩
    rw [ec]
    exact ⟨(by show 1 ≤ sizeLine; decide), fun r hr0 => q.read S rfl (Same.upd s1 (s1.free hr0)) upd_same (s1.free hr0)⟩
theorem once_list (a : Abs) (h : 0 < a.needs.length) : (List.replicate a.needs.length 0).set 0 a.needs.sum = oncePlan a := by
  obtain ⟨n, hn⟩ : ∃ n, a.needs.length = n + 1 := ⟨a.needs.length - 1, by omega⟩
  have e := span_drop a (i := 0) (j := a.needs.length) (Nat.le_refl _)
  rw [List.drop_zero, Nat.sub_zero, List.take_length] at e
  rw [once_plan a hn, hn, List.replicate_succ, List.set_cons_zero, e, hn]
theorem shelf_once (a : Abs) (h : 0 < a.needs.length) : ∃ r, a.shelf 0 0 (oncePlan a) = some r := by
  obtain ⟨n, hn⟩ : ∃ n, a.needs.length = n + 1 := ⟨a.needs.length - 1, by omega⟩
  rw [once_plan a hn]
  have e := span_step a (show 0 < n + 1 by omega)
  show ∃ r, (if 0 + a.span 0 (n + 1) < a.need 0 then none else (a.shelf (0 + 1) (0 + a.span 0 (n + 1) - a.need 0) (List.replicate n 0)).map fun r => (0 + a.span 0 (n + 1) - a.need 0) :: r) = some r
  rw [if_neg (by omega), shelf_zeros a n (0 + 1) _ (by rw [show 0 + 1 + n = n + 1 by omega]; omega)]
  exact ⟨_, rfl⟩
theorem once_len (a : Abs) : (oncePlan a).length = a.needs.length := by
  unfold oncePlan
  rw [List.length_map, List.length_range]; rfl
abbrev nOnce : List Str := ["store", "given", "ordered"]
theorem scOnce : FnScope nOnce ["store", "given"] (defScope sOnce) := ⟨rfl, rfl, rfl, by decide +kernel, rfl, by decide +kernel, by decide +kernel⟩
theorem ok_once {f fc CB CS : Addr} {fd fdc : FuncData} (F : Fun K "once" "once" sOnce f fd) (T : TxtS K mg CB CS) (C : Costs P w K mg base fc fdc) :
    FnOk P w K mg base CX0 3 f fd ["store", "given"] (spDo K CS (fun _ => .once) (fun xs => xs.length = 0) true) := by
  refine F.ok scOnce (fun vs H Q E h => ?_) (fun cdv A outer s H vs Q E hr h => ?_)
  · obtain ⟨p, pn, pf, g, a, xs, rfl, _⟩ := h
    rfl
  · obtain ⟨p, pn, pf, g, a, xs, rfl, S, h0, hg, hx, q⟩ := h
    have h0 := h0 rfl
    obtain ⟨dx, hp⟩ := S.ins
    have hten := S.good.ten
    have hlen := S.good.len
    obtain ⟨r0, hsh⟩ := shelf_once a h0
    have nn := nn_of (once_len a) hsh
    have hcost := cost_is (once_len a) nn
    have ec := cost_int hlen (once_len a) nn
    generalize (a.feesOf 0 (oncePlan a) + a.keep * ((lies 0 a.needs (oncePlan a)).map Int.toNat).sum) = c at hcost ec
    have e : Su85.does a .once = (a, Su85.num c []) := by
      show (match a.cost (oncePlan a) with | none => _ | some c => _) = _
      rw [hcost]
    have q : Post CS H p pn pf (Su85.does a .once) Q := q
    rw [e] at q
    refine ⟨_, pss_cons (ps_set (i := 2) scOnce.nd rfl (Or.inl rfl) (pe_op op_rep (pe_lst (pa_cons pe_int pa_nil)) (pe_callB call_len_seq rfl T.len PySem.boot_len (pa_cons (pe_fld (pv 0) rfl) pa_nil))))
      (pss_cons (ps_asg (pe_callB (cr_sum rfl) rfl T.sum boot_sum (pa_cons (pe_fld (pv 0) rfl) pa_nil)) (pg_sub (pv 2) pe_int set_list))
      (pss_one (ps_ret (pe_lst (pa_cons (pe_call C.ok hr rfl C.mg C.kp C.bd .nil pass0 (pa_cons (pe_fld (pv 0) rfl) (pa_cons (pv 2) (pa_cons (pe_fld (pv 0) rfl) (pa_cons (pe_fld (pv 0) rfl) pa_nil))))) pa_nil))))), ?_⟩
    refine ⟨(by show 1 ≤ sizeLine; decide), fun l0 hl0 => ?_⟩
    have s1 : Same H (upd H l0 (.lst [.int 0])) := Same.upd (Same.refl _) hl0
    have hh1 : upd H l0 (.lst [.int 0]) l0 = some (.lst [.int 0]) := upd_same
    generalize upd H l0 (.lst [.int 0]) = H1 at s1 hh1 ⊢
    refine ⟨_, rfl, p, CS, dx, sf pn pf a.keep, .ref pn, rfl, s1 _ _ hp, T.clS, T.nN, rfl, pn, iv a.needs, rfl, .inl (SqL.of (s1 _ _ S.n)), ?_⟩
    rw [iv_len]
    refine ⟨l0, _, _, rfl, rfl, hh1, by omega, by omega, Nat.le_of_lt (small10 (by show 1 * (a.needs.length : Int).toNat ≤ 1000; omega)), fun o ho => ?_⟩
    rw [Int.toNat_natCast, rep_zero]
    have s2 : Same H1 (upd H1 o (.lst (iv (List.replicate a.needs.length 0)))) := Same.upd (Same.refl _) ho
    have hh2 : upd H1 o (.lst (iv (List.replicate a.needs.length 0))) o = some (.lst (iv (List.replicate a.needs.length 0))) := upd_same
    have ho0 : H o = none := s1.free ho
    generalize upd H1 o (.lst (iv (List.replicate a.needs.length 0))) = H2 at s2 hh2 ⊢
    have s12 := s1.trans s2
    have hN : SqL K H2 pn ((a.needs.map fun (n : Nat) => (n : Int)).map V.int) := by rw [← iv_int]; exact SqL.of (s12 _ _ S.n)
    refine ⟨_, rfl, p, CS, dx, sf pn pf a.keep, .ref pn, rfl, s12 _ _ hp, T.clS, T.nN, rfl, pn, _, rfl, hN, _, rfl, o, iv (List.replicate a.needs.length 0), _, 0, rfl, rfl, hh2, ixN_nat (by rw [iv_len, List.length_replicate]; exact h0), ?_⟩
    rw [sum_int, set_iv, once_list a h0]
    have s3 : Same H (upd H2 o (.lst (iv (oncePlan a)))) := Same.upd s12 ho0
    have hh3 : upd H2 o (.lst (iv (oncePlan a))) o = some (.lst (iv (oncePlan a))) := upd_same
    generalize upd H2 o (.lst (iv (oncePlan a))) = H3 at s3 hh3 ⊢
    refine ⟨_, rfl, p, CS, dx, sf pn pf a.keep, .ref pn, rfl, s3 _ _ hp, T.clS, T.nN, rfl, _, rfl, _, rfl, p, CS, dx, sf pn pf a.keep, .ref pf, rfl, s3 _ _ hp, T.clS, T.nF, rfl, _, rfl, p, CS, dx, sf pn pf a.keep, .int a.keep, rfl, s3 _ _ hp, T.clS, T.nK, rfl, ?_⟩
    refine ⟨pn, o, pf, a.needs, oncePlan a, a.fees, a.keep, rfl, SqL.of (s3 _ _ S.n), SqL.of hh3, SqL.of (s3 _ _ S.f), (once_len a).symm, by rw [once_len]; exact hlen, by omega, S.good.keep, fun H4 s4 => ?_⟩
    have s14 := s3.trans s4
    rw [ec]
    exact ⟨(by show 1 ≤ sizeLine; decide), fun r hr0 => q.read S rfl (Same.upd s14 (s14.free hr0)) upd_same (s14.free hr0)⟩
/-! ### with_other, would, dear -/
def spWith (K : PySem.W.Frag) : Sp := fun vs H Q _ => ∃ (q : Addr) (l : List Nat) (d x : Nat), vs = [.ref q, .int d, .int x] ∧ SqL K H q (iv l) ∧ d < l.length ∧
  ∀ (H' : Hp) (r : Addr), Same H H' → H r = none → H' r = some (.lst (iv (l.set d x))) → Q (.ref r) H'
abbrev nWith : List Str := ["amounts", "day", "amount", "changed"]
structure With (P : Program) (w : World) (K : PySem.W.Frag) (mg : Str → Option Value) (base : Heap) (f : Addr) (fd : FuncData) : Prop where
  ok : FnOk P w K mg base CX0 1 f fd ["amounts", "day", "amount"] (spWith K)
  kp : PySem.W.keepIn K (.ref f) = true
  mg : mg "with_other" = some (.ref f)
  bd : Binds K fd ["amounts", "day", "amount"] []
theorem scWith : FnScope nWith ["amounts", "day", "amount"] (defScope sWith) := ⟨rfl, rfl, rfl, by decide +kernel, rfl, by decide +kernel, by decide +kernel⟩
theorem ok_with {f CB CS : Addr} {fd : FuncData} (F : Fun K "with_other" "with_other" sWith f fd) (T : TxtS K mg CB CS) : FnOk P w K mg base CX0 1 f fd ["amounts", "day", "amount"] (spWith K) := by
  refine F.ok scWith (fun vs H Q E h => ?_) (fun cdv A outer s H vs Q E hr h => ?_)
  · obtain ⟨q, l, d, x, rfl, _⟩ := h
    rfl
  · obtain ⟨p, l, d, x, rfl, hp, hd, q⟩ := h
    refine ⟨_, pss_cons (ps_set (i := 3) scWith.nd rfl (Or.inl rfl) (pe_callTy call_list_of rfl T.list boot_list (pa_cons (pv 0) pa_nil)))
      (pss_cons (ps_asg (pv 2) (pg_sub (pv 3) (pv 1) set_list))
      (pss_one (ps_ret (pv 3)))), ?_⟩
    refine ⟨_, rfl, p, iv l, rfl, .inl hp, fun r hr0 => ?_⟩
    have s1 : Same H (upd H r (.lst (iv l))) := Same.upd (Same.refl _) hr0
    refine ⟨_, rfl, _, rfl, _, rfl, r, iv l, _, d, rfl, rfl, upd_same, ixN_nat (by rw [iv_len]; exact hd), ?_⟩
    rw [set_iv]
    exact ⟨_, rfl, q _ r (Same.upd s1 hr0) hr0 upd_same⟩
abbrev nWould : List Str := ["store", "given", "refusal"]
theorem scWould : FnScope nWould ["store", "given"] (defScope sWould) := ⟨rfl, rfl, rfl, by decide +kernel, rfl, by decide +kernel, by decide +kernel⟩
theorem ok_would {f fr fw fl CB CS : Addr} {fd fdr fdw fdl : FuncData} (F : Fun K "would" "would" sWould f fd) (T : TxtS K mg CB CS) (R : DayRef P w K mg base fr fdr) (W : With P w K mg base fw fdw) (L : LeastP P w K mg base fl fdl) :
    FnOk P w K mg base CX0 5 f fd ["store", "given"] (spDo K CS (fun xs => .would (xs.getD 0 0) (xs.getD 1 0)) (fun xs => xs.length = 2) true) := by
  refine F.ok scWould (fun vs H Q E h => ?_) (fun cdv A outer s H vs Q E hr h => ?_)
  · obtain ⟨p, pn, pf, g, a, xs, rfl, _⟩ := h
    rfl
  · obtain ⟨p, pn, pf, g, a, xs, rfl, S, _, hg, hx, q⟩ := h
    obtain ⟨t, n, rfl⟩ := is_len hx
    obtain ⟨dx, hp⟩ := S.ins
    have hlen := S.good.len
    have q : Post CS H p pn pf (Su85.does a (.would t n)) Q := q
    refine ⟨_, pss_cons (ps_set (i := 2) scWould.nd rfl (Or.inl rfl) (pe_call R.ok (hr.mono (by decide)) rfl R.mg R.kp R.bd .nil pass0 (pa_cons (pe_fld (pv 0) rfl) (pa_cons (pe_ix ix_list (pv 1) pe_int (fun _ _ => rfl)) (pa_cons (pe_ix ix_list (pv 1) pe_int (fun _ _ => rfl)) (pa_cons (pgI T.mNeed) pa_nil))))))
      (pss_cons (ps_if (pt_cmpR op_lt (pv 2) pe_int (nomark _)) (pss_one (ps_ret (pe_lst (pa_cons (pv 2) pa_nil)))) pss_nil)
      (pss_one (ps_ret (pe_call L.ok hr rfl L.mg L.kp L.bd .nil pass0 (pa_cons (pe_call W.ok (hr.mono (by decide)) rfl W.mg W.kp W.bd .nil pass0 (pa_cons (pe_fld (pv 0) rfl) (pa_cons (pe_ix ix_list (pv 1) pe_int (fun _ _ => rfl)) (pa_cons (pe_ix ix_list (pv 1) pe_int (fun _ _ => rfl)) pa_nil)))) (pa_cons (pe_fld (pv 0) rfl) (pa_cons (pe_fld (pv 0) rfl) pa_nil))))))), ?_⟩
    refine ⟨_, rfl, p, CS, dx, sf pn pf a.keep, .ref pn, rfl, hp, T.clS, T.nN, rfl, _, rfl, g, _, _, _, rfl, rfl, hg, at_of (j := 0) rfl rfl, _, rfl, g, _, _, _, rfl, rfl, hg, at_of (j := 1) rfl rfl, ?_⟩
    refine ⟨pn, a.needs, t, n, 1000, rfl, SqL.of S.n, fun H1 s1 => ?_⟩
    refine ⟨_, rfl, _, _, rfl, rfl, _, rfl, ite2 (fun h1 => ?_) (fun h1 => ?_)⟩
    · have h1 : dayRef a.needs t n 1000 < 0 := of_decide_eq_true h1
      have e : Su85.does a (.would t n) = (a, Su85.no (dayRef a.needs t n 1000)) := by
        rcases dayRef_neg h1 with ⟨g1, g2⟩ | ⟨g1, g2, g3⟩
        · rw [g2]
          exact if_pos (decide_eq_false (show ¬ t < a.needs.length by omega))
        · rw [g3]
          exact (if_neg (by show ¬ decide (t < a.needs.length) = false; rw [decide_eq_true g1]; decide)).trans (if_pos g2)
      rw [e] at q
      exact ⟨_, rfl, (by show 1 ≤ sizeLine; decide), fun r hr0 => q.read S rfl (Same.upd s1 (s1.free hr0)) upd_same (s1.free hr0)⟩
    have h1 : ¬ dayRef a.needs t n 1000 < 0 := fun z => h1 (decide_eq_true z)
    obtain ⟨g1, g2⟩ := dayRef_ok h1
    have e : Su85.does a (.would t n) = (a, Su85.num (({ a with needs := a.needs.set t n } : Abs).least a.days) (({ a with needs := a.needs.set t n } : Abs).plan)) :=
      (if_neg (by show ¬ decide (t < a.needs.length) = false; rw [decide_eq_true g1]; decide)).trans (if_neg (by show ¬ 1000 < n; omega))
    rw [e] at q
    refine ⟨_, rfl, p, CS, dx, sf pn pf a.keep, .ref pn, rfl, s1 _ _ hp, T.clS, T.nN, rfl, _, rfl, g, _, _, _, rfl, rfl, s1.seq hg, at_of (j := 0) rfl rfl, _, rfl, g, _, _, _, rfl, rfl, s1.seq hg, at_of (j := 1) rfl rfl, ?_⟩
    refine ⟨pn, a.needs, t, n, rfl, SqL.of (s1 _ _ S.n), g1, fun H2 c s2 hc0 hc => ?_⟩
    have s12 := s1.trans s2
    refine ⟨_, rfl, p, CS, dx, sf pn pf a.keep, .ref pf, rfl, s12 _ _ hp, T.clS, T.nF, rfl, _, rfl, p, CS, dx, sf pn pf a.keep, .int a.keep, rfl, s12 _ _ hp, T.clS, T.nK, rfl, ?_⟩
    refine ⟨c, pf, { a with needs := a.needs.set t n }, rfl, ⟨SqL.of hc, SqL.of (s12 _ _ S.f), ?_, ?_, S.good.keep⟩, fun H3 r s3 hr0 hr' => ?_⟩
    · show a.fees.length = (a.needs.set t n).length
      rw [List.length_set]; exact hlen
    · show (a.needs.set t n).length ≤ 10
      rw [List.length_set]; exact S.good.ten
    refine q.read S rfl (s12.trans s3) ?_ (s12.free hr0)
    rw [hr']
    show some (HO.lst (iv (Abs.least _ (a.needs.set t n).length :: _))) = _
    rw [List.length_set]
    show _ = some (HO.lst (V.int (Int.ofNat _) :: iv (Abs.planTo _ (a.needs.set t n).length)))
    rw [List.length_set]; rfl
theorem scDear : FnScope nWould ["store", "given"] (defScope sDear) := ⟨rfl, rfl, rfl, by decide +kernel, rfl, by decide +kernel, by decide +kernel⟩
theorem ok_dear {f fr fw fl CB CS : Addr} {fd fdr fdw fdl : FuncData} (F : Fun K "dear" "dear" sDear f fd) (T : TxtS K mg CB CS) (R : DayRef P w K mg base fr fdr) (W : With P w K mg base fw fdw) (L : LeastP P w K mg base fl fdl) :
    FnOk P w K mg base CX0 5 f fd ["store", "given"] (spDo K CS (fun xs => .dear (xs.getD 0 0) (xs.getD 1 0)) (fun xs => xs.length = 2) true) := by
  refine F.ok scDear (fun vs H Q E h => ?_) (fun cdv A outer s H vs Q E hr h => ?_)
  · obtain ⟨p, pn, pf, g, a, xs, rfl, _⟩ := h
    rfl
  · obtain ⟨p, pn, pf, g, a, xs, rfl, S, _, hg, hx, q⟩ := h
    obtain ⟨t, n, rfl⟩ := is_len hx
    obtain ⟨dx, hp⟩ := S.ins
    have hlen := S.good.len
    have q : Post CS H p pn pf (Su85.does a (.dear t n)) Q := q
    refine ⟨_, pss_cons (ps_set (i := 2) scDear.nd rfl (Or.inl rfl) (pe_call R.ok (hr.mono (by decide)) rfl R.mg R.kp R.bd .nil pass0 (pa_cons (pe_fld (pv 0) rfl) (pa_cons (pe_ix ix_list (pv 1) pe_int (fun _ _ => rfl)) (pa_cons (pe_ix ix_list (pv 1) pe_int (fun _ _ => rfl)) (pa_cons (pgI T.mFee) pa_nil))))))
      (pss_cons (ps_if (pt_cmpR op_lt (pv 2) pe_int (nomark _)) (pss_one (ps_ret (pe_lst (pa_cons (pv 2) pa_nil)))) pss_nil)
      (pss_one (ps_ret (pe_call L.ok hr rfl L.mg L.kp L.bd .nil pass0 (pa_cons (pe_fld (pv 0) rfl) (pa_cons (pe_call W.ok (hr.mono (by decide)) rfl W.mg W.kp W.bd .nil pass0 (pa_cons (pe_fld (pv 0) rfl) (pa_cons (pe_ix ix_list (pv 1) pe_int (fun _ _ => rfl)) (pa_cons (pe_ix ix_list (pv 1) pe_int (fun _ _ => rfl)) pa_nil)))) (pa_cons (pe_fld (pv 0) rfl) pa_nil))))))), ?_⟩
    refine ⟨_, rfl, p, CS, dx, sf pn pf a.keep, .ref pf, rfl, hp, T.clS, T.nF, rfl, _, rfl, g, _, _, _, rfl, rfl, hg, at_of (j := 0) rfl rfl, _, rfl, g, _, _, _, rfl, rfl, hg, at_of (j := 1) rfl rfl, ?_⟩
    refine ⟨pf, a.fees, t, n, 10000, rfl, SqL.of S.f, fun H1 s1 => ?_⟩
    refine ⟨_, rfl, _, _, rfl, rfl, _, rfl, ite2 (fun h1 => ?_) (fun h1 => ?_)⟩
    · have h1 : dayRef a.fees t n 10000 < 0 := of_decide_eq_true h1
      have e : Su85.does a (.dear t n) = (a, Su85.no (dayRef a.fees t n 10000)) := by
        rcases dayRef_neg h1 with ⟨g1, g2⟩ | ⟨g1, g2, g3⟩
        · rw [g2]
          exact if_pos (decide_eq_false (show ¬ t < a.needs.length by omega))
        · rw [g3]
          exact (if_neg (by show ¬ decide (t < a.needs.length) = false; rw [decide_eq_true (by omega)]; decide)).trans (if_pos g2)
      rw [e] at q
      exact ⟨_, rfl, (by show 1 ≤ sizeLine; decide), fun r hr0 => q.read S rfl (Same.upd s1 (s1.free hr0)) upd_same (s1.free hr0)⟩
    have h1 : ¬ dayRef a.fees t n 10000 < 0 := fun z => h1 (decide_eq_true z)
    obtain ⟨g1, g2⟩ := dayRef_ok h1
    have e : Su85.does a (.dear t n) = (a, Su85.num (({ a with fees := a.fees.set t n } : Abs).least a.days) (({ a with fees := a.fees.set t n } : Abs).plan)) :=
      (if_neg (by show ¬ decide (t < a.needs.length) = false; rw [decide_eq_true (by omega)]; decide)).trans (if_neg (by show ¬ 10000 < n; omega))
    rw [e] at q
    refine ⟨_, rfl, p, CS, dx, sf pn pf a.keep, .ref pn, rfl, s1 _ _ hp, T.clS, T.nN, rfl, _, rfl, p, CS, dx, sf pn pf a.keep, .ref pf, rfl, s1 _ _ hp, T.clS, T.nF, rfl, _, rfl, g, _, _, _, rfl, rfl, s1.seq hg, at_of (j := 0) rfl rfl, _, rfl, g, _, _, _, rfl, rfl, s1.seq hg, at_of (j := 1) rfl rfl, ?_⟩
    refine ⟨pf, a.fees, t, n, rfl, SqL.of (s1 _ _ S.f), g1, fun H2 c s2 hc0 hc => ?_⟩
    have s12 := s1.trans s2
    refine ⟨_, rfl, p, CS, dx, sf pn pf a.keep, .int a.keep, rfl, s12 _ _ hp, T.clS, T.nK, rfl, ?_⟩
    refine ⟨pn, c, { a with fees := a.fees.set t n }, rfl, ⟨SqL.of (s12 _ _ S.n), SqL.of hc, ?_, S.good.ten, S.good.keep⟩, fun H3 r s3 hr0 hr' => ?_⟩
    · show (a.fees.set t n).length = a.needs.length
      rw [List.length_set]; exact hlen
    exact q.read S rfl (s12.trans s3) hr' (s12.free hr0)
/-! ### together -/
abbrev nTog : List Str := ["store", "given", "both", "own", "other", "day"]
theorem scTog : FnScope nTog ["store", "given"] (defScope sTogether) := ⟨rfl, rfl, rfl, by decide +kernel, rfl, by decide +kernel, by decide +kernel⟩
theorem ok_together {f fl CB CS : Addr} {fd fdl : FuncData} (F : Fun K "together" "together" sTogether f fd) (T : TxtS K mg CB CS) (L : LeastO P w K mg base fl fdl) :
    FnOk P w K mg base CX0 5 f fd ["store", "given"] (spDo K CS (fun xs => .together xs) (fun xs => xs.length ≤ 14) true) := by
  refine F.ok scTog (fun vs H Q E h => ?_) (fun cdv A outer s H vs Q E hr h => ?_)
  · obtain ⟨p, pn, pf, g, a, xs, rfl, _⟩ := h
    rfl
  · obtain ⟨p, pn, pf, g, a, qs, rfl, S, h0, hg, hx, q⟩ := h
    have h0 := h0 rfl
    obtain ⟨dx, hp⟩ := S.ins
    have hten := S.good.ten
    have hlen := S.good.len
    have q : Post CS H p pn pf (Su85.does a (.together qs)) Q := q
    refine ⟨_, pss_cons (ps_if (PW.pt (pw_or (pt_cmpR op_ne (pe_callB call_len_seq rfl T.len PySem.boot_len (pa_cons (pv 1) pa_nil)) (pe_callB call_len_seq rfl T.len PySem.boot_len (pa_cons (pe_fld (pv 0) rfl) pa_nil)) (nomark _))
        (pw_or1 (pt_cmpR op_gt (pe_callB (cr_max rfl) rfl T.max boot_max (pa_cons (pv 1) pa_nil)) (pgI T.mNeed) (nomark _))))) (pss_one (ps_ret (pe_lst (pa_cons (pgI T.outOf) pa_nil)))) pss_nil)
      (pss_cons (ps_setLc (i := 2) rfl scTog.nd rfl rfl (sw_true rfl rfl rfl rfl) (pi_range1 rfl T.range (pa_cons (pe_callB call_len_seq rfl T.len PySem.boot_len (pa_cons (pv 1) pa_nil)) pa_nil)) (own := [("day", 5)]) (blkOk_by (show blkC nTog (defScope sTogether) _ _ = true by decide +kernel))
          (fun _ _ _ _ _ => pg_name (i := 5) scTog.nd rfl (Or.inl rfl)) (fun _ _ _ _ _ => pts_nil)
          (fun _ _ _ _ _ => pe_op op_add (pe_ix (r := rIxL K) ix_list (show PE _ _ (tFld K (tVar 0) "needs") from pe_fld (pv 0) rfl) (pv 5) (fun _ _ => rfl)) (pe_ix (r := rIxL K) ix_list (pv 1) (pv 5) (fun _ _ => rfl))))
      (pss_cons (ps_set (i := 3) scTog.nd rfl (Or.inl rfl) (pe_call L.ok hr rfl L.mg L.kp L.bd .nil pass0 (pa_cons (pe_fld (pv 0) rfl) (pa_cons (pe_fld (pv 0) rfl) (pa_cons (pe_fld (pv 0) rfl) pa_nil)))))
      (pss_cons (ps_set (i := 4) scTog.nd rfl (Or.inl rfl) (pe_call L.ok hr rfl L.mg L.kp L.bd .nil pass0 (pa_cons (pv 1) (pa_cons (pe_fld (pv 0) rfl) (pa_cons (pe_fld (pv 0) rfl) pa_nil)))))
      (pss_one (ps_ret (pe_lst (pa_cons (pe_call L.ok hr rfl L.mg L.kp L.bd .nil pass0 (pa_cons (pv 2) (pa_cons (pe_fld (pv 0) rfl) (pa_cons (pe_fld (pv 0) rfl) pa_nil)))) (pa_cons (pe_op op_add (pv 3) (pv 4)) pa_nil)))))))), ?_⟩
    have refused : (qs.length ≠ a.needs.length ∨ qs.any (fun n => decide (1000 < n)) = true) → ∀ D : Ends, D.rt = Q → tRet (tLst (tCons (tC (V.int (-22))) tNil)) D [some (.ref p), some (.ref g), none, none, none, none] H := fun hc D hD => by
      refine ⟨(by show 1 ≤ sizeLine; decide), fun r hr0 => ?_⟩
      rw [hD]
      have e : Su85.does a (.together qs) = (a, Su85.no (-22)) := if_pos hc
      rw [e] at q
      exact q.read S rfl (Same.upd (Same.refl H) hr0) upd_same hr0
    refine ⟨_, rfl, g, iv qs, rfl, .inl hg, _, rfl, p, CS, dx, sf pn pf a.keep, .ref pn, rfl, hp, T.clS, T.nN, rfl, pn, iv a.needs, rfl, .inl (SqL.of S.n), rfl, _, rfl, ?_⟩
    rw [iv_len, iv_len]
    by_cases hl : qs.length = a.needs.length
    · rw [hl, decide_eq_true rfl]
      refine ⟨_, rfl, g, _, rfl, (by rw [iv_int] at hg; exact hg), by rw [List.length_map]; omega, fun m hm1 hm2 => ⟨_, _, rfl, rfl, _, rfl, ite2 (fun h1 => ?_) (fun h1 => ?_)⟩⟩
      · have h1 : (1000 : Int) < m := of_decide_eq_true h1
        refine refused (.inr ?_) _ rfl
        obtain ⟨n, hn1, hn2⟩ := List.mem_map.mp hm1
        rw [List.any_eq_true]
        exact ⟨n, hn1, decide_eq_true (by omega)⟩
      have h1 : ¬ (1000 : Int) < m := fun z => h1 (decide_eq_true z)
      have e : Su85.does a (.together qs) = (a, Su85.num ((a.plus qs).least a.days) [a.least a.days + (a.other qs).least a.days]) := by
        refine if_neg ?_
        rintro (z | z)
        · exact z hl
        · obtain ⟨n, hn1, hn2⟩ := List.any_eq_true.mp z
          have h3 := hm2 (n : Int) (List.mem_map.mpr ⟨n, hn1, rfl⟩)
          have h4 : 1000 < n := of_decide_eq_true hn2
          omega
      rw [e, other_needs a qs hl] at q
      refine ⟨_, rfl, g, iv qs, rfl, .inl hg, _, rfl, by omega, by rw [iv_len]; omega, fun D1 hD1 => ?_⟩
      refine lc_range (fun m H' => Same H H' ∧ H' D1 = some (.lst (iv ((List.range m).map fun i => a.need i + qs.getD i 0)))) ⟨Same.upd (Same.refl H) hD1, upd_same⟩ ?_ ?_
      · rintro m H' hm ⟨s1, hL⟩
        have hm' : m < qs.length := by rw [iv_len] at hm; omega
        refine ⟨rfl, _, rfl, p, CS, dx, sf pn pf a.keep, .ref pn, rfl, s1 _ _ hp, T.clS, T.nN, rfl, _, rfl, pn, _, _, _, rfl, rfl, SqL.of (s1 _ _ S.n), at_of (j := m) (by omega) (iv_get (need_get a (by omega))), _, rfl, _, rfl, g, _, _, _, rfl, rfl, s1.seq hg, at_of (j := m) (by omega) (iv_get (getD_get hm')), _, _, rfl, rfl, _, hL, ?_, Same.upd s1 hD1, ?_⟩
        · rw [iv_len, List.length_map, List.length_range]
          exact small10 (by omega)
        · rw [upd_same, List.range_succ, List.map_append, List.map_cons, List.map_nil, iv_snoc]
          show some (HO.lst (_ ++ [V.int (_ + _)])) = _
          rw [Int.natCast_add]
      · rintro H1 ⟨s1, hL⟩
        have e1 : ((iv qs).length : Int).toNat = a.needs.length := by rw [iv_len]; omega
        rw [e1] at hL
        have hB : H1 D1 = some (.lst (iv (a.plus qs).needs)) := hL
        refine ⟨_, rfl, p, CS, dx, sf pn pf a.keep, .ref pn, rfl, s1 _ _ hp, T.clS, T.nN, rfl, _, rfl, p, CS, dx, sf pn pf a.keep, .ref pf, rfl, s1 _ _ hp, T.clS, T.nF, rfl, _, rfl, p, CS, dx, sf pn pf a.keep, .int a.keep, rfl, s1 _ _ hp, T.clS, T.nK, rfl, ?_⟩
        refine ⟨pn, pf, a, rfl, (S.same s1).days, fun H2 s2 => ?_⟩
        have s12 := s1.trans s2
        refine ⟨_, rfl, _, rfl, p, CS, dx, sf pn pf a.keep, .ref pf, rfl, s12 _ _ hp, T.clS, T.nF, rfl, _, rfl, p, CS, dx, sf pn pf a.keep, .int a.keep, rfl, s12 _ _ hp, T.clS, T.nK, rfl, ?_⟩
        refine ⟨g, pf, { a with needs := qs }, rfl, ⟨s12.seq hg, SqL.of (s12 _ _ S.f), by show a.fees.length = qs.length; omega, by show qs.length ≤ 10; omega, S.good.keep⟩, fun H3 s3 => ?_⟩
        have s13 := s12.trans s3
        refine ⟨_, rfl, _, rfl, p, CS, dx, sf pn pf a.keep, .ref pf, rfl, s13 _ _ hp, T.clS, T.nF, rfl, _, rfl, p, CS, dx, sf pn pf a.keep, .int a.keep, rfl, s13 _ _ hp, T.clS, T.nK, rfl, ?_⟩
        refine ⟨D1, pf, a.plus qs, rfl, ⟨SqL.of (s3 _ _ (s2 _ _ hB)), SqL.of (s13 _ _ S.f), by rw [plus_len]; exact hlen, by rw [plus_len]; exact hten, S.good.keep⟩, fun H4 s4 => ?_⟩
        have s14 := s13.trans s4
        refine ⟨_, rfl, _, rfl, _, _, rfl, rfl, (by show 2 ≤ sizeLine; decide), fun r hr0 => ?_⟩
        refine q.read S rfl (Same.upd s14 (s14.free hr0)) ?_ (s14.free hr0)
        rw [upd_same, plus_len]
        show some (HO.lst [V.int _, V.int (((a.least a.needs.length : Nat) : Int) + (((Abs.least { a with needs := qs } qs.length : Nat)) : Int))]) = _
        rw [hl]; rfl
    · have hd : decide (V.int (qs.length : Int) = V.int (a.needs.length : Int)) = false := decide_eq_false fun z => hl (by have := V.int.inj z; omega)
      rw [hd]
      exact refused (.inl hl) _ rfl
/-! ### sure -/
theorem find_filter {p : Nat → Bool} (l : List Nat) : l.reverse.find? p = (l.filter p).getLast? := by
  rw [← List.head?_filter, List.filter_reverse, List.head?_reverse]
abbrev nSure : List Str := ["store", "given", "best", "found", "day"]
theorem scSure : FnScope nSure ["store", "given"] (defScope sSure) := ⟨rfl, rfl, rfl, by decide +kernel, rfl, by decide +kernel, by decide +kernel⟩
theorem ok_sure {f fo fs ft CB CS : Addr} {fd fdo fds fdt : FuncData} (F : Fun K "sure" "sure" sSure f fd) (T : TxtS K mg CB CS) (O : BestOf P w K mg base CB CS fo fdo) (I : IsSettled P w K mg base CB fs fds) (G : PlanTold P w K mg base CB ft fdt) :
    FnOk P w K mg base CX0 5 f fd ["store", "given"] (spDo K CS (fun _ => .sure) (fun xs => xs.length = 0) true) := by
  refine F.ok scSure (fun vs H Q E h => ?_) (fun cdv A outer s H vs Q E hr h => ?_)
  · obtain ⟨p, pn, pf, g, a, xs, rfl, _⟩ := h
    rfl
  · obtain ⟨p, pn, pf, g, a, xs, rfl, S, _, hg, hx, q⟩ := h
    obtain ⟨dx, hp⟩ := S.ins
    have hten := S.good.ten
    have q : Post CS H p pn pf (Su85.does a .sure) Q := q
    refine ⟨_, pss_cons (ps_set (i := 2) scSure.nd rfl (Or.inr rfl) (pe_call O.ok hr rfl O.mg O.kp O.bd .nil pass0 (pa_cons (pv 0) pa_nil)))
      (pss_cons (ps_setLc (i := 3) rfl scSure.nd rfl rfl (sw_true rfl rfl rfl rfl) (pi_range1 rfl T.range (pa_cons (pe_callB call_len_seq rfl T.len PySem.boot_len (pa_cons (pe_fld (pv 0) rfl) pa_nil)) pa_nil)) (own := [("day", 4)]) (blkOk_by (show blkC nSure (defScope sSure) _ _ = true by decide +kernel))
          (fun _ _ _ _ _ => pg_name (i := 4) scSure.nd rfl (Or.inl rfl)) (fun _ _ _ _ _ => pts_one (pt_val (pe_call I.ok (hr.mono (by decide)) rfl I.mg I.kp I.bd .nil pass0 (pa_cons (pv 2) (pa_cons (pv 4) pa_nil)))))
          (fun _ _ _ _ _ => pv 4))
      (pss_cons (ps_if (pt_cmpR op_eq (pe_callB call_len_seq rfl T.len PySem.boot_len (pa_cons (pv 3) pa_nil)) pe_int (nomark _)) (pss_one (ps_ret (pe_lst (pa_cons (pgI T.noneS) pa_nil)))) pss_nil)
      (pss_one (ps_ret (pe_op op_cat (pe_lst (pa_cons (pe_ix ix_list (pv 3) (pe_un un_neg pe_int) (fun _ _ => rfl)) pa_nil)) (pe_call G.ok (hr.mono (by decide)) rfl G.mg G.kp G.bd .nil pass0 (pa_cons (pv 2) (pa_cons (pe_fld (pv 0) rfl) (pa_cons (pe_ix ix_list (pv 3) (pe_un un_neg pe_int) (fun _ _ => rfl)) pa_nil))))))))), ?_⟩
    refine ⟨_, rfl, p, pn, pf, a, rfl, S, fun H1 b pL pD s1 B => ?_⟩
    obtain ⟨db, hb⟩ := B.ins
    refine ⟨_, rfl, p, CS, dx, sf pn pf a.keep, .ref pn, rfl, s1 _ _ hp, T.clS, T.nN, rfl, pn, iv a.needs, rfl, .inl (SqL.of (s1 _ _ S.n)), _, rfl, by omega, by rw [iv_len]; omega, fun D1 hD1 => ?_⟩
    refine lc_range (fun m H' => Same H1 H' ∧ H' D1 = some (.lst (iv ((List.range m).filter fun t => a.settled t)))) ⟨Same.upd (Same.refl H1) hD1, upd_same⟩ ?_ ?_
    · rintro m H' hm ⟨s2, hL⟩
      have hm' : m < a.needs.length := by rw [iv_len] at hm; omega
      have e0 : (0 : Int) + (m : Int) = (m : Int) := Int.zero_add _
      refine ⟨rfl, _, rfl, _, rfl, b, pL, pD, a, a.needs.length, m, ?_, ⟨⟨db, s2 _ _ hb⟩, s2 _ _ B.L, s2 _ _ B.D, B.ne⟩, hm', fun H2 s3 => ⟨_, rfl, ?_⟩⟩
      · show [V.ref b, V.int (0 + (m : Int))] = _
        rw [e0]
      have hL2 := s3 _ _ hL
      have s23 := s2.trans s3
      refine ite2 (fun hc => ?_) (fun hc => ?_)
      · refine ⟨_, rfl, _, hL2, ?_, Same.upd s23 hD1, ?_⟩
        · rw [iv_len]
          exact small10 (Nat.le_trans (List.length_filter_le _ _) (by rw [List.length_range]; omega))
        · rw [upd_same, List.range_succ, List.filter_append, List.filter_cons, if_pos hc, List.filter_nil, iv_snoc, e0]
      · refine ⟨s23, ?_⟩
        rw [List.range_succ, List.filter_append, List.filter_cons, if_neg hc, List.filter_nil, List.append_nil]
        exact hL2
    · rintro H2 ⟨s2, hL⟩
      have e1 : ((iv a.needs).length : Int).toNat = a.needs.length := by rw [iv_len]; omega
      rw [e1] at hL
      have s12 := s1.trans s2
      have ed : Su85.does a .sure = (match ((List.range a.needs.length).filter fun t => a.settled t).getLast? with | none => (a, Su85.no (-6)) | some t => (a, Su85.num t (a.planTo t))) := by
        show (match ((List.range a.needs.length).reverse.find? fun t => a.settled t) with | none => _ | some t => _) = _
        rw [find_filter]
      rw [ed] at q
      have hlt : ∀ t, t ∈ (List.range a.needs.length).filter (fun t => a.settled t) → t < a.needs.length := fun t ht => List.mem_range.mp (List.mem_filter.mp ht).1
      generalize (List.range a.needs.length).filter (fun t => a.settled t) = fl at hL q hlt
      refine ⟨_, rfl, D1, iv fl, rfl, .inl (SqL.of hL), rfl, _, rfl, ?_⟩
      rw [iv_len]
      rcases List.eq_nil_or_concat fl with rfl | ⟨l, t, rfl⟩
      · refine ite2 (fun _ => ?_) (fun hc => absurd (decide_eq_true rfl) hc)
        exact ⟨(by show 1 ≤ sizeLine; decide), fun r hr0 => q.read S rfl (Same.upd s12 (s12.free hr0)) upd_same (s12.free hr0)⟩
      · rw [List.concat_eq_append] at hL q hlt ⊢
        refine ite2 (fun hc => ?_) (fun _ => ?_)
        · have := V.int.inj (of_decide_eq_true hc)
          rw [List.length_append] at this
          have h3 : ((l.length + 1 : Nat) : Int) = 0 := this
          omega
        rw [List.getLast?_append] at q
        have q : Post CS H p pn pf (a, Su85.num t (a.planTo t)) Q := q
        have ht : t < a.needs.length := hlt t (by simp)
        rw [iv_snoc] at hL
        refine ⟨_, rfl, _, rfl, D1, _, _, _, rfl, rfl, SqL.of hL, atI_last _ _, (by show 1 ≤ sizeLine; decide), fun l1 hl1 => ?_⟩
        have s3 : Same H2 (upd H2 l1 (.lst [.int (t : Nat)])) := Same.upd (Same.refl _) hl1
        have hh3 : upd H2 l1 (.lst [.int (t : Nat)]) l1 = some (.lst [.int (t : Nat)]) := upd_same
        generalize upd H2 l1 (.lst [.int (t : Nat)]) = H3 at s3 hh3 ⊢
        have s13 := s12.trans s3
        have s23 := s2.trans s3
        refine ⟨_, rfl, _, rfl, p, CS, dx, sf pn pf a.keep, .ref pn, rfl, s13 _ _ hp, T.clS, T.nN, rfl, _, rfl, _, rfl, D1, _, _, _, rfl, rfl, SqL.of (s3 _ _ hL), atI_last _ _, ?_⟩
        refine ⟨b, pL, pD, pn, a, a.needs.length, t, rfl, SqL.of (s13 _ _ S.n), ⟨⟨db, s23 _ _ hb⟩, s23 _ _ B.L, s23 _ _ B.D, B.ne⟩, by omega, Nat.le_refl _, hten, fun H4 r s4 hr0 hr' => ?_⟩
        have s14 := s13.trans s4
        refine ⟨l1, r, _, _, rfl, rfl, s4 _ _ hh3, hr', ?_, fun z hz => ?_⟩
        · rw [iv_len, planTo_len]
          exact Nat.le_of_lt (small10 (by show 1 + t ≤ 1000; omega))
        · exact q.read S rfl (Same.upd s14 (s14.free hz)) upd_same (s14.free hz)
end
end OK
end
section
set_option Elab.async false
set_option linter.all false
set_option maxRecDepth 100000
set_option maxHeartbeats 4000000
namespace OK
open PySem PySem.Spec PyProof.Rows L2
open Su85 (Abs)
abbrev sAC : Stmt := top 53
abbrev sAnswers : Stmt := top 54
def whileBody (s : Stmt) : List Stmt := match s with
  | .While _ b _ _ => b
  | _ => []
def absOf (o : Option Abs) : Abs := o.getD ⟨0, [], []⟩
def Begun (o : Option Abs) : Prop := ∀ a, o = some a → 0 < a.needs.length
structure TxtA (K : PySem.W.Frag) (mg : Str → Option Value) (CB CS aS aR : Addr) : Prop extends TxtS K mg CB CS where
  sizes : mg "SIZES" = some (.ref aS)
  sizesT : ∀ H : Hp, SqT K H aS (iv sizesN)
  withRow : mg "WITH_ROW" = some (.ref aR)
  rowT : ∀ H : Hp, SqT K H aR (iv [8, 9, 16])
/-- answer_call's promise -/
def spAC (K : PySem.W.Frag) (CS : Addr) (m : Nat) : Sp := fun vs H Q _ => ∃ (p pn pf g : Addr) (o : Option Abs) (num : Int) (xs : List Int), vs = [.ref p, .int num, .ref g] ∧ StoreAt CS H p pn pf (absOf o) ∧ Begun o ∧ SqL K H g (xs.map V.int) ∧ (∃ n : Nat, n < m ∧ num = (n : Int)) ∧
  Su85Neutral.asked1 (num :: xs) = true ∧
  ∀ (H' : Hp) (r pn' pf' : Addr), StoreAt CS H' p pn' pf' (absOf (Su85Neutral.step o (num :: xs)).1) → Begun (Su85Neutral.step o (num :: xs)).1 → H' r = some (.lst ((Su85Neutral.step o (num :: xs)).2.map V.int)) → H r = none → (pn' = pn ∨ H pn' = none) → (pf' = pf ∨ H pf' = none) → r ≠ pn' → r ≠ pf' →
    (∀ b o, H b = some o → b ≠ p → b ≠ pn → b ≠ pf → H' b = some o) → Q (.ref r) H'
/-! ### what is played -/
abbrev stepF : Su85Neutral.S → List (List Int) → Su85Neutral.S × List Int := fun s c => Su85Neutral.step s (c.headD [])
theorem told_cons (x : List Int) (l : List (List Int)) : PyFlat.told (x :: l) = (x.length : Int) :: x ++ PyFlat.told l := by
  unfold PyFlat.told; rw [List.flatMap_cons]
theorem calls_nil (f : Nat) : PyFlat.calls PySu85.shape f [] = some [] := by cases f <;> rfl
/-- between two calls: out is told, o the state, cs what is still to be called, from place on -/
structure Mid (ns : List Int) (place : Nat) (o : Option Abs) (out : List Int) : Prop where
  ex : ∃ (f : Nat) (cs : List (List (List Int))), PyFlat.calls PySu85.shape f (ns.drop place) = some cs ∧ (∀ c ∈ cs, Su85Neutral.asked1 ((PySu85.whole c).headD []) = true) ∧
    PySu85.answers ns = out ++ PyFlat.told (PyFlat.played stepF o (cs.map PySu85.whole))
  begun : Begun o
  short : (PySu85.answers ns).length ≤ 10000000
theorem Mid.start {ns : List Int} (h : PySu85.answers_asked ns = true) : Mid ns 0 none [] := by
  unfold PySu85.answers_asked at h
  cases e : PyFlat.calls PySu85.shape ns.length ns with
  | none => rw [e] at h; cases h
  | some raw =>
    rw [e] at h
    have h : (((!raw.isEmpty && PyFlat.atMost 400 raw && PyInside.calls PySu85.bound raw) && Su85Neutral.asked ((raw.map PySu85.whole).map fun c => c.headD [])) && PyFlat.short 10000000 (PySu85.answers ns)) = true := h
    rw [Bool.and_eq_true, Bool.and_eq_true] at h
    obtain ⟨⟨_, h1⟩, h2⟩ := h
    refine ⟨⟨ns.length, raw, by rw [List.drop_zero]; exact e, fun c hc => ?_, ?_⟩, fun a z => (by cases z), of_decide_eq_true h2⟩
    · unfold Su85Neutral.asked at h1
      rw [Bool.and_eq_true] at h1
      have h3 := List.all_eq_true.mp h1.2
      exact h3 _ (List.mem_map.mpr ⟨_, List.mem_map.mpr ⟨c, hc, rfl⟩, rfl⟩)
    · rw [List.nil_append]
      unfold PySu85.answers PySu85.calls
      rw [e]; rfl
theorem Mid.stop {ns : List Int} {place : Nat} {o : Option Abs} {out : List Int} (M : Mid ns place o out) (h : ns.length ≤ place) : PySu85.answers ns = out := by
  obtain ⟨f, cs, h1, h2, h3⟩ := M.ex
  rw [List.drop_eq_nil_of_le h, calls_nil] at h1
  have e : cs = [] := (Option.some.inj h1).symm
  subst e
  rw [h3]; show out ++ [] = out; rw [List.append_nil]
/-- the next call -/
theorem Mid.next {ns : List Int} {place : Nat} {o : Option Abs} {out : List Int} (M : Mid ns place o out) (h : place < ns.length) : ∃ (p : Int) (args : List Int) (S Z : Nat), ns[place]? = some p ∧ (∃ n : Nat, n < 21 ∧ p = (n : Int)) ∧ Su85Neutral.asked1 (p :: args) = true ∧
    ((isRow p = false ∧ S = place + 1 ∧ sizesN[p.toNat]? = some Z) ∨ (isRow p = true ∧ S = place + 2 ∧ ns[place + 1]? = some (Z : Int))) ∧ S + Z ≤ ns.length ∧ args = (ns.drop S).take Z ∧
    (∃ rest, PySu85.answers ns = (out ++ [((Su85Neutral.step o (p :: args)).2.length : Int)] ++ (Su85Neutral.step o (p :: args)).2) ++ rest) ∧
    (Begun (Su85Neutral.step o (p :: args)).1 → Mid ns (S + Z) (Su85Neutral.step o (p :: args)).1 (out ++ [((Su85Neutral.step o (p :: args)).2.length : Int)] ++ (Su85Neutral.step o (p :: args)).2)) := by
  obtain ⟨f, cs, h1, h2, h3⟩ := M.ex
  rw [List.drop_eq_getElem_cons h] at h1
  obtain ⟨g, args, rest, c, cs', rfl, h4, hd, hw⟩ := calls_step h1
  have ha := h2 c (List.mem_cons_self ..)
  rw [hw] at ha
  have e3 : PySu85.answers ns = (out ++ [((Su85Neutral.step o (ns[place] :: args)).2.length : Int)] ++ (Su85Neutral.step o (ns[place] :: args)).2) ++ PyFlat.told (PyFlat.played stepF (Su85Neutral.step o (ns[place] :: args)).1 (cs'.map PySu85.whole)) := by
    rw [h3, List.map_cons]
    show out ++ PyFlat.told ((stepF o (PySu85.whole c)).2 :: PyFlat.played stepF (stepF o (PySu85.whole c)).1 (cs'.map PySu85.whole)) = _
    have e : stepF o (PySu85.whole c) = Su85Neutral.step o (ns[place] :: args) := by show Su85Neutral.step o ((PySu85.whole c).headD []) = _; rw [hw]
    rw [told_cons, e]
    simp [List.append_assoc]
  have fin : ∀ S Z : Nat, rest = ns.drop (S + Z) → Begun (Su85Neutral.step o (ns[place] :: args)).1 → Mid ns (S + Z) (Su85Neutral.step o (ns[place] :: args)).1 (out ++ [((Su85Neutral.step o (ns[place] :: args)).2.length : Int)] ++ (Su85Neutral.step o (ns[place] :: args)).2) := fun S Z er hb =>
    ⟨⟨g, cs', by rw [← er]; exact h4, fun c' hc' => h2 c' (List.mem_cons_of_mem _ hc'), e3⟩, hb, M.short⟩
  cases hr : isRow ns[place] with
  | false =>
    obtain ⟨n, k1, k2, k3, k4⟩ := hd.plain hr
    rw [List.length_drop] at k2
    exact ⟨ns[place], args, place + 1, n, List.getElem?_eq_getElem h, hd.num, ha, .inl ⟨hr, rfl, k1⟩, by omega, k3, ⟨_, e3⟩, fin (place + 1) n (by rw [k4, List.drop_drop])⟩
  | true =>
    obtain ⟨m, r', k1, k2, k3, k4⟩ := hd.row hr
    have e5 : ns[place + 1]? = some (m : Int) := by
      have := congrArg (fun l => l[0]?) k1
      simpa [List.getElem?_drop] using this
    have e6 : r' = ns.drop (place + 2) := by
      have := congrArg (List.drop 1) k1
      rw [List.drop_drop] at this
      exact this.symm
    subst e6
    rw [List.length_drop] at k2
    have e7 : place + 1 < ns.length := (List.getElem?_eq_some_iff.mp e5).1
    exact ⟨ns[place], args, place + 2, m, List.getElem?_eq_getElem h, hd.num, ha, .inr ⟨hr, rfl, e5⟩, by omega, k3, ⟨_, e3⟩, fin (place + 2) m (by rw [k4, List.drop_drop])⟩
theorem in_row : ∀ n : Fin 21, inV (V.int ((n.val : Nat) : Int)) (iv [8, 9, 16]) = isRow ((n.val : Nat) : Int) := by decide
theorem cut_ints (ns : List Int) {S Z : Nat} (h : S + Z ≤ ns.length) : cutV (ns.map V.int) (some (S : Int)) (some ((S : Int) + (Z : Int))) = ((ns.drop S).take Z).map V.int := by
  unfold cutV
  rw [show (S : Int) + (Z : Int) = ((S + Z : Nat) : Int) from rfl, HT.sIx_nat, HT.sIx_nat, List.length_map, Nat.min_eq_left (show S ≤ ns.length by omega), Nat.min_eq_left h, show S + Z - S = Z by omega, List.map_take, List.map_drop]

section
variable {P : Program} {w : World} {K : PySem.W.Frag} {mg : Str → Option Value} {base : Heap}
def spAns (K : PySem.W.Frag) : Sp := fun vs H Q _ => ∃ (c : Addr) (ns : List Int), vs = [.ref c] ∧ SqL K H c (ns.map V.int) ∧ ns.length ≤ 6400 ∧ PySu85.answers_asked ns = true ∧ ∀ (H' : Hp) (p : Addr), H' p = some (.lst ((PySu85.answers ns).map V.int)) → Q (.ref p) H'
abbrev nAns : List Str := ["calls", "store", "told", "place", "number", "start", "size", "answer"]
theorem scAns : FnScope nAns ["calls"] (defScope sAnswers) := ⟨rfl, rfl, rfl, by decide +kernel, rfl, by decide +kernel, by decide +kernel⟩
def mAns (n : Nat) (σ : List (Option V)) (_ : Hp) : Nat := n - numOf (σ.getD 3 none)
/-- between two turns: what stands there -/
structure Turn3 (K : PySem.W.Frag) (CS : Addr) (H H' : Hp) (c p td : Addr) (ns : List Int) (place : Nat) (o : Option Abs) (out : List Int) : Prop where
  same : Same H H'
  mid : Mid ns place o out
  le : place ≤ ns.length
  told : H' td = some (.lst (out.map V.int))
  st : ∃ pn pf, StoreAt CS H' p pn pf (absOf o) ∧ H pn = none ∧ H pf = none ∧ td ≠ pn ∧ td ≠ pf
theorem ok_answers {f fi fa CB CS aS aR : Addr} {fd fdi fda : FuncData} {k : Nat} (F : Fun K "answers" "answers" sAnswers f fd) (T : TxtA K mg CB CS aS aR) (M : Mk K CS fi) (FI : Fun K "__init__" "Store.__init__" sStoreInit fi fdi) (bi : Binds K fdi ["self"] [])
    (GA : FnOk P w K mg base CX0 (k + 2) fa fda ["store", "number", "given"] (spAC K CS 21)) (ka : PySem.W.keepIn K (.ref fa) = true) (ma : mg "answer_call" = some (.ref fa)) (ba : Binds K fda ["store", "number", "given"] []) :
    FnOk P w K mg base CX0 (k + 3) f fd ["calls"] (spAns K) := by
  have GI : FnOk P w K mg base CX0 1 fi fdi ["self"] (spStoreInit CS) := ok_storeInit FI T.toTxtS
  refine F.ok scAns (fun vs H Q E h => ?_) (fun cdv A outer s H vs Q E hr h => ?_)
  · obtain ⟨c, ns, rfl, _⟩ := h
    rfl
  · obtain ⟨c, ns, rfl, hc, hlen, hask, q⟩ := h
    -- the rest of a turn, behind the if
    have tail : ∃ t, PSs (cxOf CX0 P w K mg base nAns "answers" (defScope sAnswers) f cdv A outer s H E).nox ((whileBody ((defBody sAnswers).getD 3 (.Pass ⟨0, 0, 0, 0⟩))).drop 4) t ∧
        ∀ (D : Ends) (H' : Hp) (p td : Addr) (place S Z : Nat) (o : Option Abs) (out : List Int) (num : Int) (args : List Int) (v7 : Option V), H p = none → H td = none → Turn3 K CS H H' c p td ns place o out → place < S → S + Z ≤ ns.length → args = (ns.drop S).take Z → (∃ n : Nat, n < 21 ∧ num = (n : Int)) → Su85Neutral.asked1 (num :: args) = true →
          (∃ rest, PySu85.answers ns = (out ++ [((Su85Neutral.step o (num :: args)).2.length : Int)] ++ (Su85Neutral.step o (num :: args)).2) ++ rest) →
          (Begun (Su85Neutral.step o (num :: args)).1 → Mid ns (S + Z) (Su85Neutral.step o (num :: args)).1 (out ++ [((Su85Neutral.step o (num :: args)).2.length : Int)] ++ (Su85Neutral.step o (num :: args)).2)) →
          (∀ (H2 : Hp) (o2 : Option Abs) (out2 : List Int) (v7 : Option V), Turn3 K CS H H2 c p td ns (S + Z) o2 out2 → D.nx [some (.ref c), some (.ref p), some (.ref td), some (.int ((S + Z : Nat) : Int)), some (.int num), some (.int (S : Int)), some (.int (Z : Int)), v7] H2) →
          t D [some (.ref c), some (.ref p), some (.ref td), some (.int (place : Int)), some (.int num), some (.int (S : Int)), some (.int (Z : Int)), v7] H' := by
      refine ⟨_, pss_cons (ps_set (i := 7) scAns.nd rfl (Or.inl rfl) (pe_call GA hr rfl ma ka ba .nil pass0 (pa_cons (pv 1) (pa_cons (pv 4) (pa_cons (pe_slice sl_list (pv 0) (po_some (pv 5)) (po_some (pe_op op_add (pv 5) (pv 6)))) pa_nil)))))
        (pss_cons (ps_expr (pe_bm PySem.F.plainAttrs_list PySem.F.slot_list_append PySem.F.type_list_append mt_append (pv 2) (pa_cons (pe_callB call_len_seq rfl T.len PySem.boot_len (pa_cons (pv 7) pa_nil)) pa_nil)))
        (pss_cons (ps_expr (pe_bm PySem.F.plainAttrs_list PySem.F.slot_list_extend PySem.F.type_list_extend mt_extend (pv 2) (pa_cons (pv 7) pa_nil)))
        (pss_one (ps_set (i := 3) scAns.nd rfl (Or.inl rfl) (pe_op op_add (pv 5) (pv 6)))))), ?_⟩
      intro D H' p td place S Z o out num args v7 hp0 htd0 Tn hpl hSZ hargs hnum hasked hans hmid hD
      obtain ⟨pn, pf, St, fn, ff, n1, n2⟩ := Tn.st
      refine ⟨_, rfl, _, rfl, _, rfl, _, rfl, _, rfl, _, rfl, _, rfl, _, _, rfl, rfl, _, rfl, c, _, rfl, Tn.same.seq hc, fun g hg => ?_⟩
      rw [cut_ints ns hSZ, ← hargs]
      have s1 : Same H' (upd H' g (.lst (args.map V.int))) := Same.upd (Same.refl _) hg
      have hg1 : upd H' g (.lst (args.map V.int)) g = some (.lst (args.map V.int)) := upd_same
      generalize upd H' g (.lst (args.map V.int)) = H1 at s1 hg1 ⊢
      refine ⟨p, pn, pf, g, o, num, args, rfl, St.same s1, Tn.mid.begun, SqL.of hg1, hnum, hasked, fun H2 r pn' pf' St2 hB2 hr2 hr0 e1 e2 n3 n4 fr => ?_⟩
      have hsz : (out ++ [((Su85Neutral.step o (num :: args)).2.length : Int)] ++ (Su85Neutral.step o (num :: args)).2).length ≤ 10000000 := by
        obtain ⟨rest, er⟩ := hans
        have := Tn.mid.short
        rw [er, List.length_append] at this
        omega
      rw [List.length_append, List.length_append] at hsz
      have hmid2 := hmid hB2
      generalize (Su85Neutral.step o (num :: args)).1 = o2 at St2 hB2 hmid2
      generalize (Su85Neutral.step o (num :: args)).2 = ans at hr2 hsz hmid2
      obtain ⟨dx, hpi⟩ := St.ins
      have hsl : (10000000 : Nat) < sizeLine := by decide
      have ntp : td ≠ p := ne_of Tn.told hpi (by intro z; cases z)
      have htd2 : H2 td = some (.lst (out.map V.int)) := fr td _ (s1 _ _ Tn.told) ntp n1 n2
      have nrt : r ≠ td := (ne_of_none (s1 _ _ Tn.told) hr0).symm
      have f2 : ∀ {x y : Addr}, H x = none → (y = x ∨ H1 y = none) → H y = none := fun hx h => h.elim (fun e => by rw [e]; exact hx) fun h => (Tn.same.trans s1).free h
      have t2 : ∀ {x y : Addr}, td ≠ x → (y = x ∨ H1 y = none) → td ≠ y := fun hx h => h.elim (fun e => by rw [e]; exact hx) fun h => ne_of_none (s1 _ _ Tn.told) h
      have sm2 : Same H H2 := fun b ob hb => fr b ob (s1 _ _ (Tn.same _ _ hb)) (ne_of_none hb hp0) (ne_of_none hb fn) (ne_of_none hb ff)
      refine ⟨_, rfl, .inl ⟨rfl, _, SqL.of htd2⟩, _, rfl, r, _, rfl, .inl (SqL.of hr2), td, _, _, rfl, rfl, htd2, by rw [List.length_map]; omega, ?_⟩
      have htd3 : upd H2 td (.lst (out.map V.int ++ [V.int (((ans.map V.int).length : Nat) : Int)])) td = some (.lst (out.map V.int ++ [V.int (((ans.map V.int).length : Nat) : Int)])) := upd_same
      refine ⟨_, rfl, .inl ⟨rfl, _, SqL.of htd3⟩, _, rfl, td, r, _, _, rfl, rfl, htd3, by rw [upd_ne nrt]; exact hr2, ?_, ?_⟩
      · rw [List.length_append, List.length_map, List.length_map]
        simp only [List.length_cons, List.length_nil] at hsz ⊢
        omega
      rw [upd_upd]
      refine ⟨_, rfl, _, rfl, _, _, rfl, rfl, ?_⟩
      have St3 : StoreAt CS (upd H2 td (.lst (out.map V.int ++ [V.int (((ans.map V.int).length : Nat) : Int)] ++ ans.map V.int))) p pn' pf' (absOf o2) :=
        ⟨let ⟨d2, h2⟩ := St2.ins; ⟨d2, by rw [upd_ne ntp.symm]; exact h2⟩, by rw [upd_ne (t2 n1 e1).symm]; exact St2.n, by rw [upd_ne (t2 n2 e2).symm]; exact St2.f, St2.ne, St2.good⟩
      refine hD _ o2 _ _ ⟨Same.upd sm2 htd0, hmid2, hSZ, ?_, pn', pf', St3, f2 fn e1, f2 ff e2, t2 n1 e1, t2 n2 e2⟩
      rw [upd_same, List.map_append, List.map_append, List.length_map]; rfl
    obtain ⟨tT, hT, kT⟩ := tail
    refine ⟨_, pss_cons (ps_set (i := 1) scAns.nd rfl (Or.inl rfl) (pe_make0 M GI (hr.mono (by omega)) rfl T.mgS bi .nil pass0))
      (pss_cons (ps_set (i := 2) scAns.nd rfl (Or.inl rfl) (pe_lst pa_nil))
      (pss_cons (ps_set (i := 3) scAns.nd rfl (Or.inl rfl) pe_int)
      (pss_cons (ps_while PassesOwn.never (pt_cmpR op_lt (pv 3) (pe_callB call_len_seq rfl T.len PySem.boot_len (pa_cons (pv 0) pa_nil)) (nomark _))
        (pss_cons (ps_set (i := 4) scAns.nd rfl (Or.inl rfl) (pe_ix ix_list (pv 0) (pv 3) (fun _ _ => rfl)))
        (pss_cons (ps_set (i := 5) scAns.nd rfl (Or.inl rfl) (pe_op op_add (pv 3) pe_int))
        (pss_cons (ps_set (i := 6) scAns.nd rfl (Or.inl rfl) (pe_ix ix_tup (pe_glob (v := .ref aS) rfl T.sizes rfl) (pv 4) (fun _ _ => rfl)))
        (pss_cons (ps_if (pt_cmpR op_in_seq (pv 4) (pe_glob (v := .ref aR) rfl T.withRow rfl) (by with_unfolding_all rfl))
          (pss_cons (ps_set (i := 6) scAns.nd rfl (Or.inl rfl) (pe_ix ix_list (pv 0) (pv 5) (fun _ _ => rfl))) (pss_one (ps_set (i := 5) scAns.nd rfl (Or.inl rfl) (pe_op op_add (pv 5) pe_int)))) pss_nil) hT)))))
      (pss_one (ps_ret (pv 2)))))), ?_⟩
    intro p dx np nd ne
    refine ⟨p, dx, rfl, upd_same, fun H1 pn pf St fn ff fr => ⟨rfl, ?_⟩⟩
    have s1 : Same H H1 := Same.made np nd fr
    have fn : H pn = none := by
      cases e : H pn with
      | none => rfl
      | some o => rw [upd_ne (ne_of_none e np), upd_ne (ne_of_none e nd), e] at fn; cases fn
    have ff : H pf = none := by
      cases e : H pf with
      | none => rfl
      | some o => rw [upd_ne (ne_of_none e np), upd_ne (ne_of_none e nd), e] at ff; cases ff
    refine ⟨Nat.zero_le _, fun td htd => ?_⟩
    have htd0 : H td = none := s1.free htd
    have T0 : Turn3 K CS H (upd H1 td (.lst [])) c p td ns 0 none [] := ⟨Same.upd s1 htd0, Mid.start hask, Nat.zero_le _, upd_same, pn, pf, St.same (Same.upd (Same.refl _) htd), fn, ff, (ne_of_none St.n htd).symm, (ne_of_none St.f htd).symm⟩
    refine while_by (fun σ H' => ∃ (place : Nat) (o : Option Abs) (out : List Int) (v4 v5 v6 v7 : Option V), σ = [some (.ref c), some (.ref p), some (.ref td), some (.int (place : Int)), v4, v5, v6, v7] ∧ Turn3 K CS H H' c p td ns place o out) (mAns ns.length) ⟨0, none, [], none, none, none, none, rfl, T0⟩ ?_ ?_
    · rintro σ H' ⟨place, o, out, v4, v5, v6, v7, rfl, Tn⟩
      refine ⟨_, rfl, _, rfl, c, _, rfl, .inl (Tn.same.seq hc), _, _, rfl, rfl, _, rfl, ite2 (fun h1 => ?_) (fun h1 => ?_)⟩
      · have h1 : (place : Int) < ((ns.map V.int).length : Int) := of_decide_eq_true h1
        rw [List.length_map] at h1
        obtain ⟨num, args, S, Z, k1, k2, k3, k4, k5, k6, k7, k8⟩ := Tn.mid.next (by omega)
        obtain ⟨nn, hnn, enn⟩ := k2
        have hs : ∃ z : Nat, sizesN[nn]? = some z := ⟨_, List.getElem?_eq_getElem (show nn < sizesN.length from hnn)⟩
        obtain ⟨z, hz⟩ := hs
        refine ⟨_, rfl, _, rfl, c, _, _, _, rfl, rfl, Tn.same.seq hc, at_of (j := place) rfl (by rw [List.getElem?_map, k1]; rfl), _, rfl, _, _, rfl, rfl, _, rfl, aS, _, _, _, rfl, rfl, T.sizesT _, at_of (j := nn) enn (iv_get hz), ?_⟩
        refine ⟨_, rfl, aR, _, rfl, .inr (T.rowT _), rfl, rfl, _, rfl, ?_⟩
        have ein : inV (V.int num) (iv [8, 9, 16]) = isRow num := by rw [enn]; exact in_row ⟨nn, hnn⟩
        have turn : ∀ (H2 : Hp) (o2 : Option Abs) (out2 : List Int) (w4 w5 w6 w7 : Option V), place < S → Turn3 K CS H H2 c p td ns (S + Z) o2 out2 →
            (∃ (place : Nat) (o : Option Abs) (out : List Int) (v4 v5 v6 v7 : Option V), [some (V.ref c), some (V.ref p), some (V.ref td), some (V.int ((S + Z : Nat) : Int)), w4, w5, w6, w7] = [some (V.ref c), some (V.ref p), some (V.ref td), some (V.int (place : Int)), v4, v5, v6, v7] ∧ Turn3 K CS H H2 c p td ns place o out) ∧
            mAns ns.length [some (V.ref c), some (V.ref p), some (V.ref td), some (V.int ((S + Z : Nat) : Int)), w4, w5, w6, w7] H2 < mAns ns.length [some (V.ref c), some (V.ref p), some (V.ref td), some (V.int (place : Int)), v4, v5, v6, v7] H' := fun H2 o2 out2 w4 w5 w6 w7 hlt T2 =>
          ⟨⟨S + Z, o2, out2, w4, w5, w6, w7, rfl, T2⟩, by show ns.length - ((S + Z : Nat) : Int).toNat < ns.length - (place : Int).toNat; omega⟩
        rcases k4 with ⟨r1, eS, r3⟩ | ⟨r1, eS, r3⟩
        · refine ite2 (fun h2 => ?_) (fun _ => ?_)
          · have h2 : inV (V.int num) (iv [8, 9, 16]) = true := h2
            rw [ein, r1] at h2; cases h2
          · have ez : z = Z := by
              rw [enn, Int.toNat_natCast, hz] at r3
              exact Option.some.inj r3
            subst ez eS
            exact kT _ H' p td place (place + 1) z o out num args v7 np htd0 Tn (by omega) k5 k6 ⟨nn, hnn, enn⟩ k3 k7 k8 fun H2 o2 out2 w7 T2 => turn H2 o2 out2 _ _ _ _ (by omega) T2
        · refine ite2 (fun _ => ?_) (fun h2 => ?_)
          · subst eS
            refine ⟨_, rfl, _, rfl, c, _, _, _, rfl, rfl, Tn.same.seq hc, at_of (j := place + 1) rfl (by rw [List.getElem?_map, r3]; rfl), _, rfl, _, _, rfl, rfl, ?_⟩
            exact kT _ H' p td place (place + 2) Z o out num args v7 np htd0 Tn (by omega) k5 k6 ⟨nn, hnn, enn⟩ k3 k7 k8 fun H2 o2 out2 w7 T2 => turn H2 o2 out2 _ _ _ _ (by omega) T2
          · have h2 : ¬ inV (V.int num) (iv [8, 9, 16]) = true := h2
            exact absurd (ein.trans r1) h2
      · have h1 : ¬ (place : Int) < ((ns.map V.int).length : Int) := fun z => h1 (decide_eq_true z)
        rw [List.length_map] at h1
        have e := Tn.mid.stop (by omega)
        exact ⟨_, rfl, q H' td (by rw [e]; exact Tn.told)⟩
    · rintro σ H' Q1 Q2 hQ ⟨v, e1, v2, e2, p2, xs2, e5, h7, i3, j3, e9, e10, k', e11, q1⟩
      exact ⟨v, e1, v2, e2, p2, xs2, e5, h7, i3, j3, e9, e10, k', e11, hQ _ _ q1⟩
end
end OK
end
section
set_option Elab.async false
set_option linter.all false
set_option maxRecDepth 100000
set_option maxHeartbeats 4000000
namespace OK
open PySem PySem.Spec PyProof.Rows L2
open Su85 (Abs)
/-! ### a call of what an expression gives -/
def tCallX (okf : Addr → Sp → Prop) (tf : TE) (t : TA) : TE := fun σ H Q => tf σ H fun v H1 => ∃ (f : Addr) (sp : Sp), v = .ref f ∧ okf f sp ∧ t σ H1 fun vs H2 => sp (vs ++ []) H2 Q E0
theorem pe_callX {X : Cx} {func e : Expr} {es : List Expr} {pos : Pos} {tf : TE} {t : TA} {okf : Addr → Sp → Prop} (hfn : PE X func tf)
    (hF : ∀ f sp, okf f sp → ∃ (k : Nat) (fd : FuncData) (ps : List Str), FnOk X.prog X.w X.K X.mg X.base CX0 k f fd ps sp ∧ Room k X.A ∧ PySem.W.keepIn X.K (.ref f) = true ∧ Binds X.K fd ps [])
    (ha : PA X (e :: es) t)
    (hev : eval (.Call func (e :: es) [] pos) X.env = (do callWith pos (← eval func X.env) [] (backTo pos (starEach (e :: es) X.env)) (backToKw pos (keywordEach [] X.env))) := by rfl)
    (he : starEach (e :: es) X.env = (false, eval e X.env) :: starEach es X.env := by rfl) (hpl : (backTo pos (starEach es X.env)).any (·.1) = false := by rfl) :
    PE X (.Call func (e :: es) [] pos) (tCallX okf tf t) := by
  intro pins s σ H Q I h
  refine Call_ (thn (hfn pins s σ H _ I h) fun fv s1 ⟨v, H1, I1, rv, f, sp, ev, hok, q⟩ => ?_) hev
  subst ev
  obtain rfl : fv = Value.ref f := rv
  obtain ⟨k, fd, ps, G, hr, hk, hb⟩ := hF f sp hok
  refine PySem.W.callWith_K (h₀ := X.base) I.ok.mod.kin hk (thn (ha pos pins s1 σ H1 _ I1 q) fun us s2 ⟨vs, H2, I2, r, q2⟩ => ⟨I2.kIn, ?_⟩) he hpl
  exact run_fn G hr hb .nil pass0 I2 r q2
/-! ### which call a number is -/
def cN (n : Nat) (xs : List Nat) : Su85.Call := match n with
  | 0 => .begin_ (xs.getD 0 0) (xs.getD 1 0)
  | 1 => .need (xs.getD 0 0) (xs.getD 1 0)
  | 2 => .fee (xs.getD 0 0) (xs.getD 1 0)
  | 3 => .keep (xs.getD 0 0)
  | 4 => .least (xs.getD 0 0)
  | 5 => .plan
  | 6 => .last (xs.getD 0 0)
  | 7 => .lasts
  | 8 => .cost xs
  | 9 => .shelf xs
  | 10 => .settled (xs.getD 0 0)
  | 11 => .sure
  | 12 => .each
  | 13 => .once
  | 14 => .would (xs.getD 0 0) (xs.getD 1 0)
  | 15 => .dear (xs.getD 0 0) (xs.getD 1 0)
  | 16 => .together xs
  | 17 => .span (xs.getD 0 0) (xs.getD 1 0)
  | 18 => .rest (xs.getD 0 0)
  | 19 => .sums
  | _ => .state
def okN (n : Nat) (xs : List Nat) : Prop := if isRow (n : Int) = true then xs.length ≤ 14 else xs.length = sizesN.getD n 0
theorem natural_nn {z : Int} (h : Su85Neutral.natural z 32 = true) : 0 ≤ z := by
  unfold Su85Neutral.natural at h
  rw [Bool.and_eq_true] at h
  exact of_decide_eq_true h.1
structure Asked (n : Nat) (xs : List Int) : Prop where
  call : Su85Neutral.callOf ((n : Int) :: xs) = some (cN n (xs.map Int.toNat))
  ok : okN n (xs.map Int.toNat)
  nn : ∀ x ∈ xs, 0 ≤ x
theorem asked_row {xs : List Int} (h : (decide (xs.length ≤ 14) && xs.all fun z => Su85Neutral.natural z 32) = true) : xs.length ≤ 14 ∧ ∀ x ∈ xs, 0 ≤ x := by
  rw [Bool.and_eq_true, List.all_eq_true] at h
  exact ⟨of_decide_eq_true h.1, fun x hx => natural_nn (h.2 x hx)⟩
theorem asked_two {a b : Int} (h : (Su85Neutral.natural a 32 && Su85Neutral.natural b 32) = true) : ∀ x ∈ [a, b], 0 ≤ x := by
  rw [Bool.and_eq_true] at h
  intro x hx
  rcases List.mem_cons.mp hx with rfl | hx
  · exact natural_nn h.1
  · rcases List.mem_cons.mp hx with rfl | hx
    · exact natural_nn h.2
    · cases hx
theorem asked_one {a : Int} (h : Su85Neutral.natural a 32 = true) : ∀ x ∈ [a], 0 ≤ x := by
  intro x hx
  rcases List.mem_cons.mp hx with rfl | hx
  · exact natural_nn h
  · cases hx
theorem asked_is : ∀ {n : Nat} {xs : List Int}, n < 21 → Su85Neutral.asked1 ((n : Int) :: xs) = true → Asked n xs := by
  intro n xs hn h
  match n, hn, xs, h with
  | 8, _, xs, h | 9, _, xs, h | 16, _, xs, h =>
    obtain ⟨h1, h2⟩ := asked_row h
    exact ⟨rfl, by show (xs.map Int.toNat).length ≤ 14; rw [List.length_map]; exact h1, h2⟩
  | 0, _, [a, b], h | 1, _, [a, b], h | 2, _, [a, b], h | 14, _, [a, b], h | 15, _, [a, b], h | 17, _, [a, b], h => exact ⟨rfl, rfl, asked_two h⟩
  | 3, _, [a], h | 4, _, [a], h | 6, _, [a], h | 10, _, [a], h | 18, _, [a], h => exact ⟨rfl, rfl, asked_one h⟩
  | 5, _, [], h | 7, _, [], h | 11, _, [], h | 12, _, [], h | 13, _, [], h | 19, _, [], h | 20, _, [], h => exact ⟨rfl, rfl, fun x hx => by cases hx⟩
  | 0, _, [], h | 1, _, [], h | 2, _, [], h | 14, _, [], h | 15, _, [], h | 17, _, [], h => exact absurd (show false = true from h) (by decide)
  | 3, _, [], h | 4, _, [], h | 6, _, [], h | 10, _, [], h | 18, _, [], h => exact absurd (show false = true from h) (by decide)
  | 0, _, [a], h | 1, _, [a], h | 2, _, [a], h | 14, _, [a], h | 15, _, [a], h | 17, _, [a], h => exact absurd (show false = true from h) (by decide)
  | 5, _, [a], h | 7, _, [a], h | 11, _, [a], h | 12, _, [a], h | 13, _, [a], h | 19, _, [a], h | 20, _, [a], h => exact absurd (show false = true from h) (by decide)
  | 3, _, [a, b], h | 4, _, [a, b], h | 6, _, [a, b], h | 10, _, [a, b], h | 18, _, [a, b], h => exact absurd (show false = true from h) (by decide)
  | 5, _, [a, b], h | 7, _, [a, b], h | 11, _, [a, b], h | 12, _, [a, b], h | 13, _, [a, b], h | 19, _, [a, b], h | 20, _, [a, b], h => exact absurd (show false = true from h) (by decide)
  | 0, _, _ :: _ :: _ :: _, h | 1, _, _ :: _ :: _ :: _, h | 2, _, _ :: _ :: _ :: _, h | 14, _, _ :: _ :: _ :: _, h | 15, _, _ :: _ :: _ :: _, h | 17, _, _ :: _ :: _ :: _, h => exact absurd (show false = true from h) (by decide)
  | 3, _, _ :: _ :: _ :: _, h | 4, _, _ :: _ :: _ :: _, h | 6, _, _ :: _ :: _ :: _, h | 10, _, _ :: _ :: _ :: _, h | 18, _, _ :: _ :: _ :: _, h => exact absurd (show false = true from h) (by decide)
  | 5, _, _ :: _ :: _ :: _, h | 7, _, _ :: _ :: _ :: _, h | 11, _, _ :: _ :: _ :: _, h | 12, _, _ :: _ :: _ :: _, h | 13, _, _ :: _ :: _ :: _, h | 19, _, _ :: _ :: _ :: _, h | 20, _, _ :: _ :: _ :: _, h => exact absurd (show false = true from h) (by decide)
  | n + 21, hn, _, _ => exact absurd hn (by omega)
theorem ints_iv {xs : List Int} (h : ∀ x ∈ xs, 0 ≤ x) : xs.map V.int = iv (xs.map Int.toNat) := (iv_toNat h).symm
/-- an answer, as the list that is told -/
theorem ans_told (y : Su85.Ans) : (y.value :: Su85Neutral.outs y.out).map V.int = ansV y := by
  show V.int y.value :: (Su85Neutral.outs y.out).map V.int = V.int y.value :: iv y.out
  rw [iv_int]; rfl
theorem step_some {n : Nat} {xs : List Int} {a : Abs} (A : Asked n xs) : Su85Neutral.step (some a) ((n : Int) :: xs) = (some (Su85.does a (cN n (xs.map Int.toNat))).1, (Su85.does a (cN n (xs.map Int.toNat))).2.value :: Su85Neutral.outs (Su85.does a (cN n (xs.map Int.toNat))).2.out) := by
  unfold Su85Neutral.step
  rw [A.call]; rfl
theorem step_none {n : Nat} {xs : List Int} (A : Asked n xs) (h : 0 < n) (hn : n < 21) : Su85Neutral.step none ((n : Int) :: xs) = (none, [-11]) := by
  unfold Su85Neutral.step
  rw [A.call]
  match n, h, hn with
  | 1, _, _ | 2, _, _ | 3, _, _ | 4, _, _ | 5, _, _ | 6, _, _ | 7, _, _ | 8, _, _ | 9, _, _ | 10, _, _ | 11, _, _ | 12, _, _ | 13, _, _ | 14, _, _ | 15, _, _ | 16, _, _ | 17, _, _ | 18, _, _ | 19, _, _ | 20, _, _ => rfl
theorem does_begin (a : Abs) (n k : Nat) : Su85.does a (.begin_ n k) = if n = 0 ∨ 10 < n ∨ 100 < k then (a, Su85.no (-22)) else (Su85.new n k, Su85.no 0) := rfl
theorem step_begin {xs : List Int} (A : Asked 0 xs) : (Su85Neutral.step none ((0 : Int) :: xs)).2 = (Su85.does ⟨0, [], []⟩ (cN 0 (xs.map Int.toNat))).2.value :: Su85Neutral.outs (Su85.does ⟨0, [], []⟩ (cN 0 (xs.map Int.toNat))).2.out ∧
    absOf (Su85Neutral.step none ((0 : Int) :: xs)).1 = (Su85.does ⟨0, [], []⟩ (cN 0 (xs.map Int.toNat))).1 ∧ Begun (Su85Neutral.step none ((0 : Int) :: xs)).1 := by
  have e : Su85Neutral.step none ((0 : Int) :: xs) = ((Su85.step none (cN 0 (xs.map Int.toNat))).1, (Su85.step none (cN 0 (xs.map Int.toNat))).2.value :: Su85Neutral.outs (Su85.step none (cN 0 (xs.map Int.toNat))).2.out) := by
    have := A.call
    unfold Su85Neutral.step
    rw [show Su85Neutral.callOf ((0 : Int) :: xs) = _ from this]
  rw [e]
  show _ ∧ _ ∧ _
  generalize (xs.map Int.toNat).getD 0 0 = n at *
  have e2 : cN 0 (xs.map Int.toNat) = .begin_ ((xs.map Int.toNat).getD 0 0) ((xs.map Int.toNat).getD 1 0) := rfl
  rw [e2]
  generalize (xs.map Int.toNat).getD 0 0 = n at *
  generalize (xs.map Int.toNat).getD 1 0 = k at *
  by_cases h : n = 0 ∨ 10 < n ∨ 100 < k
  · have e3 : Su85.step none (.begin_ n k) = (none, Su85.no (-22)) := by
      show (if (Su85.does (Su85.new 1 0) (.begin_ n k)).2.value < 0 then none else some (Su85.does (Su85.new 1 0) (.begin_ n k)).1, (Su85.does (Su85.new 1 0) (.begin_ n k)).2) = _
      rw [does_begin, if_pos h]; rfl
    rw [e3, does_begin, if_pos h]
    exact ⟨rfl, rfl, fun a z => by cases z⟩
  · have e3 : Su85.step none (.begin_ n k) = (some (Su85.new n k), Su85.no 0) := by
      show (if (Su85.does (Su85.new 1 0) (.begin_ n k)).2.value < 0 then none else some (Su85.does (Su85.new 1 0) (.begin_ n k)).1, (Su85.does (Su85.new 1 0) (.begin_ n k)).2) = _
      rw [does_begin, if_neg h]; rfl
    rw [e3, does_begin, if_neg h]
    refine ⟨rfl, rfl, fun a z => ?_⟩
    cases z
    show 0 < (List.replicate n 0).length
    rw [List.length_replicate]
    omega
/-- a begun state stays begun -/
theorem does_begun {a : Abs} (h : 0 < a.needs.length) (c : Su85.Call) : 0 < (Su85.does a c).1.needs.length := by
  cases c <;> simp only [Su85.does] <;> (repeat' split) <;> first | exact h | (show 0 < (a.needs.set _ _).length; rw [List.length_set]; exact h) | (show 0 < (List.replicate _ 0).length; rw [List.length_replicate]; omega)
end OK
end
section
set_option Elab.async false
set_option linter.all false
set_option maxRecDepth 100000
set_option maxHeartbeats 4000000
namespace OK
open PySem PySem.Spec PyProof.Rows L2
open Su85 (Abs)
section
variable {P : Program} {w : World} {K : PySem.W.Frag} {mg : Str → Option Value} {base : Heap}
/-- the table of calls, m of them -/
structure CallsOk (P : Program) (w : World) (K : PySem.W.Frag) (mg : Str → Option Value) (base : Heap) (CS aC : Addr) (fs : List Addr) (m k : Nat) : Prop where
  here : mg "CALLS" = some (.ref aC)
  tup : ∀ H : Hp, SqT K H aC (fs.map V.ref)
  len : fs.length = m
  ok : ∀ n, n < m → ∃ (f : Addr) (fd : FuncData), fs[n]? = some f ∧ FnOk P w K mg base CX0 k f fd ["store", "given"] (spDo K CS (cN n) (okN n) (decide (0 < n))) ∧ PySem.W.keepIn K (.ref f) = true ∧ Binds K fd ["store", "given"] []
abbrev nAC : List Str := ["store", "number", "given"]
theorem scAC : FnScope nAC ["store", "number", "given"] (defScope sAC) := ⟨rfl, rfl, rfl, by decide +kernel, rfl, by decide +kernel, by decide +kernel⟩
theorem ok_ac {f CB CS aC : Addr} {fd : FuncData} {fs : List Addr} {m k : Nat} (hm21 : m ≤ 21) (F : Fun K "answer_call" "answer_call" sAC f fd) (T : TxtS K mg CB CS) (C : CallsOk P w K mg base CS aC fs m k) :
    FnOk P w K mg base CX0 (k + 1) f fd ["store", "number", "given"] (spAC K CS m) := by
  refine F.ok scAC (fun vs H Q E h => ?_) (fun cdv A outer s H vs Q E hr h => ?_)
  · obtain ⟨p, pn, pf, g, o, num, xs, rfl, _⟩ := h
    rfl
  · obtain ⟨p, pn, pf, g, o, num, xs, rfl, S, hB, hg, ⟨n, hn, rfl⟩, hask, q⟩ := h
    obtain ⟨dx, hp⟩ := S.ins
    have AK := asked_is (by omega) hask
    have tail : ∃ t, PSs (cxOf CX0 P w K mg base nAC "answer_call" (defScope sAC) f cdv A outer s H E).nox ((defBody sAC).drop 1) t ∧ ((0 < n → 0 < (absOf o).needs.length) → ∀ D : Ends, D.rt = Q → t D [some (V.ref p), some (V.int (n : Int)), some (V.ref g)] H) := by
      refine ⟨_, pss_one (ps_ret (pe_callX (okf := fun f sp => ∃ n, n < m ∧ fs[n]? = some f ∧ sp = spDo K CS (cN n) (okN n) (decide (0 < n))) (pe_ix ix_tup (pe_glob (v := .ref aC) rfl C.here rfl) (pv 1) (fun _ _ => rfl))
        (fun f sp ⟨n, h1, h2, h3⟩ => by
          obtain ⟨f', fd', e1, G, kp, bd⟩ := C.ok n h1
          rw [h2] at e1
          cases e1
          subst h3
          exact ⟨k, fd', _, G, hr, kp, bd⟩) (pa_cons (pv 0) (pa_cons (pv 2) pa_nil)))), ?_⟩
      intro hb D hD
      obtain ⟨fn, fdn, e1, _⟩ := C.ok n hn
      refine ⟨_, rfl, aC, _, _, _, rfl, rfl, C.tup H, at_of (j := n) rfl (by rw [List.getElem?_map, e1]; rfl), fn, _, rfl, ⟨n, hn, e1, rfl⟩, _, rfl, _, rfl, ?_⟩
      rw [hD]
      refine ⟨p, pn, pf, g, absOf o, xs.map Int.toNat, rfl, S, fun h => hb (of_decide_eq_true h), by rw [← ints_iv AK.nn]; exact hg, AK.ok, fun H' r pn' pf' S' hr' h0 e2 e3 n1 n2 fr => ?_⟩
      cases o with
      | some a =>
        have es := step_some (a := a) AK
        refine q H' r pn' pf' ?_ ?_ ?_ h0 e2 e3 n1 n2 fr
        · rw [es]; exact S'
        · rw [es]
          intro a' ea
          cases ea
          exact does_begun (hB a rfl) _
        · rw [es, hr']
          exact congrArg (fun l => some (HO.lst l)) (ans_told _).symm
      | none =>
        have n0 : n = 0 := by
          cases n with
          | zero => rfl
          | succ j => exact absurd (hb (Nat.succ_pos j)) (by show ¬ 0 < 0; decide)
        subst n0
        obtain ⟨b1, b2, b3⟩ := step_begin AK
        refine q H' r pn' pf' ?_ b3 ?_ h0 e2 e3 n1 n2 fr
        · have b2' : absOf (Su85Neutral.step none (((0 : Nat) : Int) :: xs)).1 = _ := b2
          rw [b2']; exact S'
        · have b1' : (Su85Neutral.step none (((0 : Nat) : Int) :: xs)).2 = _ := b1
          rw [b1', hr']
          exact congrArg (fun l => some (HO.lst l)) (ans_told _).symm
    obtain ⟨tT, hT, rest⟩ := tail
    refine ⟨_, pss_cons (ps_if (PW.pt (pw_and (pt_cmpR op_ne (pv 1) (pgI T.mBegin) (nomark _)) (pw_and1 (pt_cmpR op_eq (pe_callB call_len_seq rfl T.len PySem.boot_len (pa_cons (pe_fld (pv 0) rfl) pa_nil)) pe_int (nomark _))))) (pss_one (ps_ret (pe_lst (pa_cons (pgI T.notBegun) pa_nil)))) pss_nil) hT, ?_⟩
    refine ⟨_, rfl, rfl, _, rfl, ?_⟩
    by_cases hn0 : n = 0
    · subst hn0
      exact rest (fun z => absurd z (by decide)) _ rfl
    · have hd : decide (V.int (n : Int) = V.int 0) = false := decide_eq_false fun z => hn0 (by have := V.int.inj z; omega)
      rw [hd]
      refine ⟨_, rfl, p, CS, dx, sf pn pf (absOf o).keep, .ref pn, rfl, hp, T.clS, T.nN, rfl, pn, _, rfl, .inl (SqL.of S.n), rfl, _, rfl, ?_⟩
      rw [iv_len]
      cases o with
      | none =>
        have e := step_none AK (by omega) (by omega)
        rw [e] at q
        exact ⟨(by show 1 ≤ sizeLine; decide), fun r hr0 => q _ r pn pf (S.same (Same.upd (Same.refl H) hr0)) (fun a z => by cases z) upd_same hr0 (.inl rfl) (.inl rfl) (ne_of_none S.n hr0).symm (ne_of_none S.f hr0).symm fun b ob hb _ _ _ => Same.upd (Same.refl H) hr0 b ob hb⟩
      | some a =>
        have hpos : 0 < a.needs.length := hB a rfl
        have hd2 : decide (V.int ((absOf (some a)).needs.length : Int) = V.int 0) = false := decide_eq_false fun z => by
          have := V.int.inj z
          have : ((a.needs.length : Nat) : Int) = 0 := this
          omega
        rw [hd2]
        exact rest (fun _ => hpos) _ rfl
end
end OK
end
section
set_option Elab.async false
set_option linter.all false
set_option maxRecDepth 100000
set_option maxHeartbeats 4000000
namespace OK
open PySem PySem.Spec PyProof.Rows L2
open Su85 (Abs)
/-! ### what the top has written -/
structure FunIn (K : PySem.W.Frag) (mg : Str → Option Value) (x : Str) (st : Stmt) (f : Addr) (fd : FuncData) (ps : List Str) : Prop where
  fn : Fun K x x st f fd
  here : mg x = some (.ref f)
  bd : Binds K fd ps []
  all : ∀ us : List Value, us.length = ps.length → bindArgs fd ⟨us, []⟩ = pure (ps.zip us)
theorem FunIn.kp {K : PySem.W.Frag} {mg : Str → Option Value} {x : Str} {st : Stmt} {f : Addr} {fd : FuncData} {ps : List Str} (F : FunIn K mg x st f fd ps) : PySem.W.keepIn K (.ref f) = true := F.fn.kp
theorem fun_in {K : PySem.W.Frag} {h : Heap} {mg : Str → Option Value} {x : Str} {st : Stmt} {f : Addr} {oc : Value} {od an : Option Addr} {osl : Array (Option Value)} {kV doc pm cdv ct : Value} {ps : List Str} (X : K.In h) (G : h.Ns mainGlobals mg)
    (a : PySem.W.nsIn K mainGlobals x = some (some (.ref f))) (l : K.lookup f = some ⟨oc, od, .func (PySem.W.fnOf x x (defArgs st) (defBody st) (defScope st) .none kV doc pm an cdv ct), osl⟩) (c : PySem.W.codeIn K cdv x = true) (k : PySem.W.keepIn K (.ref f) = true)
    (b : ∀ (kV doc pm : Value) (an : Option Addr) (cdv ct : Value) (us : List Value), us.length = ps.length → bindArgs (PySem.W.fnOf x x (defArgs st) (defBody st) (defScope st) .none kV doc pm an cdv ct) ⟨us, []⟩ = pure (ps.zip us)) :
    FunIn K mg x st f (PySem.W.fnOf x x (defArgs st) (defBody st) (defScope st) .none kV doc pm an cdv ct) ps :=
  ⟨fun_mk l c k, PySem.W.mg_of X G a, (fun_mk l c k).binds b, b kV doc pm an cdv ct⟩
/-- a class with its __init__ -/
structure ClsIn (K : PySem.W.Frag) (mg : Str → Option Value) (x q : Str) (st : Stmt) (C f : Addr) (fd : FuncData) : Prop where
  cl : Cls K C
  mks : Mk K C f
  fn : Fun K "__init__" q st f fd
  here : mg x = some (.ref C)
  bd : Binds K fd ["self"] []
theorem cls_in {K : PySem.W.Frag} {h : Heap} {mg : Str → Option Value} {x q : Str} {st : Stmt} {C f : Addr} {oc : Value} {od an : Option Addr} {osl : Array (Option Value)} {kV doc pm cdv ct : Value} (X : K.In h) (G : h.Ns mainGlobals mg)
    (a : PySem.W.nsIn K mainGlobals x = some (some (.ref C))) (a1 : PySem.W.findIn K (.ref C) "__init__" = some (some (.ref f))) (i1 : PySem.W.isFn K (.ref f) = true)
    (l : K.lookup f = some ⟨oc, od, .func (PySem.W.fnOf "__init__" q (defArgs st) (defBody st) (defScope st) .none kV doc pm an cdv ct), osl⟩) (c : PySem.W.codeIn K cdv q = true) (k : PySem.W.keepIn K (.ref f) = true)
    (pg : PySem.W.plainGet K C Str.empty = true) (hd : PySem.W.hasDictIn K C = true) (po : PySem.W.plainOver K C = true) (sa : PySem.W.findIn K (.ref C) "__setattr__" = some (some (.builtin "object.__setattr__"))) (mk : PySem.W.makesIn K C = true) (kc : PySem.W.keepIn K (.ref C) = true)
    (b : ∀ (kV doc pm : Value) (an : Option Addr) (cdv ct : Value) (us : List Value), us.length = (["self"] : List Str).length → bindArgs (PySem.W.fnOf "__init__" q (defArgs st) (defBody st) (defScope st) .none kV doc pm an cdv ct) ⟨us, []⟩ = pure ((["self"] : List Str).zip us)) :
    ClsIn K mg x q st C f (PySem.W.fnOf "__init__" q (defArgs st) (defBody st) (defScope st) .none kV doc pm an cdv ct) :=
  ⟨⟨pg, hd, po, sa⟩, ⟨mk, a1, i1, kc⟩, fun_mk l c k, PySem.W.mg_of X G a, (fun_mk l c k).binds b⟩
/-- a tuple of the file -/
theorem tup_in {K : PySem.W.Frag} {h : Heap} {mg : Str → Option Value} {x : Str} {a : Addr} {od : Option Addr} {sl : Array (Option Value)} {its : Array Value} {n : Nat} {xs : List V} (X : K.In h) (G : h.Ns mainGlobals mg)
    (e : PySem.W.nsIn K mainGlobals x = some (some (.ref a))) (l : K.lookup a = some ⟨.type "tuple", od, .seq its n, sl⟩) (z : its.size ≤ sizeLine) (v : Vals xs its.toList) : mg x = some (.ref a) ∧ ∀ H : Hp, SqT K H a xs :=
  ⟨PySem.W.mg_of X G e, fun _ => .inr ⟨_, its, n, l, rfl, rfl, z, v⟩⟩
theorem const_in {K : PySem.W.Frag} {h : Heap} {mg : Str → Option Value} {x : Str} {i : Int} {t : Tok} (X : K.In h) (G : h.Ns mainGlobals mg) (e : PySem.W.nsIn K mainGlobals x = some (some (.int i t))) : ∃ t, mg x = some (.int i t) := ⟨t, PySem.W.mg_of X G e⟩
theorem one_of {mg : Str → Option Value} {x : Str} {a b : Addr} (h : mg x = some (.ref a)) (k : mg x = some (.ref b)) : a = b := by
  rw [h] at k
  cases k
  rfl
end OK
end
section
set_option Elab.async false
set_option linter.all false
set_option maxRecDepth 100000
set_option maxHeartbeats 4000000
open PySem PySem.W PyProof.Rows
set_option maxRecDepth 100000 in
set_option maxHeartbeats 0 in
theorem PySem.Challenge.cw_orderkeeping_s01_answers_holds : PySem.Challenge.rw_orderkeeping_s01_answers.Holds := by
  w_on; k_headS; (case hw => exact ⟨[.list [.int 5]], by decide +kernel, by decide +kernel⟩)
  k_fillS
  refine L2.walk_specK (r := PySem.Challenge.rw_orderkeeping_s01_answers) (k := 8) (CX := L2.CX0) (ps := ["calls"]) (sp := OK.spAns) (by decide +kernel) rfl rfl ⟨rfl, by decide, by decide⟩ (fun w h Y => PySem.W.kIn_of Y) ?F ?S (fun _ _ _ _ z => z)
  case F =>
    intro w mg fa h Y KX G hmg
    obtain ⟨C_Best, f_Best, d_Best, I_Best, n_Best_lasts, n_Best_leasts⟩ : ∃ C f fd, OK.ClsIn (L2.KOf KX) mg "Best" "Best.__init__" OK.sBestInit C f fd ∧ L2.NoAttr (L2.KOf KX) C "lasts" ∧ L2.NoAttr (L2.KOf KX) C "leasts" := by
      dsimp only [L2.KOf]
      refine' ⟨_, _, _, OK.cls_in KX G ?a ?a1 ?i1 ?l ?c ?k ?pg ?hd ?po ?sa ?mk ?kc ?b, ?n0, ?n1⟩
      (case a => k_is); (case a1 => k_is); (case i1 => k_is); (case l => k_is); (case c => k_is); (case k => k_is); (case pg => k_is); (case hd => k_is); (case po => k_is); (case sa => k_is); (case mk => k_is); (case kc => k_is)
      (case b => exact fun _ _ _ _ _ _ us hl => match us, hl with | [_], _ => rfl)
      (case n0 => show PySem.W.findIn _ _ _ = _; k_is); (case n1 => show PySem.W.findIn _ _ _ = _; k_is)
    obtain ⟨f_best_orders, d_best_orders, I_best_orders⟩ : ∃ f fd, OK.FunIn (L2.KOf KX) mg "best_orders" OK.sBestOrders f fd ["needs", "fees", "keeping"] := by
      dsimp only [L2.KOf]
      refine' ⟨_, _, OK.fun_in KX G ?a ?l ?c ?k ?b⟩
      (case a => k_is); (case l => k_is); (case c => k_is); (case k => k_is)
      (case b => exact fun _ _ _ _ _ _ us hl => match us, hl with | [_, _, _], _ => rfl)
    obtain ⟨f_add_needing_day, d_add_needing_day, I_add_needing_day⟩ : ∃ f fd, OK.FunIn (L2.KOf KX) mg "add_needing_day" OK.sAdd f fd ["best", "needs", "fees", "keeping", "day"] := by
      dsimp only [L2.KOf]
      refine' ⟨_, _, OK.fun_in KX G ?a ?l ?c ?k ?b⟩
      (case a => k_is); (case l => k_is); (case c => k_is); (case k => k_is)
      (case b => exact fun _ _ _ _ _ _ us hl => match us, hl with | [_, _, _, _, _], _ => rfl)
    obtain ⟨f_kept_from, d_kept_from, I_kept_from⟩ : ∃ f fd, OK.FunIn (L2.KOf KX) mg "kept_from" OK.sKept f fd ["needs", "keeping", "first", "day"] := by
      dsimp only [L2.KOf]
      refine' ⟨_, _, OK.fun_in KX G ?a ?l ?c ?k ?b⟩
      (case a => k_is); (case l => k_is); (case c => k_is); (case k => k_is)
      (case b => exact fun _ _ _ _ _ _ us hl => match us, hl with | [_, _, _, _], _ => rfl)
    obtain ⟨f_plan_told, d_plan_told, I_plan_told⟩ : ∃ f fd, OK.FunIn (L2.KOf KX) mg "plan_told" OK.sPlanTold f fd ["best", "needs", "days"] := by
      dsimp only [L2.KOf]
      refine' ⟨_, _, OK.fun_in KX G ?a ?l ?c ?k ?b⟩
      (case a => k_is); (case l => k_is); (case c => k_is); (case k => k_is)
      (case b => exact fun _ _ _ _ _ _ us hl => match us, hl with | [_, _, _], _ => rfl)
    obtain ⟨f_least_of, d_least_of, I_least_of⟩ : ∃ f fd, OK.FunIn (L2.KOf KX) mg "least_of" OK.sLeastOf f fd ["needs", "fees", "keeping"] := by
      dsimp only [L2.KOf]
      refine' ⟨_, _, OK.fun_in KX G ?a ?l ?c ?k ?b⟩
      (case a => k_is); (case l => k_is); (case c => k_is); (case k => k_is)
      (case b => exact fun _ _ _ _ _ _ us hl => match us, hl with | [_, _, _], _ => rfl)
    obtain ⟨f_least_and_plan, d_least_and_plan, I_least_and_plan⟩ : ∃ f fd, OK.FunIn (L2.KOf KX) mg "least_and_plan" OK.sLeastPlan f fd ["needs", "fees", "keeping"] := by
      dsimp only [L2.KOf]
      refine' ⟨_, _, OK.fun_in KX G ?a ?l ?c ?k ?b⟩
      (case a => k_is); (case l => k_is); (case c => k_is); (case k => k_is)
      (case b => exact fun _ _ _ _ _ _ us hl => match us, hl with | [_, _, _], _ => rfl)
    obtain ⟨f_what_lies, d_what_lies, I_what_lies⟩ : ∃ f fd, OK.FunIn (L2.KOf KX) mg "what_lies" OK.sLies f fd ["needs", "ordered"] := by
      dsimp only [L2.KOf]
      refine' ⟨_, _, OK.fun_in KX G ?a ?l ?c ?k ?b⟩
      (case a => k_is); (case l => k_is); (case c => k_is); (case k => k_is)
      (case b => exact fun _ _ _ _ _ _ us hl => match us, hl with | [_, _], _ => rfl)
    obtain ⟨f_what_it_costs, d_what_it_costs, I_what_it_costs⟩ : ∃ f fd, OK.FunIn (L2.KOf KX) mg "what_it_costs" OK.sCosts f fd ["needs", "ordered", "fees", "keeping"] := by
      dsimp only [L2.KOf]
      refine' ⟨_, _, OK.fun_in KX G ?a ?l ?c ?k ?b⟩
      (case a => k_is); (case l => k_is); (case c => k_is); (case k => k_is)
      (case b => exact fun _ _ _ _ _ _ us hl => match us, hl with | [_, _, _, _], _ => rfl)
    have N_NO_SUCH : ∃ t, mg "NO_SUCH" = some (.int (-2) t) := by
      refine' OK.const_in KX G ?e; (case e => k_is)
    have N_NONE_SETTLED : ∃ t, mg "NONE_SETTLED" = some (.int (-6) t) := by
      refine' OK.const_in KX G ?e; (case e => k_is)
    have N_NOT_BEGUN : ∃ t, mg "NOT_BEGUN" = some (.int (-11) t) := by
      refine' OK.const_in KX G ?e; (case e => k_is)
    have N_TOO_LITTLE : ∃ t, mg "TOO_LITTLE" = some (.int (-12) t) := by
      refine' OK.const_in KX G ?e; (case e => k_is)
    have N_OUT_OF_RANGE : ∃ t, mg "OUT_OF_RANGE" = some (.int (-22) t) := by
      refine' OK.const_in KX G ?e; (case e => k_is)
    have N_MOST_DAYS : ∃ t, mg "MOST_DAYS" = some (.int (10) t) := by
      refine' OK.const_in KX G ?e; (case e => k_is)
    have N_MOST_KEEPING : ∃ t, mg "MOST_KEEPING" = some (.int (100) t) := by
      refine' OK.const_in KX G ?e; (case e => k_is)
    have N_MOST_NEED : ∃ t, mg "MOST_NEED" = some (.int (1000) t) := by
      refine' OK.const_in KX G ?e; (case e => k_is)
    have N_MOST_FEE : ∃ t, mg "MOST_FEE" = some (.int (10000) t) := by
      refine' OK.const_in KX G ?e; (case e => k_is)
    have N_MOST_ORDERED : ∃ t, mg "MOST_ORDERED" = some (.int (100000) t) := by
      refine' OK.const_in KX G ?e; (case e => k_is)
    have N_BEGIN : ∃ t, mg "BEGIN" = some (.int (0) t) := by
      refine' OK.const_in KX G ?e; (case e => k_is)
    obtain ⟨a_SIZES, T_SIZES⟩ : ∃ a, mg "SIZES" = some (.ref a) ∧ ∀ H, L2.SqT (L2.KOf KX) H a (OK.iv [2, 2, 2, 1, 1, 0, 1, 0, 0, 0, 1, 0, 0, 0, 2, 2, 0, 2, 1, 0, 0]) := by
      dsimp only [L2.KOf]
      refine' ⟨_, OK.tup_in KX G ?e ?l ?z ?v⟩
      (case e => k_is); (case l => k_is); (case z => decide)
      (case v => repeat' first | exact .nil | refine .cons ⟨_, rfl⟩ ?_)
    obtain ⟨a_WITH_ROW, T_WITH_ROW⟩ : ∃ a, mg "WITH_ROW" = some (.ref a) ∧ ∀ H, L2.SqT (L2.KOf KX) H a (OK.iv [8, 9, 16]) := by
      dsimp only [L2.KOf]
      refine' ⟨_, OK.tup_in KX G ?e ?l ?z ?v⟩
      (case e => k_is); (case l => k_is); (case z => decide)
      (case v => repeat' first | exact .nil | refine .cons ⟨_, rfl⟩ ?_)
    obtain ⟨C_Store, f_Store, d_Store, I_Store, n_Store_fees, n_Store_keeping, n_Store_needs⟩ : ∃ C f fd, OK.ClsIn (L2.KOf KX) mg "Store" "Store.__init__" OK.sStoreInit C f fd ∧ L2.NoAttr (L2.KOf KX) C "fees" ∧ L2.NoAttr (L2.KOf KX) C "keeping" ∧ L2.NoAttr (L2.KOf KX) C "needs" := by
      dsimp only [L2.KOf]
      refine' ⟨_, _, _, OK.cls_in KX G ?a ?a1 ?i1 ?l ?c ?k ?pg ?hd ?po ?sa ?mk ?kc ?b, ?n0, ?n1, ?n2⟩
      (case a => k_is); (case a1 => k_is); (case i1 => k_is); (case l => k_is); (case c => k_is); (case k => k_is); (case pg => k_is); (case hd => k_is); (case po => k_is); (case sa => k_is); (case mk => k_is); (case kc => k_is)
      (case b => exact fun _ _ _ _ _ _ us hl => match us, hl with | [_], _ => rfl)
      (case n0 => show PySem.W.findIn _ _ _ = _; k_is); (case n1 => show PySem.W.findIn _ _ _ = _; k_is); (case n2 => show PySem.W.findIn _ _ _ = _; k_is)
    obtain ⟨f_best_of, d_best_of, I_best_of⟩ : ∃ f fd, OK.FunIn (L2.KOf KX) mg "best_of" OK.sBestOf f fd ["store"] := by
      dsimp only [L2.KOf]
      refine' ⟨_, _, OK.fun_in KX G ?a ?l ?c ?k ?b⟩
      (case a => k_is); (case l => k_is); (case c => k_is); (case k => k_is)
      (case b => exact fun _ _ _ _ _ _ us hl => match us, hl with | [_], _ => rfl)
    obtain ⟨f_begin, d_begin, I_begin⟩ : ∃ f fd, OK.FunIn (L2.KOf KX) mg "begin" OK.sBegin f fd ["store", "given"] := by
      dsimp only [L2.KOf]
      refine' ⟨_, _, OK.fun_in KX G ?a ?l ?c ?k ?b⟩
      (case a => k_is); (case l => k_is); (case c => k_is); (case k => k_is)
      (case b => exact fun _ _ _ _ _ _ us hl => match us, hl with | [_, _], _ => rfl)
    obtain ⟨f_day_refusal, d_day_refusal, I_day_refusal⟩ : ∃ f fd, OK.FunIn (L2.KOf KX) mg "day_refusal" OK.sDayRef f fd ["amounts", "day", "amount", "most"] := by
      dsimp only [L2.KOf]
      refine' ⟨_, _, OK.fun_in KX G ?a ?l ?c ?k ?b⟩
      (case a => k_is); (case l => k_is); (case c => k_is); (case k => k_is)
      (case b => exact fun _ _ _ _ _ _ us hl => match us, hl with | [_, _, _, _], _ => rfl)
    obtain ⟨f_put, d_put, I_put⟩ : ∃ f fd, OK.FunIn (L2.KOf KX) mg "put" OK.sPut f fd ["amounts", "day", "amount", "most"] := by
      dsimp only [L2.KOf]
      refine' ⟨_, _, OK.fun_in KX G ?a ?l ?c ?k ?b⟩
      (case a => k_is); (case l => k_is); (case c => k_is); (case k => k_is)
      (case b => exact fun _ _ _ _ _ _ us hl => match us, hl with | [_, _, _, _], _ => rfl)
    obtain ⟨f_need, d_need, I_need⟩ : ∃ f fd, OK.FunIn (L2.KOf KX) mg "need" OK.sNeed f fd ["store", "given"] := by
      dsimp only [L2.KOf]
      refine' ⟨_, _, OK.fun_in KX G ?a ?l ?c ?k ?b⟩
      (case a => k_is); (case l => k_is); (case c => k_is); (case k => k_is)
      (case b => exact fun _ _ _ _ _ _ us hl => match us, hl with | [_, _], _ => rfl)
    obtain ⟨f_fee, d_fee, I_fee⟩ : ∃ f fd, OK.FunIn (L2.KOf KX) mg "fee" OK.sFee f fd ["store", "given"] := by
      dsimp only [L2.KOf]
      refine' ⟨_, _, OK.fun_in KX G ?a ?l ?c ?k ?b⟩
      (case a => k_is); (case l => k_is); (case c => k_is); (case k => k_is)
      (case b => exact fun _ _ _ _ _ _ us hl => match us, hl with | [_, _], _ => rfl)
    obtain ⟨f_keep, d_keep, I_keep⟩ : ∃ f fd, OK.FunIn (L2.KOf KX) mg "keep" OK.sKeep f fd ["store", "given"] := by
      dsimp only [L2.KOf]
      refine' ⟨_, _, OK.fun_in KX G ?a ?l ?c ?k ?b⟩
      (case a => k_is); (case l => k_is); (case c => k_is); (case k => k_is)
      (case b => exact fun _ _ _ _ _ _ us hl => match us, hl with | [_, _], _ => rfl)
    obtain ⟨f_least, d_least, I_least⟩ : ∃ f fd, OK.FunIn (L2.KOf KX) mg "least" OK.sLeast f fd ["store", "given"] := by
      dsimp only [L2.KOf]
      refine' ⟨_, _, OK.fun_in KX G ?a ?l ?c ?k ?b⟩
      (case a => k_is); (case l => k_is); (case c => k_is); (case k => k_is)
      (case b => exact fun _ _ _ _ _ _ us hl => match us, hl with | [_, _], _ => rfl)
    obtain ⟨f_plan, d_plan, I_plan⟩ : ∃ f fd, OK.FunIn (L2.KOf KX) mg "plan" OK.sPlan f fd ["store", "given"] := by
      dsimp only [L2.KOf]
      refine' ⟨_, _, OK.fun_in KX G ?a ?l ?c ?k ?b⟩
      (case a => k_is); (case l => k_is); (case c => k_is); (case k => k_is)
      (case b => exact fun _ _ _ _ _ _ us hl => match us, hl with | [_, _], _ => rfl)
    obtain ⟨f_last, d_last, I_last⟩ : ∃ f fd, OK.FunIn (L2.KOf KX) mg "last" OK.sLast f fd ["store", "given"] := by
      dsimp only [L2.KOf]
      refine' ⟨_, _, OK.fun_in KX G ?a ?l ?c ?k ?b⟩
      (case a => k_is); (case l => k_is); (case c => k_is); (case k => k_is)
      (case b => exact fun _ _ _ _ _ _ us hl => match us, hl with | [_, _], _ => rfl)
    obtain ⟨f_lasts, d_lasts, I_lasts⟩ : ∃ f fd, OK.FunIn (L2.KOf KX) mg "lasts" OK.sLasts f fd ["store", "given"] := by
      dsimp only [L2.KOf]
      refine' ⟨_, _, OK.fun_in KX G ?a ?l ?c ?k ?b⟩
      (case a => k_is); (case l => k_is); (case c => k_is); (case k => k_is)
      (case b => exact fun _ _ _ _ _ _ us hl => match us, hl with | [_, _], _ => rfl)
    obtain ⟨f_plan_refusal, d_plan_refusal, I_plan_refusal⟩ : ∃ f fd, OK.FunIn (L2.KOf KX) mg "plan_refusal" OK.sRefusal f fd ["store", "ordered"] := by
      dsimp only [L2.KOf]
      refine' ⟨_, _, OK.fun_in KX G ?a ?l ?c ?k ?b⟩
      (case a => k_is); (case l => k_is); (case c => k_is); (case k => k_is)
      (case b => exact fun _ _ _ _ _ _ us hl => match us, hl with | [_, _], _ => rfl)
    obtain ⟨f_cost, d_cost, I_cost⟩ : ∃ f fd, OK.FunIn (L2.KOf KX) mg "cost" OK.sCost f fd ["store", "given"] := by
      dsimp only [L2.KOf]
      refine' ⟨_, _, OK.fun_in KX G ?a ?l ?c ?k ?b⟩
      (case a => k_is); (case l => k_is); (case c => k_is); (case k => k_is)
      (case b => exact fun _ _ _ _ _ _ us hl => match us, hl with | [_, _], _ => rfl)
    obtain ⟨f_shelf, d_shelf, I_shelf⟩ : ∃ f fd, OK.FunIn (L2.KOf KX) mg "shelf" OK.sShelf f fd ["store", "given"] := by
      dsimp only [L2.KOf]
      refine' ⟨_, _, OK.fun_in KX G ?a ?l ?c ?k ?b⟩
      (case a => k_is); (case l => k_is); (case c => k_is); (case k => k_is)
      (case b => exact fun _ _ _ _ _ _ us hl => match us, hl with | [_, _], _ => rfl)
    obtain ⟨f_is_settled, d_is_settled, I_is_settled⟩ : ∃ f fd, OK.FunIn (L2.KOf KX) mg "is_settled" OK.sIsSettled f fd ["best", "day"] := by
      dsimp only [L2.KOf]
      refine' ⟨_, _, OK.fun_in KX G ?a ?l ?c ?k ?b⟩
      (case a => k_is); (case l => k_is); (case c => k_is); (case k => k_is)
      (case b => exact fun _ _ _ _ _ _ us hl => match us, hl with | [_, _], _ => rfl)
    obtain ⟨f_settled, d_settled, I_settled⟩ : ∃ f fd, OK.FunIn (L2.KOf KX) mg "settled" OK.sSettled f fd ["store", "given"] := by
      dsimp only [L2.KOf]
      refine' ⟨_, _, OK.fun_in KX G ?a ?l ?c ?k ?b⟩
      (case a => k_is); (case l => k_is); (case c => k_is); (case k => k_is)
      (case b => exact fun _ _ _ _ _ _ us hl => match us, hl with | [_, _], _ => rfl)
    obtain ⟨f_sure, d_sure, I_sure⟩ : ∃ f fd, OK.FunIn (L2.KOf KX) mg "sure" OK.sSure f fd ["store", "given"] := by
      dsimp only [L2.KOf]
      refine' ⟨_, _, OK.fun_in KX G ?a ?l ?c ?k ?b⟩
      (case a => k_is); (case l => k_is); (case c => k_is); (case k => k_is)
      (case b => exact fun _ _ _ _ _ _ us hl => match us, hl with | [_, _], _ => rfl)
    obtain ⟨f_each, d_each, I_each⟩ : ∃ f fd, OK.FunIn (L2.KOf KX) mg "each" OK.sEach f fd ["store", "given"] := by
      dsimp only [L2.KOf]
      refine' ⟨_, _, OK.fun_in KX G ?a ?l ?c ?k ?b⟩
      (case a => k_is); (case l => k_is); (case c => k_is); (case k => k_is)
      (case b => exact fun _ _ _ _ _ _ us hl => match us, hl with | [_, _], _ => rfl)
    obtain ⟨f_once, d_once, I_once⟩ : ∃ f fd, OK.FunIn (L2.KOf KX) mg "once" OK.sOnce f fd ["store", "given"] := by
      dsimp only [L2.KOf]
      refine' ⟨_, _, OK.fun_in KX G ?a ?l ?c ?k ?b⟩
      (case a => k_is); (case l => k_is); (case c => k_is); (case k => k_is)
      (case b => exact fun _ _ _ _ _ _ us hl => match us, hl with | [_, _], _ => rfl)
    obtain ⟨f_with_other, d_with_other, I_with_other⟩ : ∃ f fd, OK.FunIn (L2.KOf KX) mg "with_other" OK.sWith f fd ["amounts", "day", "amount"] := by
      dsimp only [L2.KOf]
      refine' ⟨_, _, OK.fun_in KX G ?a ?l ?c ?k ?b⟩
      (case a => k_is); (case l => k_is); (case c => k_is); (case k => k_is)
      (case b => exact fun _ _ _ _ _ _ us hl => match us, hl with | [_, _, _], _ => rfl)
    obtain ⟨f_would, d_would, I_would⟩ : ∃ f fd, OK.FunIn (L2.KOf KX) mg "would" OK.sWould f fd ["store", "given"] := by
      dsimp only [L2.KOf]
      refine' ⟨_, _, OK.fun_in KX G ?a ?l ?c ?k ?b⟩
      (case a => k_is); (case l => k_is); (case c => k_is); (case k => k_is)
      (case b => exact fun _ _ _ _ _ _ us hl => match us, hl with | [_, _], _ => rfl)
    obtain ⟨f_dear, d_dear, I_dear⟩ : ∃ f fd, OK.FunIn (L2.KOf KX) mg "dear" OK.sDear f fd ["store", "given"] := by
      dsimp only [L2.KOf]
      refine' ⟨_, _, OK.fun_in KX G ?a ?l ?c ?k ?b⟩
      (case a => k_is); (case l => k_is); (case c => k_is); (case k => k_is)
      (case b => exact fun _ _ _ _ _ _ us hl => match us, hl with | [_, _], _ => rfl)
    obtain ⟨f_together, d_together, I_together⟩ : ∃ f fd, OK.FunIn (L2.KOf KX) mg "together" OK.sTogether f fd ["store", "given"] := by
      dsimp only [L2.KOf]
      refine' ⟨_, _, OK.fun_in KX G ?a ?l ?c ?k ?b⟩
      (case a => k_is); (case l => k_is); (case c => k_is); (case k => k_is)
      (case b => exact fun _ _ _ _ _ _ us hl => match us, hl with | [_, _], _ => rfl)
    obtain ⟨f_span, d_span, I_span⟩ : ∃ f fd, OK.FunIn (L2.KOf KX) mg "span" OK.sSpan f fd ["store", "given"] := by
      dsimp only [L2.KOf]
      refine' ⟨_, _, OK.fun_in KX G ?a ?l ?c ?k ?b⟩
      (case a => k_is); (case l => k_is); (case c => k_is); (case k => k_is)
      (case b => exact fun _ _ _ _ _ _ us hl => match us, hl with | [_, _], _ => rfl)
    obtain ⟨f_rest, d_rest, I_rest⟩ : ∃ f fd, OK.FunIn (L2.KOf KX) mg "rest" OK.sRest f fd ["store", "given"] := by
      dsimp only [L2.KOf]
      refine' ⟨_, _, OK.fun_in KX G ?a ?l ?c ?k ?b⟩
      (case a => k_is); (case l => k_is); (case c => k_is); (case k => k_is)
      (case b => exact fun _ _ _ _ _ _ us hl => match us, hl with | [_, _], _ => rfl)
    obtain ⟨f_sums, d_sums, I_sums⟩ : ∃ f fd, OK.FunIn (L2.KOf KX) mg "sums" OK.sSums f fd ["store", "given"] := by
      dsimp only [L2.KOf]
      refine' ⟨_, _, OK.fun_in KX G ?a ?l ?c ?k ?b⟩
      (case a => k_is); (case l => k_is); (case c => k_is); (case k => k_is)
      (case b => exact fun _ _ _ _ _ _ us hl => match us, hl with | [_, _], _ => rfl)
    obtain ⟨f_state, d_state, I_state⟩ : ∃ f fd, OK.FunIn (L2.KOf KX) mg "state" OK.sState f fd ["store", "given"] := by
      dsimp only [L2.KOf]
      refine' ⟨_, _, OK.fun_in KX G ?a ?l ?c ?k ?b⟩
      (case a => k_is); (case l => k_is); (case c => k_is); (case k => k_is)
      (case b => exact fun _ _ _ _ _ _ us hl => match us, hl with | [_, _], _ => rfl)
    obtain ⟨a_CALLS, g0, g1, g2, g3, g4, g5, g6, g7, g8, g9, g10, g11, g12, g13, g14, g15, g16, g17, g18, g19, g20, T_CALLS, h0, h1, h2, h3, h4, h5, h6, h7, h8, h9, h10, h11, h12, h13, h14, h15, h16, h17, h18, h19, h20⟩ : ∃ a g0 g1 g2 g3 g4 g5 g6 g7 g8 g9 g10 g11 g12 g13 g14 g15 g16 g17 g18 g19 g20, (mg "CALLS" = some (.ref a) ∧ ∀ H, L2.SqT (L2.KOf KX) H a ([g0, g1, g2, g3, g4, g5, g6, g7, g8, g9, g10, g11, g12, g13, g14, g15, g16, g17, g18, g19, g20].map L2.V.ref)) ∧ mg "begin" = some (.ref g0) ∧ mg "need" = some (.ref g1) ∧ mg "fee" = some (.ref g2) ∧ mg "keep" = some (.ref g3) ∧ mg "least" = some (.ref g4) ∧ mg "plan" = some (.ref g5) ∧ mg "last" = some (.ref g6) ∧ mg "lasts" = some (.ref g7) ∧ mg "cost" = some (.ref g8) ∧ mg "shelf" = some (.ref g9) ∧ mg "settled" = some (.ref g10) ∧ mg "sure" = some (.ref g11) ∧ mg "each" = some (.ref g12) ∧ mg "once" = some (.ref g13) ∧ mg "would" = some (.ref g14) ∧ mg "dear" = some (.ref g15) ∧ mg "together" = some (.ref g16) ∧ mg "span" = some (.ref g17) ∧ mg "rest" = some (.ref g18) ∧ mg "sums" = some (.ref g19) ∧ mg "state" = some (.ref g20) := by
      dsimp only [L2.KOf]
      exact ⟨_, _, _, _, _, _, _, _, _, _, _, _, _, _, _, _, _, _, _, _, _, _, OK.tup_in KX G (by k_is) (by k_is) (by decide) (by repeat' first | exact .nil | refine .cons rfl ?_), PySem.W.mg_of KX G (by k_is), PySem.W.mg_of KX G (by k_is), PySem.W.mg_of KX G (by k_is), PySem.W.mg_of KX G (by k_is), PySem.W.mg_of KX G (by k_is), PySem.W.mg_of KX G (by k_is), PySem.W.mg_of KX G (by k_is), PySem.W.mg_of KX G (by k_is), PySem.W.mg_of KX G (by k_is), PySem.W.mg_of KX G (by k_is), PySem.W.mg_of KX G (by k_is), PySem.W.mg_of KX G (by k_is), PySem.W.mg_of KX G (by k_is), PySem.W.mg_of KX G (by k_is), PySem.W.mg_of KX G (by k_is), PySem.W.mg_of KX G (by k_is), PySem.W.mg_of KX G (by k_is), PySem.W.mg_of KX G (by k_is), PySem.W.mg_of KX G (by k_is), PySem.W.mg_of KX G (by k_is), PySem.W.mg_of KX G (by k_is)⟩
    obtain ⟨f_answer_call, d_answer_call, I_answer_call⟩ : ∃ f fd, OK.FunIn (L2.KOf KX) mg "answer_call" OK.sAC f fd ["store", "number", "given"] := by
      dsimp only [L2.KOf]
      refine' ⟨_, _, OK.fun_in KX G ?a ?l ?c ?k ?b⟩
      (case a => k_is); (case l => k_is); (case c => k_is); (case k => k_is)
      (case b => exact fun _ _ _ _ _ _ us hl => match us, hl with | [_, _, _], _ => rfl)
    obtain ⟨f_answers, d_answers, I_answers⟩ : ∃ f fd, OK.FunIn (L2.KOf KX) mg "answers" OK.sAnswers f fd ["calls"] := by
      dsimp only [L2.KOf]
      refine' ⟨_, _, OK.fun_in KX G ?a ?l ?c ?k ?b⟩
      (case a => k_is); (case l => k_is); (case c => k_is); (case k => k_is)
      (case b => exact fun _ _ _ _ _ _ us hl => match us, hl with | [_], _ => rfl)
    have Z_len : mg "len" = none := by
      refine' PySem.W.mg_none_of KX G ?e; (case e => k_is)
    have Z_list : mg "list" = none := by
      refine' PySem.W.mg_none_of KX G ?e; (case e => k_is)
    have Z_max : mg "max" = none := by
      refine' PySem.W.mg_none_of KX G ?e; (case e => k_is)
    have Z_min : mg "min" = none := by
      refine' PySem.W.mg_none_of KX G ?e; (case e => k_is)
    have Z_range : mg "range" = none := by
      refine' PySem.W.mg_none_of KX G ?e; (case e => k_is)
    have Z_sum : mg "sum" = none := by
      refine' PySem.W.mg_none_of KX G ?e; (case e => k_is)
    have TB : OK.Txt (L2.KOf KX) mg C_Best := ⟨I_Best.cl, n_Best_leasts, n_Best_lasts, I_Best.here, Z_range, Z_len, Z_sum, Z_min, Z_max, Z_list⟩
    have TS : OK.TxtS (L2.KOf KX) mg C_Best C_Store := ⟨TB, I_Store.cl, n_Store_needs, n_Store_fees, n_Store_keeping, I_Store.here, N_NONE_SETTLED, N_NO_SUCH, N_NOT_BEGUN, N_TOO_LITTLE, N_OUT_OF_RANGE, N_MOST_DAYS, N_MOST_KEEPING, N_MOST_NEED, N_MOST_FEE, N_MOST_ORDERED, N_BEGIN⟩
    have TA : OK.TxtA (L2.KOf KX) mg C_Best C_Store a_SIZES a_WITH_ROW := ⟨TS, T_SIZES.1, T_SIZES.2, T_WITH_ROW.1, T_WITH_ROW.2⟩
    obtain rfl := OK.one_of hmg I_answers.here
    obtain rfl := OK.one_of h0 I_begin.here
    obtain rfl := OK.one_of h1 I_need.here
    obtain rfl := OK.one_of h2 I_fee.here
    obtain rfl := OK.one_of h3 I_keep.here
    obtain rfl := OK.one_of h4 I_least.here
    obtain rfl := OK.one_of h5 I_plan.here
    obtain rfl := OK.one_of h6 I_last.here
    obtain rfl := OK.one_of h7 I_lasts.here
    obtain rfl := OK.one_of h8 I_cost.here
    obtain rfl := OK.one_of h9 I_shelf.here
    obtain rfl := OK.one_of h10 I_settled.here
    obtain rfl := OK.one_of h11 I_sure.here
    obtain rfl := OK.one_of h12 I_each.here
    obtain rfl := OK.one_of h13 I_once.here
    obtain rfl := OK.one_of h14 I_would.here
    obtain rfl := OK.one_of h15 I_dear.here
    obtain rfl := OK.one_of h16 I_together.here
    obtain rfl := OK.one_of h17 I_span.here
    obtain rfl := OK.one_of h18 I_rest.here
    obtain rfl := OK.one_of h19 I_sums.here
    obtain rfl := OK.one_of h20 I_state.here
    refine ⟨d_answers, fun s us hu => .of_eq (I_answers.all us hu), fun base _ _ => ?_⟩
    have GAdd := OK.ok_add (P := PySem.Challenge.pw_orderkeeping_s01_answers) (w := w) (base := base) I_add_needing_day.fn TB I_kept_from.fn I_kept_from.here I_kept_from.bd
    have GBest := OK.ok_best I_best_orders.fn TB I_Best.mks I_Best.fn I_Best.bd GAdd I_add_needing_day.kp I_add_needing_day.here I_add_needing_day.bd
    have BO : OK.BestO PySem.Challenge.pw_orderkeeping_s01_answers w (L2.KOf KX) mg base C_Best f_best_orders d_best_orders := ⟨GBest, I_best_orders.kp, I_best_orders.here, I_best_orders.bd⟩
    have O : OK.BestOf PySem.Challenge.pw_orderkeeping_s01_answers w (L2.KOf KX) mg base C_Best C_Store f_best_of d_best_of := ⟨OK.ok_bestOf I_best_of.fn TS BO, I_best_of.kp, I_best_of.here, I_best_of.bd⟩
    have PT : OK.PlanTold PySem.Challenge.pw_orderkeeping_s01_answers w (L2.KOf KX) mg base C_Best f_plan_told d_plan_told := ⟨OK.ok_plan I_plan_told.fn TB, I_plan_told.kp, I_plan_told.here, I_plan_told.bd⟩
    have LO : OK.LeastO PySem.Challenge.pw_orderkeeping_s01_answers w (L2.KOf KX) mg base f_least_of d_least_of := ⟨OK.ok_leastOf I_least_of.fn TB BO, I_least_of.kp, I_least_of.here, I_least_of.bd⟩
    have LP : OK.LeastP PySem.Challenge.pw_orderkeeping_s01_answers w (L2.KOf KX) mg base f_least_and_plan d_least_and_plan := ⟨OK.ok_leastPlan I_least_and_plan.fn TB BO PT, I_least_and_plan.kp, I_least_and_plan.here, I_least_and_plan.bd⟩
    have LI : OK.Lies PySem.Challenge.pw_orderkeeping_s01_answers w (L2.KOf KX) mg base f_what_lies d_what_lies := ⟨OK.ok_lies I_what_lies.fn TB, I_what_lies.kp, I_what_lies.here, I_what_lies.bd⟩
    have CO : OK.Costs PySem.Challenge.pw_orderkeeping_s01_answers w (L2.KOf KX) mg base f_what_it_costs d_what_it_costs := ⟨OK.ok_costs I_what_it_costs.fn TB LI, I_what_it_costs.kp, I_what_it_costs.here, I_what_it_costs.bd⟩
    have RE : OK.Refuses PySem.Challenge.pw_orderkeeping_s01_answers w (L2.KOf KX) mg base C_Store f_plan_refusal d_plan_refusal := ⟨OK.ok_refusal I_plan_refusal.fn TS LI, I_plan_refusal.kp, I_plan_refusal.here, I_plan_refusal.bd⟩
    have DR : OK.DayRef PySem.Challenge.pw_orderkeeping_s01_answers w (L2.KOf KX) mg base f_day_refusal d_day_refusal := ⟨OK.ok_dayRef I_day_refusal.fn TS, I_day_refusal.kp, I_day_refusal.here, I_day_refusal.bd⟩
    have IS : OK.IsSettled PySem.Challenge.pw_orderkeeping_s01_answers w (L2.KOf KX) mg base C_Best f_is_settled d_is_settled := ⟨OK.ok_isSettled I_is_settled.fn TB, I_is_settled.kp, I_is_settled.here, I_is_settled.bd⟩
    have WI : OK.With PySem.Challenge.pw_orderkeeping_s01_answers w (L2.KOf KX) mg base f_with_other d_with_other := ⟨OK.ok_with I_with_other.fn TS, I_with_other.kp, I_with_other.here, I_with_other.bd⟩
    have PU := OK.ok_put (P := PySem.Challenge.pw_orderkeeping_s01_answers) (w := w) (base := base) I_put.fn TS DR
    have CK : OK.CallsOk PySem.Challenge.pw_orderkeeping_s01_answers w (L2.KOf KX) mg base C_Store a_CALLS [g0, g1, g2, g3, g4, g5, g6, g7, g8, g9, g10, g11, g12, g13, g14, g15, g16, g17, g18, g19, g20] 21 5 := by
      refine ⟨T_CALLS.1, T_CALLS.2, rfl, fun n hn => ?_⟩
      match n, hn with
      | 0, _ => exact ⟨_, _, rfl, (OK.ok_begin I_begin.fn TS).mono (by decide), I_begin.kp, I_begin.bd⟩
      | 1, _ => exact ⟨_, _, rfl, (OK.ok_need I_need.fn TS PU I_put.kp I_put.here I_put.bd).mono (by decide), I_need.kp, I_need.bd⟩
      | 2, _ => exact ⟨_, _, rfl, (OK.ok_fee I_fee.fn TS PU I_put.kp I_put.here I_put.bd).mono (by decide), I_fee.kp, I_fee.bd⟩
      | 3, _ => exact ⟨_, _, rfl, (OK.ok_keep I_keep.fn TS).mono (by decide), I_keep.kp, I_keep.bd⟩
      | 4, _ => exact ⟨_, _, rfl, (OK.ok_least I_least.fn TS O).mono (by decide), I_least.kp, I_least.bd⟩
      | 5, _ => exact ⟨_, _, rfl, (OK.ok_planC I_plan.fn TS LP).mono (by decide), I_plan.kp, I_plan.bd⟩
      | 6, _ => exact ⟨_, _, rfl, (OK.ok_last I_last.fn TS O).mono (by decide), I_last.kp, I_last.bd⟩
      | 7, _ => exact ⟨_, _, rfl, (OK.ok_lasts I_lasts.fn TS O).mono (by decide), I_lasts.kp, I_lasts.bd⟩
      | 8, _ => exact ⟨_, _, rfl, (OK.ok_cost I_cost.fn TS LO RE CO).mono (by decide), I_cost.kp, I_cost.bd⟩
      | 9, _ => exact ⟨_, _, rfl, (OK.ok_shelf I_shelf.fn TS RE LI).mono (by decide), I_shelf.kp, I_shelf.bd⟩
      | 10, _ => exact ⟨_, _, rfl, (OK.ok_settled I_settled.fn TS O IS).mono (by decide), I_settled.kp, I_settled.bd⟩
      | 11, _ => exact ⟨_, _, rfl, (OK.ok_sure I_sure.fn TS O IS PT).mono (by decide), I_sure.kp, I_sure.bd⟩
      | 12, _ => exact ⟨_, _, rfl, (OK.ok_each I_each.fn TS CO).mono (by decide), I_each.kp, I_each.bd⟩
      | 13, _ => exact ⟨_, _, rfl, (OK.ok_once I_once.fn TS CO).mono (by decide), I_once.kp, I_once.bd⟩
      | 14, _ => exact ⟨_, _, rfl, (OK.ok_would I_would.fn TS DR WI LP).mono (by decide), I_would.kp, I_would.bd⟩
      | 15, _ => exact ⟨_, _, rfl, (OK.ok_dear I_dear.fn TS DR WI LP).mono (by decide), I_dear.kp, I_dear.bd⟩
      | 16, _ => exact ⟨_, _, rfl, (OK.ok_together I_together.fn TS LO).mono (by decide), I_together.kp, I_together.bd⟩
      | 17, _ => exact ⟨_, _, rfl, (OK.ok_span I_span.fn TS).mono (by decide), I_span.kp, I_span.bd⟩
      | 18, _ => exact ⟨_, _, rfl, (OK.ok_rest I_rest.fn TS O LO).mono (by decide), I_rest.kp, I_rest.bd⟩
      | 19, _ => exact ⟨_, _, rfl, (OK.ok_sums I_sums.fn TS).mono (by decide), I_sums.kp, I_sums.bd⟩
      | 20, _ => exact ⟨_, _, rfl, (OK.ok_state I_state.fn TS).mono (by decide), I_state.kp, I_state.bd⟩
      | n + 21, hn => exact absurd hn (by omega)
    have AC := OK.ok_ac (by decide) I_answer_call.fn TS CK
    have fin := OK.ok_answers (k := 4) I_answers.fn TA I_Store.mks I_Store.fn I_Store.bd AC I_answer_call.kp I_answer_call.here I_answer_call.bd
    exact fin.mono (by decide)
  case S =>
    intro K H xs a hO hwi hask hx
    cases hx with
    | cons h1 h2 =>
      cases h2
      cases h1 with
      | lst hs ha =>
        have e := L2.ints_dw a.1 _ ha
        subst e
        have q : ((Codec.inLen 0 6400 a.1 && a.1.all (Codec.inInt 0 4294967295)) && true) = true := hwi
        rw [Bool.and_eq_true, Bool.and_eq_true] at q
        exact ⟨_, a.1, rfl, hs, (Codec.inNat_iff.mp q.1.1).2, hask, fun H' p hp => .lst (L2.SqL.of hp) (L2.dw_ints _)⟩
end
