import PyProof.Rows.All
import Wide.All
import OpenK.AllK
import Wide.FinOn
import PyProof.EqAt
import PyProof.EqKinds
import PyProof.TupleCall
import KE.BitLaws
import KE.OsGo
import Open.SpecLaws
import PyProof.ZipIter
import KE.KMinBuiltin
import KE.KTryMore
import KE.KTryOn
import Sp21Spec
import KE.KItemsList
import KE.RegKTryMore
import PySem.Challenge.RW_tilewise_s06_put
-- CHANGE: your row's module here, as the last of these rows
set_option Elab.async false
set_option linter.all false
set_option maxRecDepth 100000
namespace L2
open PySem PySem.Spec PyProof.Rows

/-- a key: an int or a str -/
abbrev Key := Sum Int Str
def keyIs : Key → Value → Bool
  | .inl k, v => Value.isInt k v
  | .inr x, v => Value.isStrOf x v
def keyH (w : World) : Key → Int
  | .inl k => hashInt k
  | .inr x => hashStr w x
theorem keyIs_shape : ∀ {k : Key} {v : Value}, keyIs k v = true → (∃ i t, k = Sum.inl i ∧ v = Value.int i t) ∨ (∃ x t, k = Sum.inr x ∧ v = Value.str x t)
  | .inl i, v, h => by
    obtain ⟨t, e⟩ := Value.isInt_shape (k := i) (v := v) h
    exact .inl ⟨i, t, rfl, e⟩
  | .inr x, v, h => by
    obtain ⟨t, e⟩ := Value.isStrOf_shape (x := x) (v := v) h
    exact .inr ⟨x, t, rfl, e⟩
theorem key_ll (a b : Int) : decide ((Sum.inl a : Key) = Sum.inl b) = (a == b) := by
  by_cases e : a = b
  · subst e; simp
  · have h : ¬ (Sum.inl a : Key) = Sum.inl b := fun q => e (Sum.inl.inj q)
    rw [decide_eq_false h]
    exact (beq_eq_false_iff_ne.mpr e).symm
theorem key_rr (a b : Str) : decide ((Sum.inr a : Key) = Sum.inr b) = decide (a = b) := by
  by_cases e : a = b
  · subst e; simp
  · have h : ¬ (Sum.inr a : Key) = Sum.inr b := fun q => e (Sum.inr.inj q)
    rw [decide_eq_false h, decide_eq_false e]
theorem key_lr (a : Int) (b : Str) : decide ((Sum.inl a : Key) = Sum.inr b) = false := decide_eq_false (fun q => nomatch q)
theorem key_rl (a : Str) (b : Int) : decide ((Sum.inr a : Key) = Sum.inl b) = false := decide_eq_false (fun q => nomatch q)

def mixKind (prog : Program) (w : World) : PySem.KeyKind prog w Key where
  is := keyIs
  hash := keyH w
  inj := fun v a b ha hb => by
    rcases keyIs_shape ha with ⟨i, t, rfl, rfl⟩ | ⟨x, t, rfl, rfl⟩
    · rcases keyIs_shape hb with ⟨j, u, rfl, e⟩ | ⟨y, u, rfl, e⟩
      · injection e with e1 _; rw [e1]
      · exact nomatch e
    · rcases keyIs_shape hb with ⟨j, u, rfl, e⟩ | ⟨y, u, rfl, e⟩
      · exact nomatch e
      · injection e with e1 _; rw [e1]
  byValue := fun k v h => by
    rcases keyIs_shape h with ⟨i, t, rfl, rfl⟩ | ⟨x, t, rfl, rfl⟩ <;> rfl
  pyHash := fun hv h => by
    rcases keyIs_shape hv with ⟨i, t, rfl, rfl⟩ | ⟨x, t, rfl, rfl⟩
    · exact wpAny_pyHash_int h
    · exact wpAny_pyHash_str h
  eqBool := fun hu hv h => by
    rcases keyIs_shape hu with ⟨i, t, rfl, rfl⟩ | ⟨x, t, rfl, rfl⟩
    · rcases keyIs_shape hv with ⟨j, u, rfl, rfl⟩ | ⟨y, u, rfl, rfl⟩
      · rw [key_ll] at h; exact wpAny_eqBool_int h
      · rw [key_lr] at h; exact SeqAt.EqAt.int_str i t y u _ _ _ _ h
    · rcases keyIs_shape hv with ⟨j, u, rfl, rfl⟩ | ⟨y, u, rfl, rfl⟩
      · rw [key_rl] at h; exact SeqAt.EqAt.str_int x t j u _ _ _ _ h
      · rw [key_rr] at h; exact wpAny_eqBool_str h
  «strs» := fun k x t v h => by
    rcases keyIs_shape h with ⟨i, u, rfl, e⟩ | ⟨y, u, rfl, e⟩
    · exact nomatch e
    · injection e with e1 _
      subst e1
      cases v <;> rfl

end L2

namespace L2
open PySem PySem.Spec PyProof.Rows

/-- a value, without the heap -/
inductive V where
  | non | bl (b : Bool) | int (i : Int) | str (x : Str) | byt (b : Array UInt8) | flt (b : UInt64) | ref (a : Addr) | ty (n : String)
  deriving DecidableEq

def RelV : V → Value → Prop
  | .non, u => u = Value.none
  | .bl b, u => u = Value.bool b
  | .int i, u => ∃ t, u = Value.int i t
  | .str x, u => ∃ t, u = Value.str x t
  | .byt b, u => ∃ t, u = Value.bytes b t
  | .flt b, u => ∃ t, u = Value.float b t
  | .ref a, u => u = Value.ref a
  | .ty n, u => u = Value.type n

abbrev Vals : List V → List Value → Prop := Paired RelV
theorem Vals.length {xs : List V} {us : List Value} (r : Vals xs us) : xs.length = us.length := Paired.length r
theorem Vals.get : ∀ {xs : List V} {us : List Value} {i : Nat} {x : V}, Vals xs us → xs[i]? = some x → ∃ u, us[i]? = some u ∧ RelV x u
  | _, _, _, _, .nil, e => by simp at e
  | _, _, 0, _, .cons r _, e => by simp at e; subst e; exact ⟨_, rfl, r⟩
  | _, _, i + 1, x, .cons _ t, e => by
    obtain ⟨u, h1, h2⟩ := Vals.get (i := i) (x := x) t (by simpa using e)
    exact ⟨u, by simpa using h1, h2⟩
theorem Vals.set {x : V} {u : Value} (r : RelV x u) : ∀ {xs : List V} {us : List Value} (i : Nat), Vals xs us → Vals (xs.set i x) (us.set i u)
  | _, _, _, .nil => .nil
  | _, _, 0, .cons _ t => .cons r t
  | _, _, i + 1, .cons q t => .cons q (Vals.set r i t)
theorem Vals.append : ∀ {xs ys : List V} {us ws : List Value}, Vals xs us → Vals ys ws → Vals (xs ++ ys) (us ++ ws)
  | _, _, _, _, .nil, s => s
  | _, _, _, _, .cons r t, s => .cons r (Vals.append t s)
theorem Vals.take : ∀ {xs : List V} {us : List Value} (n : Nat), Vals xs us → Vals (xs.take n) (us.take n)
  | _, _, 0, _ => .nil
  | _, _, _ + 1, .nil => .nil
  | _, _, n + 1, .cons r t => .cons r (Vals.take n t)
theorem Vals.drop : ∀ {xs : List V} {us : List Value} (n : Nat), Vals xs us → Vals (xs.drop n) (us.drop n)
  | _, _, 0, r => r
  | _, _, _ + 1, .nil => .nil
  | _, _, n + 1, .cons _ t => Vals.drop n t
theorem Vals.none_of : ∀ {xs : List V} {us : List Value} {i : Nat}, Vals xs us → xs[i]? = none → us[i]? = none := fun {xs us i} r e => by
  have h1 := r.length
  have h2 : xs.length ≤ i := List.getElem?_eq_none_iff.mp e
  exact List.getElem?_eq_none_iff.mpr (by omega)

def RelO : Option V → Option Value → Prop
  | some v, some u => RelV v u
  | none, none => True
  | _, _ => False
def KV {κ : Type} : List (κ × V) → List (κ × Value) → Prop := Paired fun (p : κ × V) (q : κ × Value) => p.1 = q.1 ∧ RelV p.2 q.2

/-- a key of a dict (00_mix): an int or a text -/
def kV : Key → V
  | .inl i => .int i
  | .inr x => .str x

/-- what stands at a tracked address -/
inductive HO where
  /-- a list -/
  | lst (xs : List V)
  /-- a tuple (never changes) -/
  | tup (xs : List V)
  /-- a dict whose keys are ints and texts; one whose keys are tuples of ints and texts (the empty one is both) -/
  | dK (kvs : List (Key × V)) | dT (kvs : List (List Key × V))
  /-- a set of ints: its members, its size -/
  | set (S : Int → Bool) (n : Nat)
  /-- an instance of the class at C, its dict at dx, its attributes -/
  | ins (C dx : Addr) (fs : List (Str × V))
  /-- the dict of the instance at x -/
  | own (x : Addr)
  /-- the dict of an exception -/
  | xd (fs : List (Str × V))
  /-- a bound method, f of x -/
  | met (f x : Addr)
  /-- a range object lo, lo + 1, .. below hi -/
  | rng (lo hi : Int)
  /-- a thing that is known to the object (the script; a dict while a loop walks it): read, never written while it is so -/
  | frz (o : Obj) (u : HO)
  /-- a code object's table -/
  | tbl (ps : Array Value)
  /-- any other thing, by what is true of its one object (a def of one's own: SetO a S n := HO.ext fun h => ..) -/
  | ext (φ : Heap → Prop)

abbrev Hp := Addr → Option HO
def upd (H : Hp) (a : Addr) (o : HO) : Hp := fun b => if b = a then some o else H b
theorem upd_same {H : Hp} {a : Addr} {o : HO} : upd H a o a = some o := by unfold upd; rw [if_pos rfl]
theorem upd_ne {H : Hp} {a b : Addr} {o : HO} (h : b ≠ a) : upd H a o b = H b := by unfold upd; rw [if_neg h]
theorem ne_of_none {H : Hp} {a b : Addr} {o : HO} (h : H a = some o) (h' : H b = none) : a ≠ b := by
  intro e; subst e; rw [h] at h'; cases h'

section
variable (P : Program) (w : World)
def ObjOk (H : Hp) (h : Heap) (a : Addr) : HO → Prop
  | .lst xs => xs.length ≤ sizeLine ∧ ∃ (its : List Value) (n : Nat), Vals xs its ∧ h.get? a = some { cls := .type "list", data := .seq its.toArray n }
  | .tup xs => xs.length ≤ sizeLine ∧ ∃ its : List Value, Vals xs its ∧ IsTup h a its.toArray
  | .dK kvs => kvs.length ≤ sizeLine ∧ (a == sysModules) = false ∧ ∃ vs, KV kvs vs ∧ h.DictOf (mixKind P w) a vs
  | .dT kvs => kvs.length ≤ sizeLine ∧ (a == sysModules) = false ∧ ∃ xs : List (List Key × Addr × Value),
      Paired (fun (p : List Key × V) (q : List Key × Addr × Value) => p.1 = q.1 ∧ H q.2.1 = some (.tup (p.1.map kV)) ∧ RelV p.2 q.2.2) kvs xs ∧
      ∃ o es ep, h.get? a = some o ∧ o.ExactDict ∧ o.data = .dict es ep ∧ es.toList = xs.map (entryOfKey (tupleKind (mixKind P w))) ∧ (xs.map (·.1)).Nodup
  | .set S n => h.SetOf (intKind P w) a S n
  | .ins C dx fs => H dx = some (.own a) ∧ fs.length ≤ 1000 ∧ dx ≠ a ∧ h.get? a = some (PySem.W.instObj C dx) ∧
      ∃ mA, h.Ns1 dx mA ∧ (∀ f, RelO (fs.lookup f) (mA f)) ∧ PySem.Within mA (fs.map (·.1))
  | .own _ => ∃ o, h.get? a = some o
  | .xd fs => ∃ mA, h.Ns1 a mA ∧ ∀ f, RelO (fs.lookup f) (mA f)
  | .rng lo hi => ∃ t u v, h.get? a = some { cls := .type "range", data := .fields #[.int lo t, .int hi u, .int 1 v] }
  | .frz o u => h.get? a = some o ∧ ObjOk H h a u
  | .tbl ps => h.get? a = some { cls := .none, data := .fields ps }
  | .met f x => h.get? a = some (PySem.W.methodObj (.ref f) (.ref x))
  | .ext φ => φ h ∧ (∃ o, h.get? a = some o) ∧ ∀ h1 h2 : Heap, φ h1 → (∀ o, h1.get? a = some o → h2.get? a = some o) → φ h2
/-- the abstract heap is held -/
def HOk (H : Hp) (h : Heap) : Prop := ∀ a o, H a = some o → ObjOk P w H h a o
end

section
variable {P : Program} {w : World} {H H' : Hp} {h h' : Heap} {a : Addr} {o : HO}
theorem ObjOk.lt (x : ObjOk P w H h a o) : a < h.objs.size := by
  cases o with
  | lst xs => obtain ⟨_, _, _, _, e⟩ := x; exact Heap.lt_size e
  | tup xs => obtain ⟨_, _, _, p⟩ := x; exact p.lt
  | dK kvs => obtain ⟨_, _, _, _, o, _, _, e, _⟩ := x; exact Heap.lt_size e
  | dT kvs => obtain ⟨_, _, _, _, o, _, _, e, _⟩ := x; exact Heap.lt_size e
  | set S n => obtain ⟨o, _, _, _, e, _⟩ := x; exact Heap.lt_size e
  | ins C dx fs => obtain ⟨_, _, _, e, _⟩ := x; exact Heap.lt_size e
  | own y => obtain ⟨_, e⟩ := x; exact Heap.lt_size e
  | xd fs => obtain ⟨_, ⟨_, _, _, e, _⟩, _⟩ := x; exact Heap.lt_size e
  | rng lo hi => obtain ⟨_, _, _, e⟩ := x; exact Heap.lt_size e
  | frz ob u => obtain ⟨e, _⟩ := x; exact Heap.lt_size e
  | tbl ps => exact Heap.lt_size (show h.get? a = some _ from x)
  | met f y => exact Heap.lt_size (show h.get? a = some _ from x)
  | ext φ => obtain ⟨_, ⟨_, e⟩, _⟩ := x; exact Heap.lt_size e
theorem Paired.mapP {α β : Type} {F G : α → β → Prop} : ∀ {l₁ : List α} {l₂ : List β}, Paired F l₁ l₂ → (∀ a b, F a b → G a b) → Paired G l₁ l₂
  | _, _, .nil, _ => .nil
  | _, _, .cons r t, f => .cons (f _ _ r) (Paired.mapP t f)
/-- what an object's description leans on: its own object, its own dict, the tuples -/
theorem ObjOk.stay (x : ObjOk P w H h a o) (k : ∀ b u, (b = a ∨ H b = some (.own a)) → h.get? b = some u → h'.get? b = some u)
    (ho : ∀ b, H b = some (.own a) → H' b = some (.own a)) (ht : ∀ b xs, H b = some (.tup xs) → H' b = some (.tup xs)) : ObjOk P w H' h' a o := by
  induction o with
  | lst xs => obtain ⟨z, its, n, r, e⟩ := x; exact ⟨z, its, n, r, k _ _ (.inl rfl) e⟩
  | tup xs => obtain ⟨z, its, r, ob, e, c⟩ := x; exact ⟨z, its, r, ob, k _ _ (.inl rfl) e, c⟩
  | dK kvs => obtain ⟨z, y, vs, r, ob, es, ep, e, c⟩ := x; exact ⟨z, y, vs, r, ob, es, ep, k _ _ (.inl rfl) e, c⟩
  | dT kvs =>
    obtain ⟨z, y, xs, r, ob, es, ep, e, c⟩ := x
    exact ⟨z, y, xs, Paired.mapP r fun p q z => ⟨z.1, ht _ _ z.2.1, z.2.2⟩, ob, es, ep, k _ _ (.inl rfl) e, c⟩
  | set S n => obtain ⟨ob, es, ep, t, e, c⟩ := x; exact ⟨ob, es, ep, t, k _ _ (.inl rfl) e, c⟩
  | ins C dx fs =>
    obtain ⟨d, z, ne, e, mA, ⟨od, es, ep, e2, c⟩, r⟩ := x
    exact ⟨ho _ d, z, ne, k _ _ (.inl rfl) e, mA, ⟨od, es, ep, k _ _ (.inr d) e2, c⟩, r⟩
  | own y => obtain ⟨ob, e⟩ := x; exact ⟨ob, k _ _ (.inl rfl) e⟩
  | xd fs => obtain ⟨mA, ⟨od, es, ep, e, c⟩, r⟩ := x; exact ⟨mA, ⟨od, es, ep, k _ _ (.inl rfl) e, c⟩, r⟩
  | rng lo hi => obtain ⟨t, u, v, e⟩ := x; exact ⟨t, u, v, k _ _ (.inl rfl) e⟩
  | frz ob u ih => obtain ⟨e, q⟩ := x; exact ⟨k _ _ (.inl rfl) e, ih q⟩
  | tbl ps =>
    have e : h.get? a = some { cls := .none, data := .fields ps } := x
    show h'.get? a = some { cls := .none, data := .fields ps }
    exact k a _ (.inl rfl) e
  | met f y =>
    have e : h.get? a = some (PySem.W.methodObj (.ref f) (.ref y)) := x
    show h'.get? a = some (PySem.W.methodObj (.ref f) (.ref y))
    exact k a _ (.inl rfl) e
  | ext φ => obtain ⟨p, ⟨o, e⟩, st⟩ := x; exact ⟨st _ _ p fun o q => k _ _ (.inl rfl) q, ⟨o, k _ _ (.inl rfl) e⟩, st⟩
theorem HOk.lt (x : HOk P w H h) (e : H a = some o) : a < h.objs.size := (x a o e).lt
theorem HOk.fresh (x : HOk P w H h) (e : h.objs.size ≤ a) : H a = none := by
  cases q : H a with
  | none => rfl
  | some u => exact absurd (Nat.lt_of_lt_of_le (x.lt q) e) (Nat.lt_irrefl _)
/-- every object of the heap is kept -/
theorem HOk.kept (x : HOk P w H h) (k : ∀ b u, h.get? b = some u → h'.get? b = some u) : HOk P w H h' := fun a o e =>
  (x a o e).stay (fun b u _ q => k b u q) (fun _ q => q) fun _ _ q => q
/-- a new object is laid and tracked -/
theorem HOk.laid (x : HOk P w H h) (k : ∀ b u, h.get? b = some u → h'.get? b = some u) (hp : h.objs.size ≤ a) (new : ObjOk P w (upd H a o) h' a o) : HOk P w (upd H a o) h' := fun b u e => by
  have hn := x.fresh hp
  by_cases hb : b = a
  · subst hb; rw [upd_same] at e; cases e; exact new
  · rw [upd_ne hb] at e
    exact (x b u e).stay (fun c v _ q => k c v q) (fun c q => by rw [upd_ne (ne_of_none q hn)]; exact q) fun c xs q => by rw [upd_ne (ne_of_none q hn)]; exact q
end

/-- what may be read as u: it is u, or a known u -/
def Rd (H : Hp) (a : Addr) (u : HO) : Prop := H a = some u ∨ ∃ o, H a = some (.frz o u)
theorem Rd.ok {P : Program} {w : World} {H : Hp} {h : Heap} {a : Addr} {u : HO} (r : Rd H a u) (x : HOk P w H h) : ObjOk P w H h a u := by
  rcases r with r | ⟨o, r⟩
  · exact x a u r
  · obtain ⟨_, q⟩ := x a _ r
    exact q
/-- what may be written -/
def Mut : Option HO → Prop
  | some (.lst _) => True
  | some (.dK _) => True
  | some (.dT _) => True
  | some (.set _ _) => True
  | some (.ins _ _ _) => True
  | some (.ext _) => True
  | _ => False
section
variable {P : Program} {w : World} {H : Hp} {h h' : Heap} {x e : Addr} {o' : HO}
/-- the object at e is changed: x itself, or the dict of the instance x -/
theorem HOk.write (ok : HOk P w H h) (mu : Mut (H x)) (he : e = x ∨ H e = some (.own x)) (k : ∀ b u, b ≠ e → h.get? b = some u → h'.get? b = some u) (heo : ∃ u, h'.get? e = some u)
    (new : ObjOk P w (upd H x o') h' x o') : HOk P w (upd H x o') h' := fun b u q => by
  have nown : ∀ c y, H c = some (.own y) → c ≠ x := fun c y r z => by subst z; rw [r] at mu; exact mu
  have ntup : ∀ c xs, H c = some (.tup xs) → c ≠ x := fun c xs r z => by subst z; rw [r] at mu; exact mu
  by_cases hb : b = x
  · subst hb; rw [upd_same] at q; cases q; exact new
  · rw [upd_ne hb] at q
    by_cases hbe : b = e
    · have q' : H b = some (.own x) := by
        rcases he with z | z
        · exact absurd (hbe.trans z) hb
        · rw [hbe]; exact z
      rw [q] at q'; cases q'
      obtain ⟨v, hv⟩ := heo
      exact ⟨v, by rw [hbe]; exact hv⟩
    · refine (ok b u q).stay (fun c v hc r => k c v ?_ r) (fun c r => by rw [upd_ne (nown c b r)]; exact r) fun c xs r => by rw [upd_ne (ntup c xs r)]; exact r
      rcases hc with rfl | hc
      · exact hbe
      · rintro rfl
        rcases he with z | z
        · exact nown c b hc z
        · rw [hc] at z; cases z; exact hb rfl
end

structure Un (fs ex : List Addr) (H H' : Hp) (h h' : Heap) : Prop where
  keep : ∀ b o, h.get? b = some o → H b = none → b ∉ fs → b ∉ ex → h'.get? b = some o
  slot : ∀ b o, h.get? b = some o → H b = none → b ∈ fs → b ∉ ex → ∃ sl, h'.get? b = some { o with slots := sl }
  free : ∀ b o, h.get? b = some o → H b = none → b ∉ ex → H' b = none
  there : ∀ b o, h.get? b = some o → b ∉ ex → ∃ o', h'.get? b = some o'
  tups : ∀ b xs, H b = some (.tup xs) → H' b = some (.tup xs)
  frzs : ∀ b o u, H b = some (.frz o u) → H' b = some (.frz o u)
  tbls : ∀ b ps, H b = some (.tbl ps) → ∃ more, H' b = some (.tbl (ps ++ more))
section
variable {fs fs' ex ex' : List Addr} {H H1 H2 : Hp} {h h1 h2 h' : Heap} {a x e : Addr} {o : HO}
theorem Un.any (u : Un fs ex H H1 h h1) {b : Addr} {ob : Obj} (q : h.get? b = some ob) (n : H b = none) (hx : b ∉ ex) : ∃ sl, h1.get? b = some { ob with slots := sl } := by
  by_cases hb : b ∈ fs
  · exact u.slot b ob q n hb hx
  · exact ⟨ob.slots, u.keep b ob q n hb hx⟩
theorem Un.kept (k : ∀ b u, h.get? b = some u → h'.get? b = some u) : Un fs ex H H h h' :=
  ⟨fun b ob q _ _ _ => k b ob q, fun b ob q _ _ _ => ⟨ob.slots, k b ob q⟩, fun _ _ _ n _ => n, fun b ob q _ => ⟨ob, k b ob q⟩, fun _ _ q => q, fun _ _ _ q => q, fun _ ps q => ⟨#[], by rw [q]; simp⟩⟩
theorem Un.refl : Un fs ex H H h h := Un.kept fun _ _ q => q
theorem Un.laid (k : ∀ b u, h.get? b = some u → h'.get? b = some u) (hp : h.objs.size ≤ a) (hn : H a = none) : Un fs ex H (upd H a o) h h' where
  keep := fun b u q _ _ _ => k b u q
  slot := fun b u q _ _ _ => ⟨u.slots, k b u q⟩
  free := fun b u q n _ => by rw [upd_ne (Nat.ne_of_lt (Nat.lt_of_lt_of_le (Heap.lt_size q) hp))]; exact n
  there := fun b u q _ => ⟨u, k b u q⟩
  tups := fun b xs q => by rw [upd_ne (ne_of_none q hn)]; exact q
  frzs := fun b u xs q => by rw [upd_ne (ne_of_none q hn)]; exact q
  tbls := fun b ps q => ⟨#[], by rw [upd_ne (ne_of_none q hn), q]; simp⟩
theorem Un.write (mu : Mut (H x)) (he : e = x ∨ H e = some (.own x)) (k : ∀ b u, b ≠ e → h.get? b = some u → h'.get? b = some u) (heo : ∃ u, h'.get? e = some u) : Un fs ex H (upd H x o) h h' := by
  have hx : ∀ b, H b = none → b ≠ x := fun b n z => by subst z; rw [n] at mu; exact mu
  have hb : ∀ b, H b = none → b ≠ e := fun b n z => by
    subst z
    rcases he with r | r
    · exact hx b n r
    · rw [n] at r; cases r
  have hm : ∀ b u, H b = some u → ¬ Mut (some u) → b ≠ x := fun b u q nm z => by subst z; rw [q] at mu; exact nm mu
  refine ⟨fun b u q n _ _ => k b u (hb b n) q, fun b u q n _ _ => ⟨u.slots, k b u (hb b n) q⟩, fun b u q n _ => by rw [upd_ne (hx b n)]; exact n, fun b u q _ => ?_,
    fun b xs q => by rw [upd_ne (hm b _ q fun z => z)]; exact q, fun b u xs q => by rw [upd_ne (hm b _ q fun z => z)]; exact q, fun b ps q => ⟨#[], by rw [upd_ne (hm b _ q fun z => z), q]; simp⟩⟩
  by_cases hbe : b = e
  · subst hbe; exact heo
  · exact ⟨u, k b u hbe q⟩
theorem Un.mono (u : Un fs ex H H1 h h1) (hs : ∀ b ∈ fs, b ∈ fs') (hx : ∀ b ∈ ex, b ∈ ex') : Un fs' ex' H H1 h h1 :=
  ⟨fun b ob q n hb he => u.keep b ob q n (fun z => hb (hs b z)) fun z => he (hx b z), fun _ _ q n _ he => u.any q n fun z => he (hx _ z), fun b ob q n he => u.free b ob q n fun z => he (hx b z), fun b ob q he => u.there b ob q fun z => he (hx b z), u.tups, u.frzs, u.tbls⟩
end

def trk (h : Heap) (H : Hp) : List Addr := (List.range h.objs.size).filter fun a => (H a).isSome
def hidT (h : Heap) (H : Hp) : Heap := PySem.W.hideAll h (trk h H)
theorem hidT_size (h : Heap) (H : Hp) : (hidT h H).objs.size = h.objs.size := PySem.W.hideAll_size _ _
theorem hidT_get {h : Heap} {H : Hp} {b : Addr} {o : Obj} (e : h.get? b = some o) (n : H b = none) : (hidT h H).get? b = some o :=
  PySem.W.hideAll_get _ e fun hm => by
    have q : (H b).isSome = true := (List.mem_filter.mp hm).2
    rw [n] at q; simp at q
theorem of_hidT {h : Heap} {H : Hp} {b : Addr} {o : Obj} (e : (hidT h H).get? b = some o) : h.get? b = some o ∧ H b = none := by
  have e' : h.get? b = some o := PySem.W.of_hideAll (trk h H) e
  refine ⟨e', ?_⟩
  cases q : H b with
  | none => rfl
  | some x =>
    have hm : b ∈ trk h H := List.mem_filter.mpr ⟨List.mem_range.mpr (Heap.lt_size e'), by simp [q]⟩
    have z : (hidT h H).get? b = none := PySem.W.hideAll_none (trk h H) hm
    rw [z] at e; cases e

def allNews (g h : Heap) (L : Addr) : List (Addr × Obj) := (List.range h.objs.size).filterMap fun a => if a = L ∨ (g.get? a).isSome = true then none else (h.get? a).map fun o => (a, o)
def rest (g h : Heap) (L d : Addr) : List (Addr × Obj) := (allNews g h L).filter fun p => decide (p.1 ≠ d)
end L2

namespace L2
open PySem PySem.Spec PyProof.Rows

/-- the module's facts, over the base: the heap at the law's entry without what is tracked there -/
structure Mod (K : PySem.W.Frag) (mg : Str → Option Value) (base : Heap) : Prop where
  kin : K.In base
  glob : base.Ns mainGlobals mg
  blt : ∃ mb, base.Ns builtinsNs mb ∧ ∀ x : Str, x ≠ "__name__" → mb x = bootBuiltins x
  nolimit : base.NoLimit

/-- the context: a def's body (or a comprehension's block) running. base: fixed through the whole law; s₀, H₀: the entry; outer: the frames whose slots others may change (a def's callers); stack: all frames that run;
   ex: iterators that were made ahead of the entry and are walked here (a comprehension's); fn: the names whose cells were made at the entry (a def: all; a comprehension's block: its own); calm: not within an except suite; pn: pins that every state bears; xe: what is wanted of an exception that leaves the code -/
structure Cx where
  prog : Program
  w : World
  K : PySem.W.Frag
  mg : Str → Option Value
  base : Heap
  A : Around
  N : List Str
  s₀ : Shared
  H₀ : Hp
  env : Env
  outer : List Env
  stack : List Env
  ex : List Addr
  fn : Str → Bool
  calm : Bool
  pn : List (Addr × Obj)
  xe : Value → Shared → Prop
/-- the callers' frames -/
def frs (l : List Env) : List Addr := l.filterMap (·.frame)
abbrev Cx.fs (X : Cx) : List Addr := frs X.outer

def Vis (sc : Scope) (x : Str) : Prop := sc.names.lookup x = some .local ∨ sc.names.lookup x = some .cell ∨ sc.names.lookup x = some .free
def Loc (sc : Scope) (x : Str) : Prop := sc.names.lookup x = some .local ∨ sc.names.lookup x = some .cell
def Look (env : Env) (h : Heap) (m : Str → Option Value) (x : Str) (u : Value) : Prop :=
  (env.kindOf x = some .local ∧ m x = some u) ∨ ((env.kindOf x = some .cell ∨ env.kindOf x = some .free) ∧ ∃ c, env.cells.lookup x = some c ∧ h.IsCell c (some u))

structure Cx.Ok (X : Cx) : Prop where
  mod : Mod X.K X.mg X.base
  kind : X.env.scope.kind = .function
  glob : X.env.globals = mainGlobals
  blt : X.env.builtins = builtinsNs
  above : X.s₀.heap.objs.size ≤ X.env.locals
  inj : ∀ x y c, X.env.cells.lookup x = some c → X.env.cells.lookup y = some c → x = y
  has : ∀ x, (X.env.kindOf x = some .cell ∨ X.env.kindOf x = some .free) → ∃ c, X.env.cells.lookup x = some c
  cab : ∀ x c, X.fn x = true → X.env.cells.lookup x = some c → X.s₀.heap.objs.size ≤ c
  hd : X.calm = true → X.A.handled = none
  frames : X.A.frames = some X.stack
  stk : X.stack = X.outer ∨ (X.stack = X.env :: X.outer ∧ X.env.frame = some X.env.locals)
  exf : ∀ b ∈ X.ex, b ≠ X.env.locals ∧ ∀ x c, X.env.cells.lookup x = some c → c ≠ b
  bs : ∀ b o, X.base.get? b = some o → X.s₀.heap.get? b = some o ∧ X.H₀ b = none
  bsz : X.base.objs.size ≤ X.s₀.heap.objs.size
  noex : ∀ b o, X.base.get? b = some o → b ∉ X.ex
  exfs : ∀ b ∈ X.ex, b ∉ X.fs
  funs : X.s₀.heap.FunFrames X.base X.outer
  frf : ∀ b ∈ X.fs, X.H₀ b = none

structure Inv (X : Cx) (pins : List (Addr × Obj)) (σ : List (Option V)) (H : Hp) (s : Shared) : Prop where
  ok : X.Ok
  os : s.os = X.s₀.os
  bare : AllBare s.gens
  base : Un X.fs X.ex X.H₀ H X.s₀.heap s.heap
  loc : ∃ m, s.heap.Ns X.env.locals m ∧ ∀ (i : Nat) (x : Str) (v : V), X.N[i]? = some x → σ[i]? = some (some v) → Vis X.env.scope x → ∃ u, RelV v u ∧ Look X.env s.heap m x u
  cell : ∀ x c, X.env.cells.lookup x = some c → ∃ v, s.heap.IsCell c v
  free : H X.env.locals = none
  freeC : ∀ x c, X.env.cells.lookup x = some c → H c = none
  pin : ∀ p ∈ X.pn ++ pins, s.heap.get? p.1 = some p.2 ∧ H p.1 = none ∧ p.1 ≠ X.env.locals ∧ p.1 ∉ X.fs ∧ ∀ v, p.2.data ≠ .cell v
  hok : HOk X.prog X.w H s.heap
  len : σ.length = X.N.length

section
variable {X : Cx} {pins : List (Addr × Obj)} {σ : List (Option V)} {H H' : Hp} {s : Shared} {h' : Heap}

theorem Cx.Ok.nofr (ok : X.Ok) {b : Addr} {o : Obj} (e : X.base.get? b = some o) : b ∉ X.fs := fun hb => by
  have := (ok.funs.mem hb).1
  rw [e] at this; cases this
theorem Inv.bs (I : Inv X pins σ H s) : ∀ b o, X.base.get? b = some o → s.heap.get? b = some o ∧ H b = none := fun b o e =>
  ⟨I.base.keep b o (I.ok.bs b o e).1 (I.ok.bs b o e).2 (I.ok.nofr e) (I.ok.noex b o e), I.base.free b o (I.ok.bs b o e).1 (I.ok.bs b o e).2 (I.ok.noex b o e)⟩
theorem Inv.bk (I : Inv X pins σ H s) : ∀ b o, X.base.get? b = some o → s.heap.get? b = some o := fun b o e => (I.bs b o e).1
theorem Inv.mod (I : Inv X pins σ H s) : Mod X.K X.mg X.base := I.ok.mod
theorem Inv.kIn (I : Inv X pins σ H s) : X.K.In s.heap := I.ok.mod.kin.keeps I.bk
theorem Inv.nolimit (I : Inv X pins σ H s) : s.heap.NoLimit := I.ok.mod.nolimit.keeps I.bk
theorem Inv.lt (I : Inv X pins σ H s) : X.env.locals < s.heap.objs.size := let ⟨_, hn, _⟩ := I.loc; hn.lt
theorem Inv.sz (I : Inv X pins σ H s) : X.s₀.heap.objs.size ≤ s.heap.objs.size := Nat.le_trans I.ok.above (Nat.le_of_lt I.lt)
theorem Inv.nofs (I : Inv X pins σ H s) {a : Addr} (h : s.heap.objs.size ≤ a) : a ∉ X.fs := fun hb => by
  obtain ⟨_, o, ho, _⟩ := I.ok.funs.mem hb
  exact absurd (Nat.lt_of_lt_of_le (Heap.lt_size ho) (Nat.le_trans I.sz h)) (Nat.lt_irrefl _)
theorem Inv.cne (I : Inv X pins σ H s) : ∀ x c, X.env.cells.lookup x = some c → c ≠ X.env.locals := fun x c e z => by
  obtain ⟨v, o, ho, hd⟩ := I.cell x c e
  obtain ⟨m, ⟨o', es, ep, ho', hd', _⟩, _⟩ := I.loc
  rw [z, ho'] at ho; cases ho; rw [hd'] at hd; cases hd
theorem Inv.funs (I : Inv X pins σ H s) : s.heap.FunFrames X.base X.outer := by
  have all : ∀ (l : List Env), (∀ b ∈ frs l, b ∈ X.fs) → X.s₀.heap.FunFrames X.base l → s.heap.FunFrames X.base l := by
    intro l
    induction l with
    | nil => intro _ _; trivial
    | cons env r ih =>
      intro hs hl
      obtain ⟨hk, ⟨L, o, hf, hn, ho, hd⟩, hr⟩ := hl
      have hL : L ∈ X.fs := hs L (by unfold frs; rw [List.filterMap_cons, hf]; exact List.mem_cons_self)
      obtain ⟨sl, e⟩ := I.base.slot L o ho (I.ok.frf L hL) hL fun z => I.ok.exfs L z hL
      exact ⟨hk, ⟨L, _, hf, hn, e, hd⟩, ih (fun b hb => hs b (by unfold frs; rw [List.filterMap_cons, hf]; exact List.mem_cons_of_mem _ hb)) hr⟩
  exact all X.outer (fun _ hb => hb) I.ok.funs

/-- the frames that run, for a call -/
theorem Inv.stack (I : Inv X pins σ H s) : s.heap.FunFrames X.base X.stack := by
  rcases I.ok.stk with e | ⟨e, hf⟩
  · rw [e]; exact I.funs
  · rw [e]
    obtain ⟨m, hn, _⟩ := I.loc
    refine .cons (by rw [I.ok.kind]; decide) hf hn ?_ I.funs
    exact Heap.get?_none_of_le (Nat.le_trans I.ok.bsz I.ok.above)
theorem Inv.stkSub (I : Inv X pins σ H s) : ∀ b ∈ frs X.stack, b ∈ X.env.locals :: X.fs := fun b hb => by
  rcases I.ok.stk with e | ⟨e, hf⟩
  · rw [e] at hb; exact List.mem_cons_of_mem _ hb
  · rw [e] at hb
    unfold frs at hb
    rw [List.filterMap_cons, hf] at hb
    exact hb
theorem Inv.stkFree (I : Inv X pins σ H s) : ∀ b ∈ frs X.stack, H b = none := fun b hb => by
  rcases List.mem_cons.mp (I.stkSub b hb) with e | hb
  · rw [e]; exact I.free
  · obtain ⟨_, o, ho, _⟩ := I.ok.funs.mem hb
    exact I.base.free b o ho (I.ok.frf b hb) fun z => I.ok.exfs b z hb

/-- THE STEP: the untracked objects but the frame and the records at ch are kept (the callers' frames up to slots), the frame's map is kept, the new abstract heap is held -/
theorem Inv.step {g' : Array GenState} {t' : Nat} {d' : Drawn} {ch : List Addr} (I : Inv X pins σ H s)
    (hch : ∀ b ∈ ch, (b ∈ X.ex ∨ X.s₀.heap.objs.size ≤ b) ∧ b ≠ X.env.locals ∧ (∀ x c, X.env.cells.lookup x = some c → c ≠ b) ∧ ∀ p ∈ X.pn ++ pins, p.1 ≠ b)
    (keep : ∀ b o, b ≠ X.env.locals → b ∉ X.fs → b ∉ ch → s.heap.get? b = some o → H b = none → h'.get? b = some o)
    (slot : ∀ b o, b ≠ X.env.locals → b ∈ X.fs → b ∉ ch → s.heap.get? b = some o → H b = none → ∃ sl, h'.get? b = some { o with slots := sl }) (free : ∀ b o, b ∉ ch → s.heap.get? b = some o → H b = none → H' b = none)
    (there : ∀ b o, b ∉ ch → s.heap.get? b = some o → ∃ o', h'.get? b = some o')
    (tups : ∀ b xs, H b = some (.tup xs) → H' b = some (.tup xs)) (frzs : ∀ b o u, H b = some (.frz o u) → H' b = some (.frz o u)) (tbls : ∀ b ps, H b = some (.tbl ps) → ∃ more, H' b = some (.tbl (ps ++ more)))
    (ns : ∀ m, s.heap.Ns X.env.locals m → h'.Ns X.env.locals m) (hok : HOk X.prog X.w H' h') (hg : AllBare g') :
    Inv X pins σ H' { s with heap := h', gens := g', drawn := d', toks := t' } := by
  have neL : ∀ b o, X.s₀.heap.get? b = some o → b ≠ X.env.locals := fun b o e => Nat.ne_of_lt (Nat.lt_of_lt_of_le (Heap.lt_size e) I.ok.above)
  have neC : ∀ b o, X.s₀.heap.get? b = some o → b ∉ X.ex → b ∉ ch := fun b o e hx hb => by
    rcases (hch b hb).1 with z | z
    · exact hx z
    · exact absurd (Nat.lt_of_lt_of_le (Heap.lt_size e) z) (Nat.lt_irrefl _)
  have cellK : ∀ x c, X.env.cells.lookup x = some c → ∀ v, s.heap.IsCell c v → h'.IsCell c v := fun x c e v ⟨o, ho, hd⟩ => by
    have nch : c ∉ ch := fun z => (hch c z).2.2.1 x c e rfl
    by_cases hc : c ∈ X.fs
    · obtain ⟨sl, q⟩ := slot c o (I.cne x c e) hc nch ho (I.freeC x c e)
      exact ⟨_, q, hd⟩
    · exact ⟨o, keep c o (I.cne x c e) hc nch ho (I.freeC x c e), hd⟩
  refine ⟨I.ok, I.os, hg, ⟨fun b o e n hb hx => ?_, fun b o e n hb hx => ?_, fun b o e n hx => ?_, fun b o e hx => ?_, fun b xs e => tups b xs (I.base.tups b xs e), fun b o xs e => frzs b o xs (I.base.frzs b o xs e), fun b ps e => ?_⟩, ?_, fun x c e => ?_, ?_, fun x c e => ?_, fun p hp => ?_, hok, I.len⟩
  · exact keep b o (neL b o e) hb (neC b o e hx) (I.base.keep b o e n hb hx) (I.base.free b o e n hx)
  · obtain ⟨sl, e1⟩ := I.base.slot b o e n hb hx
    obtain ⟨sl', e2⟩ := slot b _ (neL b o e) hb (neC b o e hx) e1 (I.base.free b o e n hx)
    exact ⟨sl', e2⟩
  · obtain ⟨o', e1⟩ := I.base.there b o e hx
    exact free b o' (neC b o e hx) e1 (I.base.free b o e n hx)
  · obtain ⟨o', e1⟩ := I.base.there b o e hx
    exact there b o' (neC b o e hx) e1
  · obtain ⟨m1, e1⟩ := I.base.tbls b ps e
    obtain ⟨m2, e2⟩ := tbls b _ e1
    exact ⟨m1 ++ m2, by rw [e2, Array.append_assoc]⟩
  · obtain ⟨m, hn, hl⟩ := I.loc
    refine ⟨m, ns m hn, fun i x v e1 e2 e3 => ?_⟩
    obtain ⟨u, r, l⟩ := hl i x v e1 e2 e3
    refine ⟨u, r, ?_⟩
    rcases l with l | ⟨k, c, e, z⟩
    · exact .inl l
    · exact .inr ⟨k, c, e, cellK x c e _ z⟩
  · obtain ⟨v, z⟩ := I.cell x c e
    exact ⟨v, cellK x c e v z⟩
  · obtain ⟨m, ⟨o, _, _, ho, _⟩, _⟩ := I.loc
    exact free _ o (fun z => (hch _ z).2.1 rfl) ho I.free
  · obtain ⟨v, o, ho, hd⟩ := I.cell x c e
    exact free c o (fun z => (hch c z).2.2.1 x c e rfl) ho (I.freeC x c e)
  · obtain ⟨e, n, ne, nf, d⟩ := I.pin p hp
    have nch : p.1 ∉ ch := fun z => (hch p.1 z).2.2.2 p hp rfl
    exact ⟨keep p.1 p.2 ne nf nch e n, free p.1 p.2 nch e n, ne, nf, d⟩
/-- .. where the frame's own object is kept too -/
theorem Inv.un {t' : Nat} (I : Inv X pins σ H s) (u : Un X.fs [] H H' s.heap h') (hok : HOk X.prog X.w H' h') : Inv X pins σ H' { s with heap := h', toks := t' } := by
  obtain ⟨m, ⟨o, es, ep, ho, r⟩, _⟩ := id I.loc
  obtain ⟨sl, hL⟩ := u.any ho I.free (by simp)
  exact I.step (g' := s.gens) (d' := s.drawn) (ch := []) (fun _ z => nomatch z) (fun b o _ hb _ e n => u.keep b o e n hb (by simp)) (fun b o _ hb _ e n => u.slot b o e n hb (by simp)) (fun b o _ e n => u.free b o e n (by simp)) (fun b o _ e => u.there b o e (by simp)) u.tups u.frzs u.tbls (fun m' hm => by
    obtain ⟨o', es', ep', ho', r'⟩ := hm
    rw [ho] at ho'; cases ho'
    exact ⟨_, es', ep', hL, r'⟩) hok I.bare
/-- behind a call (or a comprehension's block): the slots of this frame may have changed too, the records at ch may have turned -/
theorem Inv.call {g' : Array GenState} {t' : Nat} {d' : Drawn} {ch : List Addr} (I : Inv X pins σ H s) (u : Un (frs X.stack) ch H H' s.heap h') (hok : HOk X.prog X.w H' h') (hg : AllBare g')
    (hch : ∀ b ∈ ch, (b ∈ X.ex ∨ X.s₀.heap.objs.size ≤ b) ∧ b ≠ X.env.locals ∧ (∀ x c, X.env.cells.lookup x = some c → c ≠ b) ∧ ∀ p ∈ X.pn ++ pins, p.1 ≠ b) :
    Inv X pins σ H' { s with heap := h', gens := g', drawn := d', toks := t' } := by
  obtain ⟨m, ⟨o, es, ep, ho, r⟩, _⟩ := id I.loc
  obtain ⟨sl, hL⟩ := u.any ho I.free fun z => (hch _ z).2.1 rfl
  exact I.step (ch := ch) hch (fun b o hL hb hc e n => u.keep b o e n (fun z => (List.mem_cons.mp (I.stkSub b z)).elim hL hb) hc) (fun b o _ _ hc e n => u.any e n hc) (fun b o hc e n => u.free b o e n hc) (fun b o hc e => u.there b o e hc) u.tups u.frzs u.tbls (fun m' hm => by
    obtain ⟨o', es', ep', ho', r'⟩ := hm
    rw [ho] at ho'; cases ho'
    exact ⟨_, es', ep', hL, r'⟩) hok hg
/-- an untracked record of ours (an iterator) has turned -/
theorem Inv.turned {t' : Nat} {it : Addr} (I : Inv X pins σ H s) (k : ∀ b o, b ≠ it → s.heap.get? b = some o → h'.get? b = some o) (hn : H it = none) (hL : it ≠ X.env.locals)
    (h1 : it ∈ X.ex ∨ X.s₀.heap.objs.size ≤ it) (h2 : ∀ x c, X.env.cells.lookup x = some c → c ≠ it) (h3 : ∀ p ∈ X.pn ++ pins, p.1 ≠ it) : Inv X pins σ H { s with heap := h', toks := t' } := by
  have nit : ∀ b u, H b = some u → b ≠ it := fun b u e z => by rw [z, hn] at e; cases e
  refine I.step (g' := s.gens) (d' := s.drawn) (ch := [it]) (fun b hb => ?_) (fun b o _ _ hc e _ => k b o (fun z => hc (by simp [z])) e) (fun b o _ _ hc e _ => ⟨o.slots, k b o (fun z => hc (by simp [z])) e⟩) (fun _ _ _ _ n => n)
    (fun b o hc e => ⟨o, k b o (fun z => hc (by simp [z])) e⟩) (fun _ _ e => e) (fun _ _ _ e => e) (fun b ps e => ⟨#[], by rw [e]; simp⟩) (fun m hm => ?_) (fun b u e => ?_) I.bare
  · have e : b = it := by simpa using hb
    subst e
    exact ⟨h1, hL, h2, h3⟩
  · obtain ⟨o, es, ep, ho, r⟩ := hm
    exact ⟨o, es, ep, k _ o (Ne.symm hL) ho, r⟩
  · refine (I.hok b u e).stay (fun c v hc q => k c v ?_ q) (fun _ q => q) fun _ _ q => q
    rcases hc with z | z
    · rw [z]; exact nit b u e
    · exact nit c _ z
theorem Inv.tok (I : Inv X pins σ H s) (t : Nat) : Inv X pins σ H { s with toks := t } := I.un (h' := s.heap) (t' := t) Un.refl I.hok
/-- all objects kept -/
theorem Inv.kept {t' : Nat} (I : Inv X pins σ H s) (k : ∀ b u, s.heap.get? b = some u → h'.get? b = some u) : Inv X pins σ H { s with heap := h', toks := t' } := I.un (Un.kept k) (I.hok.kept k)
/-- a new object laid and tracked -/
theorem Inv.laid {a : Addr} {o : HO} {t' : Nat} (I : Inv X pins σ H s) (k : ∀ b u, s.heap.get? b = some u → h'.get? b = some u) (hp : s.heap.objs.size ≤ a) (new : ObjOk X.prog X.w (upd H a o) h' a o) :
    Inv X pins σ (upd H a o) { s with heap := h', toks := t' } := I.un (Un.laid k hp (I.hok.fresh hp)) (I.hok.laid k hp new)
/-- an object written -/
theorem Inv.write {x e : Addr} {o : HO} {t' : Nat} (I : Inv X pins σ H s) (mu : Mut (H x)) (he : e = x ∨ H e = some (.own x)) (k : ∀ b u, b ≠ e → s.heap.get? b = some u → h'.get? b = some u) (heo : ∃ u, h'.get? e = some u)
    (new : ObjOk X.prog X.w (upd H x o) h' x o) : Inv X pins σ (upd H x o) { s with heap := h', toks := t' } := I.un (Un.write mu he k heo) (I.hok.write mu he k heo new)
/-- forgetting slots, pins -/
theorem Inv.weak {σ' : List (Option V)} (I : Inv X pins σ H s) (hl : σ'.length = σ.length) (w : ∀ (i : Nat) v, σ'[i]? = some (some v) → σ[i]? = some (some v)) : Inv X pins σ' H s :=
  ⟨I.ok, I.os, I.bare, I.base, let ⟨m, hn, hl'⟩ := I.loc; ⟨m, hn, fun i x v e1 e2 e3 => hl' i x v e1 (w i v e2) e3⟩, I.cell, I.free, I.freeC, I.pin, I.hok, hl.trans I.len⟩
theorem Inv.pins_of {pins' : List (Addr × Obj)} (I : Inv X pins σ H s) (h : ∀ p ∈ pins', s.heap.get? p.1 = some p.2 ∧ H p.1 = none ∧ p.1 ≠ X.env.locals ∧ p.1 ∉ X.fs ∧ ∀ v, p.2.data ≠ .cell v) : Inv X pins' σ H s :=
  ⟨I.ok, I.os, I.bare, I.base, I.loc, I.cell, I.free, I.freeC, fun p hp => (List.mem_append.mp hp).elim (fun z => I.pin p (List.mem_append_left _ z)) (h p), I.hok, I.len⟩

theorem nodup_ix {N : List Str} (hN : N.Nodup) {i j : Nat} {x : Str} (a : N[i]? = some x) (b : N[j]? = some x) : i = j := by
  obtain ⟨h1, e1⟩ := List.getElem?_eq_some_iff.mp a
  obtain ⟨h2, e2⟩ := List.getElem?_eq_some_iff.mp b
  exact (List.getElem_inj hN).mp (e1.trans e2.symm)

/-- a name is stored; what changed -/
theorem store_ok2 {M : Model} {A : Around} {E : Value → Shared → Prop} {i : Nat} {x : Str} {v : V} {u : Value} {Q : Unit → Shared → Prop} (I : Inv X pins σ H s) (hN : X.N.Nodup) (hi : X.N[i]? = some x) (hx : Loc X.env.scope x) (r : RelV v u)
    (h : ∀ s', Inv X pins (σ.set i (some v)) H s' → (∃ a, Heap.SameBut a s.heap s'.heap ∧ (a = X.env.locals ∨ X.env.cells.lookup x = some a)) → Q () s') (hf : X.fn x = true ∨ X.env.scope.names.lookup x = some .local := by first | exact .inl rfl | exact .inr rfl | assumption) : wpAny M A (storeName X.env x u) Q E s := by
  obtain ⟨m, hn, hl⟩ := id I.loc
  have hcls : (X.env.scope.kind == .class || (X.env.scope.kind == .module && X.env.locals != X.env.globals)) = false := by rw [I.ok.kind]; rfl
  have hiσ : i < σ.length := by rw [I.len]; exact (List.getElem?_eq_some_iff.mp hi).1
  have cne := I.cne
  have tracked : ∀ {a : Addr} {h' : Heap}, (∃ o, s.heap.get? a = some o ∧ H a = none) → Heap.SameBut a s.heap h' → HOk X.prog X.w H h' := fun {a h'} ha hs b ob e => by
    obtain ⟨_, _, hfree⟩ := ha
    refine (I.hok b ob e).stay (fun c w' hc q => (hs.2 c ?_).trans q) (fun _ q => q) fun _ _ q => q
    rintro rfl
    rcases hc with rfl | hc
    · rw [hfree] at e; cases e
    · rw [hfree] at hc; cases hc
  rcases hx with hk | hk
  · refine wpAny_storeName_local hk hn (fun h' hn' hs => ?_) hcls
    obtain ⟨oL, _, _, hoL, _⟩ := id hn
    refine h _ ⟨I.ok, I.os, I.bare, ⟨fun b o e n hb hx => ?_, fun b o e n hb hx => ?_, I.base.free, fun b o e hx => ?_, I.base.tups, I.base.frzs, I.base.tbls⟩, ⟨_, hn', fun j y v' e1 e2 e3 => ?_⟩, fun y c e => ?_, I.free, I.freeC, fun p hp => ?_, tracked ⟨oL, hoL, I.free⟩ hs, by simpa using I.len⟩ ⟨_, hs, .inl rfl⟩
    · exact (hs.2 b (Nat.ne_of_lt (Nat.lt_of_lt_of_le (Heap.lt_size e) I.ok.above))).trans (I.base.keep b o e n hb hx)
    · obtain ⟨sl, e1⟩ := I.base.slot b o e n hb hx
      exact ⟨sl, (hs.2 b (Nat.ne_of_lt (Nat.lt_of_lt_of_le (Heap.lt_size e) I.ok.above))).trans e1⟩
    · obtain ⟨o', e1⟩ := I.base.there b o e hx
      exact ⟨o', (hs.2 b (Nat.ne_of_lt (Nat.lt_of_lt_of_le (Heap.lt_size e) I.ok.above))).trans e1⟩
    · by_cases hj : j = i
      · subst hj
        rw [hi] at e1; cases e1
        rw [List.getElem?_set_self hiσ] at e2
        cases e2
        exact ⟨u, r, .inl ⟨hk, by simp⟩⟩
      · rw [List.getElem?_set_ne (Ne.symm hj)] at e2
        obtain ⟨u', r', q⟩ := hl j y v' e1 e2 e3
        refine ⟨u', r', ?_⟩
        rcases q with ⟨k, e⟩ | ⟨k, c, e, z⟩
        · refine .inl ⟨k, ?_⟩
          have : y ≠ x := fun e => hj (nodup_ix hN e1 (e ▸ hi))
          simp [this, e]
        · exact .inr ⟨k, c, e, z.sameBut hs (cne y c e)⟩
    · obtain ⟨w', z⟩ := I.cell y c e
      exact ⟨w', z.sameBut hs (cne y c e)⟩
    · obtain ⟨e, n, ne, nf, d⟩ := I.pin p hp
      exact ⟨(hs.2 p.1 ne).trans e, n, ne, nf, d⟩
  · have hfn : X.fn x = true := by
      rcases hf with z | z
      · exact z
      · rw [z] at hk; cases hk
    obtain ⟨c, hc⟩ := I.ok.has x (.inl hk)
    obtain ⟨w', z⟩ := I.cell x c hc
    refine wpAny_storeName_cell I.ok.kind hk hc z (fun h' hc' hs => ?_)
    obtain ⟨oc, hoc, hocd⟩ := id z
    refine h { s with heap := h' } ⟨I.ok, I.os, I.bare, ⟨fun b o e n hb hx => ?_, fun b o e n hb hx => ?_, I.base.free, fun b o e hx => ?_, I.base.tups, I.base.frzs, I.base.tbls⟩, ⟨m, hn.sameBut hs (Ne.symm (cne x c hc)), fun j y v' e1 e2 e3 => ?_⟩, fun y c' e => ?_, I.free, I.freeC, fun p hp => ?_, tracked ⟨oc, hoc, I.freeC x c hc⟩ hs, by simpa using I.len⟩ ⟨c, hs, .inr hc⟩
    · exact (hs.2 b (Nat.ne_of_lt (Nat.lt_of_lt_of_le (Heap.lt_size e) (I.ok.cab x c hfn hc)))).trans (I.base.keep b o e n hb hx)
    · obtain ⟨sl, e1⟩ := I.base.slot b o e n hb hx
      exact ⟨sl, (hs.2 b (Nat.ne_of_lt (Nat.lt_of_lt_of_le (Heap.lt_size e) (I.ok.cab x c hfn hc)))).trans e1⟩
    · obtain ⟨o', e1⟩ := I.base.there b o e hx
      exact ⟨o', (hs.2 b (Nat.ne_of_lt (Nat.lt_of_lt_of_le (Heap.lt_size e) (I.ok.cab x c hfn hc)))).trans e1⟩
    · by_cases hj : j = i
      · subst hj
        rw [hi] at e1; cases e1
        rw [List.getElem?_set_self hiσ] at e2
        cases e2
        exact ⟨u, r, .inr ⟨.inl hk, c, hc, hc'⟩⟩
      · rw [List.getElem?_set_ne (Ne.symm hj)] at e2
        obtain ⟨u', r', q⟩ := hl j y v' e1 e2 e3
        refine ⟨u', r', ?_⟩
        rcases q with q | ⟨k, c', e, z'⟩
        · exact .inl q
        · refine .inr ⟨k, c', e, z'.sameBut hs ?_⟩
          rintro rfl
          exact hj (nodup_ix hN e1 (I.ok.inj _ _ _ e hc ▸ hi))
    · by_cases hcc : c' = c
      · subst hcc; exact ⟨_, hc'⟩
      · obtain ⟨w2, z2⟩ := I.cell y c' e
        exact ⟨w2, z2.sameBut hs hcc⟩
    · obtain ⟨e, n, ne, nf, d⟩ := I.pin p hp
      refine ⟨(hs.2 p.1 ?_).trans e, n, ne, nf, d⟩
      intro q
      rw [q, hoc] at e
      have q' : oc = p.2 := Option.some.inj e
      exact d w' (by rw [← q']; exact hocd)
theorem store_ok {M : Model} {A : Around} {E : Value → Shared → Prop} {i : Nat} {x : Str} {v : V} {u : Value} {Q : Unit → Shared → Prop} (I : Inv X pins σ H s) (hN : X.N.Nodup) (hi : X.N[i]? = some x) (hx : Loc X.env.scope x) (r : RelV v u)
    (h : ∀ s', Inv X pins (σ.set i (some v)) H s' → Q () s') (hf : X.fn x = true ∨ X.env.scope.names.lookup x = some .local := by first | exact .inl rfl | exact .inr rfl | assumption) : wpAny M A (storeName X.env x u) Q E s :=
  store_ok2 I hN hi hx r (fun s' I' _ => h s' I') hf
/-- behind a call or a block, the state as it is -/
theorem Inv.call' {s' : Shared} {ch : List Addr} (I : Inv X pins σ H s) (ho : s'.os = s.os) (u : Un (frs X.stack) ch H H' s.heap s'.heap) (hok : HOk X.prog X.w H' s'.heap) (hg : AllBare s'.gens)
    (hch : ∀ b ∈ ch, (b ∈ X.ex ∨ X.s₀.heap.objs.size ≤ b) ∧ b ≠ X.env.locals ∧ (∀ x c, X.env.cells.lookup x = some c → c ≠ b) ∧ ∀ p ∈ X.pn ++ pins, p.1 ≠ b) : Inv X pins σ H' s' := by
  obtain ⟨h', g', d', t', o'⟩ := s'
  have e : o' = s.os := ho
  subst e
  exact I.call (g' := g') (t' := t') (d' := d') u hok hg hch
end

/-- an exception: its class, its own dict's address (where it has one), the abstract heap behind it -/
abbrev XK := Value → Option Addr → Hp → Prop
abbrev St := List (Option V)
abbrev VK := V → Hp → Prop
/-- an expression's reading; a test's; an argument list's -/
abbrev TE := St → Hp → VK → Prop
abbrev TT := St → Hp → (Bool → Hp → Prop) → Prop
abbrev TA := St → Hp → (List V → Hp → Prop) → Prop
/-- what is wanted behind a statement -/
structure Ends where
  nx : St → Hp → Prop
  rt : VK
  bk : St → Hp → Prop := fun _ _ => False
  ct : St → Hp → Prop := fun _ _ => False
abbrev TS := Ends → St → Hp → Prop

def EP (X : Cx) (pins : List (Addr × Obj)) (σ : St) (Q : VK) (u : Value) (s' : Shared) : Prop := ∃ v H', Inv X pins σ H' s' ∧ RelV v u ∧ Q v H'
def TP (X : Cx) (pins : List (Addr × Obj)) (σ : St) (Q : Bool → Hp → Prop) (b : Bool) (s' : Shared) : Prop := ∃ H', Inv X pins σ H' s' ∧ Q b H'
def AP (X : Cx) (pins : List (Addr × Obj)) (σ : St) (Q : List V → Hp → Prop) (us : List Value) (s' : Shared) : Prop := ∃ vs H', Inv X pins σ H' s' ∧ Vals vs us ∧ Q vs H'
def SP (X : Cx) (pins : List (Addr × Obj)) (D : Ends) (f : Flow) (s' : Shared) : Prop :=
  match f with
  | .next => ∃ σ' H', Inv X pins σ' H' s' ∧ D.nx σ' H'
  | .brk => ∃ σ' H', Inv X pins σ' H' s' ∧ D.bk σ' H'
  | .cont => ∃ σ' H', Inv X pins σ' H' s' ∧ D.ct σ' H'
  | .ret u => ∃ v σ' H', Inv X pins σ' H' s' ∧ RelV v u ∧ D.rt v H'

def PE (X : Cx) (e : Expr) (t : TE) : Prop :=
  ∀ (pins : List (Addr × Obj)) (s : Shared) (σ : St) (H : Hp) (Q : VK), Inv X pins σ H s → t σ H Q → wpAny (model X.prog X.w) X.A (eval e X.env) (EP X pins σ Q) X.xe s
def PT (X : Cx) (e : Expr) (t : TT) : Prop :=
  ∀ (pins : List (Addr × Obj)) (s : Shared) (σ : St) (H : Hp) (Q : Bool → Hp → Prop), Inv X pins σ H s → t σ H Q → wpAny (model X.prog X.w) X.A (isTrue e X.env (eval e X.env)) (TP X pins σ Q) X.xe s
/-- a test whatever its 'whole' is (and, or) -/
def PW (X : Cx) (e : Expr) (t : TT) : Prop :=
  ∀ (whole : Sem Value) (pins : List (Addr × Obj)) (s : Shared) (σ : St) (H : Hp) (Q : Bool → Hp → Prop), Inv X pins σ H s → t σ H Q → wpAny (model X.prog X.w) X.A (isTrue e X.env whole) (TP X pins σ Q) X.xe s
theorem PW.pt {X : Cx} {e : Expr} {t : TT} (h : PW X e t) : PT X e t := h _
/-- an argument list (no star), from the left -/
def PA (X : Cx) (es : List Expr) (t : TA) : Prop :=
  ∀ (pos : Pos) (pins : List (Addr × Obj)) (s : Shared) (σ : St) (H : Hp) (Q : List V → Hp → Prop), Inv X pins σ H s → t σ H Q → wpAny (model X.prog X.w) X.A (spliced (backTo pos (starEach es X.env))) (AP X pins σ Q) X.xe s
def PS (X : Cx) (st : Stmt) (t : TS) : Prop :=
  ∀ (pins : List (Addr × Obj)) (s : Shared) (σ : St) (H : Hp) (D : Ends), Inv X pins σ H s → t D σ H → wpAny (model X.prog X.w) X.A (exec st X.env) (SP X pins D) X.xe s
def PSs (X : Cx) (st : List Stmt) (t : TS) : Prop :=
  ∀ (pins : List (Addr × Obj)) (s : Shared) (σ : St) (H : Hp) (D : Ends), Inv X pins σ H s → t D σ H → wpAny (model X.prog X.w) X.A (execs st X.env) (SP X pins D) X.xe s
/-- weaken the end -/
theorem thn {α : Type} {t : Sem α} {Q Q' : α → Shared → Prop} {M : Model} {A : Around} {E : Value → Shared → Prop} {s : Shared} (h : wpAny M A t Q E s) (hQ : ∀ a s, Q a s → Q' a s) : wpAny M A t Q' E s := wpAny_mono h hQ fun _ _ x => x
end L2

namespace L2
open PySem PySem.Spec PyProof.Rows
section
variable {X : Cx}

def tVar (i : Nat) : TE := fun σ H Q => ∃ v, σ[i]? = some (some v) ∧ Q v H
def tC (v : V) : TE := fun _ H Q => Q v H
theorem pe_var {i : Nat} {x : Str} {pos : Pos} (hN : X.N[i]? = some x) (hv : Vis X.env.scope x) (hd : (x == ("__debug__" : Str)) = false := by decide) (hcd : (x == ("__classdict__" : Str)) = false := by decide) : PE X (.Name x pos) (tVar i) := by
  intro pins s σ H Q I h
  obtain ⟨v, e, h⟩ := h
  obtain ⟨m, hn, hl⟩ := I.loc
  obtain ⟨u, r, l⟩ := hl i x v hN e hv
  have fin : EP X pins σ Q u s := ⟨v, H, I, r, h⟩
  rcases l with ⟨hk, hm⟩ | ⟨hk, c, hc, hcell⟩
  · exact wpAny_Name (wpAny_loadName_local I.ok.kind hk hn hm fin) hd
  · rcases hk with hk | hk
    · exact wpAny_Name (wpAny_loadName_cell I.ok.kind hk hc hcell fin) hd
    · exact wpAny_Name (wpAny_loadName_free I.ok.kind hk hc hcell fin hcd) hd
theorem pe_int {i j pos} : PE X (.Constant (.int i) j pos) (tC (.int i)) := fun _ _ _ H _ I h => wpAny_Constant_int ⟨.int i, H, I.tok _, ⟨_, rfl⟩, h⟩
/-- a global name of the def -/
def Gl (X : Cx) (x : Str) : Prop := X.env.kindOf x = some .globalImplicit
theorem ld_glob {E : Value → Shared → Prop} {pins : List (Addr × Obj)} {s : Shared} {σ : St} {H : Hp} {x : Str} {u : Value} {pos : Pos} {Q : Value → Shared → Prop} (I : Inv X pins σ H s) (hg : Gl X x) (hm : X.mg x = some u) (h : Q u s)
    (hd : (x == ("__debug__" : Str)) = false := by decide) : wpAny (model X.prog X.w) X.A (eval (.Name x pos) X.env) Q E s :=
  Calls.Name_function_global I.ok.kind hg (Calls.loadGlobal_global (by rw [I.ok.glob]; exact I.mod.glob.keeps I.bk) hm h) hd
theorem ld_blt {E : Value → Shared → Prop} {pins : List (Addr × Obj)} {s : Shared} {σ : St} {H : Hp} {x : Str} {u : Value} {pos : Pos} {Q : Value → Shared → Prop} (I : Inv X pins σ H s) (hg : Gl X x) (hm : X.mg x = none) (hv : bootBuiltins x = some u) (h : Q u s)
    (hn : x ≠ "__name__" := by decide) (hd : (x == ("__debug__" : Str)) = false := by decide) : wpAny (model X.prog X.w) X.A (eval (.Name x pos) X.env) Q E s := by
  obtain ⟨mb, h1, h2⟩ := I.mod.blt
  exact Calls.Name_function_global I.ok.kind hg (Calls.loadGlobal_builtin (by rw [I.ok.glob]; exact I.mod.glob.keeps I.bk) hm (by rw [I.ok.blt]; exact h1.keeps I.bk) ((h2 x hn).trans hv) h) hd
/-- a module's constant, a class, a function, as a value -/
theorem pe_glob {x : Str} {v : V} {u : Value} {pos : Pos} (hg : Gl X x) (hm : X.mg x = some u) (r : RelV v u) (hd : (x == ("__debug__" : Str)) = false := by decide) : PE X (.Name x pos) (tC v) :=
  fun _ _ _ H _ I h => ld_glob I hg hm ⟨v, H, I, r, h⟩ hd
variable {a b : Expr} {ta tb : TE} {pos : Pos}
/-- a comparison as a value, as a test -/
def tB (t : TE) : TT := fun σ H Q => t σ H fun x H1 => ∃ c, x = .bl c ∧ Q c H1
/-- an expression whose value is a bool, as a test -/
theorem pt_val {e : Expr} {t : TE} (h : PE X e t) (he : ∀ whole, isTrue e X.env whole = (do let v ← whole; standAt e.pos; holding [v] (truthy v)) := by intro _; rfl) : PT X e (tB t) := by
  intro pins s σ H Q I hw
  refine isTrue_plain (thn (h pins s σ H _ I hw) fun v s1 ⟨x, H1, I1, r1, q1⟩ => ?_) (he _)
  obtain ⟨d, rfl, q⟩ := q1
  cases r1
  exact wpAny_truthy_bool ⟨H1, I1, q⟩

variable {tA tB' : TT} {rest : List Expr}
def tOr (t u : TT) : TT := fun σ H Q => t σ H fun c H1 => if c = true then Q true H1 else u σ H1 Q
def tNot (t : TT) : TT := fun σ H Q => t σ H fun c H1 => Q (!c) H1
theorem pw_or1 (ha : PT X a tA) : PW X (.BoolOp .Or [a] pos) tA := by
  intro wh pins s σ H Q I h
  refine isTrue_or (thn (ha pins s σ H Q I h) fun c s1 e => ?_)
  cases c with
  | false => exact isTrue_or_nil e
  | true => exact e
theorem pw_or (ha : PT X a tA) (hb : PW X (.BoolOp .Or (b :: rest) pos) tB') : PW X (.BoolOp .Or (a :: b :: rest) pos) (tOr tA tB') := by
  intro wh pins s σ H Q I h
  refine isTrue_or (thn (ha pins s σ H _ I h) fun c s1 ⟨H1, I1, q1⟩ => ?_)
  cases c with
  | true => exact ⟨H1, I1, q1⟩
  | false => exact hb wh pins s1 σ H1 Q I1 q1
theorem pt_not (ha : PT X a tA) : PT X (.UnaryOp .Not a pos) (tNot tA) := by
  intro pins s σ H Q I h
  exact isTrue_not (ha pins s σ H (fun c H1 => Q (!c) H1) I h)
/-- .. as values (bools) -/
def tAndV (ta tb : TE) : TE := fun σ H Q => ta σ H fun x H1 => ∃ c, x = .bl c ∧ if c = true then tb σ H1 Q else Q (.bl false) H1
theorem pe_one {op} {t : TE} (h : PE X a t) : PE X (.BoolOp op [a] pos) t := fun pins s σ H Q I hw => BoolOp_one (h pins s σ H Q I hw)
theorem pe_and (ha : PE X a ta) (hb : PE X (.BoolOp .And (b :: rest) pos) tb) : PE X (.BoolOp .And (a :: b :: rest) pos) (tAndV ta tb) := by
  intro pins s σ H Q I h
  refine BoolOp_and (thn (ha pins s σ H _ I h) fun v s1 ⟨x, H1, I1, r1, q1⟩ => ?_)
  obtain ⟨c, rfl, q1⟩ := q1
  cases r1
  refine wpAny_truthy_bool ?_
  cases c with
  | true => exact hb pins s1 σ H1 Q I1 q1
  | false => exact ⟨.bl false, H1, I1, rfl, q1⟩
/-- a if t else b -/
def tIf (t : TT) (ta tb : TE) : TE := fun σ H Q => t σ H fun c H1 => if c = true then ta σ H1 Q else tb σ H1 Q
theorem pe_ifExp {c : Expr} (hc : PT X c tA) (ha : PE X a ta) (hb : PE X b tb) : PE X (.IfExp c a b pos) (tIf tA ta tb) := by
  intro pins s σ H Q I h
  refine wpAny_IfExp (thn (hc pins s σ H _ I h) fun d s1 ⟨H1, I1, q1⟩ => ?_)
  cases d with
  | true => exact ha pins s1 σ H1 Q I1 q1
  | false => exact hb pins s1 σ H1 Q I1 q1
end
end L2

namespace L2
open PySem PySem.Spec PyProof.Rows

def SqL (K : PySem.W.Frag) (H : Hp) (a : Addr) (xs : List V) : Prop :=
  Rd H a (.lst xs) ∨
    ∃ (o : Obj) (its : Array Value) (n : Nat), K.lookup a = some o ∧ o.cls = .type "list" ∧ o.dict = none ∧ o.data = .seq its n ∧ its.size ≤ sizeLine ∧ Vals xs its.toList
def SqT (K : PySem.W.Frag) (H : Hp) (a : Addr) (xs : List V) : Prop :=
  Rd H a (.tup xs) ∨
    ∃ (o : Obj) (its : Array Value) (n : Nat), K.lookup a = some o ∧ o.cls = .type "tuple" ∧ o.data = .seq its n ∧ its.size ≤ sizeLine ∧ Vals xs its.toList
def absV : Value → Option V
  | .none => some .non
  | .bool b => some (.bl b)
  | .int i _ => some (.int i)
  | .str x _ => some (.str x)
  | .bytes b _ => some (.byt b)
  | .float b _ => some (.flt b)
  | .ref a => some (.ref a)
  | .type n => some (.ty n)
  | _ => none
theorem RelV.abs {x : V} {u : Value} (r : RelV x u) : absV u = some x := by
  cases x with
  | non => cases r; rfl
  | bl _ => cases r; rfl
  | int _ => obtain ⟨t, rfl⟩ := r; rfl
  | str _ => obtain ⟨t, rfl⟩ := r; rfl
  | byt _ => obtain ⟨t, rfl⟩ := r; rfl
  | flt _ => obtain ⟨t, rfl⟩ := r; rfl
  | ref _ => cases r; rfl
  | ty _ => cases r; rfl
theorem RelV.inj {x y : V} {u : Value} (r : RelV x u) (q : RelV y u) : x = y := Option.some.inj (r.abs.symm.trans q.abs)
theorem Vals.inj : ∀ {xs ys : List V} {us : List Value}, Vals xs us → Vals ys us → xs = ys
  | _, _, _, .nil, .nil => rfl
  | _, _, _, .cons r t, .cons r' t' => by rw [r.inj r', Vals.inj t t']
section
variable {X : Cx} {pins : List (Addr × Obj)} {σ : St} {H : Hp} {s : Shared} {a : Addr} {xs ys : List V}
theorem SqL.of {K : PySem.W.Frag} (h : H a = some (.lst xs)) : SqL K H a xs := .inl (.inl h)
theorem SqT.of {K : PySem.W.Frag} (h : H a = some (.tup xs)) : SqT K H a xs := .inl (.inl h)
theorem Inv.list (I : Inv X pins σ H s) (h : SqL X.K H a xs) : ∃ its : List Value, Vals xs its ∧ PlainL s.heap a its.toArray ∧ xs.length ≤ sizeLine := by
  rcases h with h | ⟨o, its, n, hk, hc, hd, hs, hz, r⟩
  · obtain ⟨z, its, n, r, e⟩ := h.ok I.hok
    exact ⟨its, r, ⟨_, n, e, rfl, rfl, rfl⟩, z⟩
  · refine ⟨its.toList, r, ⟨o, n, I.kIn a o hk, hc, hd, by simpa using hs⟩, ?_⟩
    have e := r.length
    simp only [Array.length_toList] at e
    omega
theorem Inv.tuple (I : Inv X pins σ H s) (h : SqT X.K H a xs) : ∃ its : List Value, Vals xs its ∧ IsTup s.heap a its.toArray ∧ xs.length ≤ sizeLine := by
  rcases h with h | ⟨o, its, n, hk, hc, hs, hz, r⟩
  · obtain ⟨z, its, r, p⟩ := h.ok I.hok
    exact ⟨its, r, p, z⟩
  · refine ⟨its.toList, r, ⟨o, I.kIn a o hk, hc, n, by simpa using hs⟩, ?_⟩
    have e := r.length
    simp only [Array.length_toList] at e
    omega
theorem Inv.list_inj (I : Inv X pins σ H s) (h : SqL X.K H a xs) (h' : SqL X.K H a ys) : xs = ys := by
  obtain ⟨its, r, ⟨o, n, e, _, _, d⟩, _⟩ := I.list h
  obtain ⟨its', r', ⟨o', n', e', _, _, d'⟩, _⟩ := I.list h'
  rw [e] at e'; cases e'
  rw [d] at d'
  injection d' with d1 _
  have : its = its' := by simpa using congrArg Array.toList d1
  subst this
  exact r.inj r'
end

abbrev Cx.wish (X : Cx) (E : Value → Shared → Prop) : Cx := { X with xe := E }
/-- no exception leaves -/
abbrev Cx.nox (X : Cx) : Cx := X.wish fun _ _ => False
theorem Cx.Ok.wish {X : Cx} (ok : X.Ok) (E : Value → Shared → Prop) : (X.wish E).Ok :=
  ⟨ok.mod, ok.kind, ok.glob, ok.blt, ok.above, ok.inj, ok.has, ok.cab, ok.hd, ok.frames, ok.stk, ok.exf, ok.bs, ok.bsz, ok.noex, ok.exfs, ok.funs, ok.frf⟩
theorem Cx.Ok.unwish {X : Cx} {E : Value → Shared → Prop} (ok : (X.wish E).Ok) : X.Ok :=
  ⟨ok.mod, ok.kind, ok.glob, ok.blt, ok.above, ok.inj, ok.has, ok.cab, ok.hd, ok.frames, ok.stk, ok.exf, ok.bs, ok.bsz, ok.noex, ok.exfs, ok.funs, ok.frf⟩
section
variable {X : Cx} {pins : List (Addr × Obj)} {σ : St} {H : Hp} {s : Shared} {E : Value → Shared → Prop}
theorem Inv.wish (I : Inv X pins σ H s) (E : Value → Shared → Prop) : Inv (X.wish E) pins σ H s := ⟨I.ok.wish E, I.os, I.bare, I.base, I.loc, I.cell, I.free, I.freeC, I.pin, I.hok, I.len⟩
theorem Inv.unwish (I : Inv (X.wish E) pins σ H s) : Inv X pins σ H s := ⟨I.ok.unwish, I.os, I.bare, I.base, I.loc, I.cell, I.free, I.freeC, I.pin, I.hok, I.len⟩
theorem SP.unwish {D : Ends} {f : Flow} {s' : Shared} (h : SP (X.wish E) pins D f s') : SP X pins D f s' := by
  cases f with
  | next => obtain ⟨σ', H', I, q⟩ := h; exact ⟨σ', H', I.unwish, q⟩
  | brk => obtain ⟨σ', H', I, q⟩ := h; exact ⟨σ', H', I.unwish, q⟩
  | cont => obtain ⟨σ', H', I, q⟩ := h; exact ⟨σ', H', I.unwish, q⟩
  | ret u => obtain ⟨v, σ', H', I, r, q⟩ := h; exact ⟨v, σ', H', I.unwish, r, q⟩
theorem PSs.nox {st : List Stmt} {t : TS} (h : PSs X.nox st t) : PSs X st t := fun pins s σ H D I hw =>
  wpAny_mono (h pins s σ H D (I.wish _) hw) (fun _ _ q => q.unwish) fun _ _ z => False.elim z
end

section
variable {X : Cx} {st : Stmt} {rest : List Stmt} {t u : TS} {e : Expr} {te : TE} {pos : Pos}
def tNext : TS := fun D σ H => D.nx σ H
def tSeq (t u : TS) : TS := fun D σ H => t { D with nx := u D } σ H
theorem pss_nil : PSs X [] tNext := fun _ _ σ H _ I h => wpAny_execs_nil ⟨σ, H, I, h⟩
theorem pss_cons (h1 : PS X st t) (h2 : PSs X rest u) : PSs X (st :: rest) (tSeq t u) := by
  intro pins s σ H D I h
  refine wpAny_execs_cons (thn (h1 pins s σ H { D with nx := u D } I h) fun f s1 q => ?_)
  cases f with
  | next =>
    obtain ⟨σ', H', I', q⟩ := q
    exact h2 pins s1 σ' H' D I' q
  | ret v => exact q
  | brk => exact q
  | cont => exact q
theorem pss_one (h1 : PS X st t) : PSs X [st] t := by
  intro pins s σ H D I h
  refine wpAny_execs_cons (thn (h1 pins s σ H D I h) fun f s1 q => ?_)
  cases f with
  | next => exact wpAny_execs_nil q
  | ret v => exact q
  | brk => exact q
  | cont => exact q
/-- in a def's body nothing is shown -/
theorem Inv.quiet {pins : List (Addr × Obj)} {σ : St} {H : Hp} {s : Shared} (I : Inv X pins σ H s) : interactive X.env = false := by simp [interactive, I.ok.kind]
/-- an expression whose value is dropped -/
def tDrop (te : TE) : TS := fun D σ H => te σ H fun _ H1 => D.nx σ H1
theorem ps_expr (he : PE X e te) (hs : swapsWith e none pos.line X.env = pure false := by rfl) : PS X (.Expr e pos) (tDrop te) := by
  intro pins s σ H D I h
  exact wpAny_Expr_any (thn (he pins s σ H _ I h) fun v s1 ⟨x, H1, I1, r1, q1⟩ => ⟨σ, H1, I1, q1⟩) I.quiet hs
def tRet (te : TE) : TS := fun D σ H => te σ H D.rt
theorem ps_ret (he : PE X e te) : PS X (.Return (some e) pos) (tRet te) := by
  intro pins s σ H D I h
  exact wpAny_Return_some (thn (he pins s σ H _ I h) fun v s1 ⟨x, H1, I1, r1, q1⟩ => ⟨x, σ, H1, I1, r1, q1⟩)
def tIfS (c : TT) (t u : TS) : TS := fun D σ H => c σ H fun b H1 => if b = true then t D σ H1 else u D σ H1
theorem ps_if {c : Expr} {a b : List Stmt} {tc : TT} (hc : PT X c tc) (ha : PSs X a t) (hb : PSs X b u) : PS X (.If c a b pos) (tIfS tc t u) := by
  intro pins s σ H D I h
  refine wpAny_If (thn (hc pins s σ H _ I h) fun d s1 ⟨H1, I1, q1⟩ => ?_)
  cases d with
  | true => exact ha pins s1 σ H1 D I1 q1
  | false => exact hb pins s1 σ H1 D I1 q1
/-- code that the proof never comes to -/
def tNever : TS := fun _ _ _ => False
theorem pss_never {sts : List Stmt} : PSs X sts tNever := fun _ _ _ _ _ _ h => h.elim
end

abbrev TG := V → St → Hp → (St → Hp → Prop) → Prop
abbrev TGs := List V → St → Hp → (St → Hp → Prop) → Prop
def PG (X : Cx) (target : Expr) (t : TG) : Prop :=
  ∀ (pins : List (Addr × Obj)) (s : Shared) (σ : St) (H : Hp) (v : V) (u : Value) (Q : St → Hp → Prop), Inv X pins σ H s → RelV v u → t v σ H Q →
    wpAny (model X.prog X.w) X.A (assign target X.env u) (fun _ s' => ∃ σ' H', Inv X pins σ' H' s' ∧ Q σ' H') X.xe s
/-- several targets, one after another -/
def PGs (X : Cx) (ts : List Expr) (t : TGs) : Prop :=
  ∀ (pins : List (Addr × Obj)) (s : Shared) (σ : St) (H : Hp) (vs : List V) (us : List Value) (Q : St → Hp → Prop), Inv X pins σ H s → Vals vs us → t vs σ H Q →
    wpAny (model X.prog X.w) X.A (assignInOrder ((assignEach ts X.env).map (·.2)) us) (fun _ s' => ∃ σ' H', Inv X pins σ' H' s' ∧ Q σ' H') X.xe s
/-- o[i] = v, by values -/
abbrev TSet := V → V → V → Hp → (Hp → Prop) → Prop
def PSet (X : Cx) (t : TSet) : Prop :=
  ∀ (pins : List (Addr × Obj)) (s : Shared) (σ : St) (H : Hp) (o i v : V) (ov iv u : Value) (Q : Hp → Prop), Inv X pins σ H s → RelV o ov → RelV i iv → RelV v u → t o i v H Q →
    wpAny (model X.prog X.w) X.A (setItem ov iv u) (fun _ s' => ∃ H', Inv X pins σ H' s' ∧ Q H') X.xe s
/-- a op= b, by values -/
abbrev TIp := V → V → Hp → VK → Prop
def PIp (X : Cx) (op : Operator) (t : TIp) : Prop :=
  ∀ (pins : List (Addr × Obj)) (s : Shared) (σ : St) (H : Hp) (x y : V) (v u : Value) (Q : VK), Inv X pins σ H s → RelV x v → RelV y u → t x y H Q →
    wpAny (model X.prog X.w) X.A (inplaceOp op v u) (EP X pins σ Q) X.xe s
section
variable {X : Cx} {pos : Pos}
def gName (i : Nat) : TG := fun v σ H Q => Q (σ.set i (some v)) H
theorem pg_name {i : Nat} {x : Str} (hN : X.N.Nodup) (hi : X.N[i]? = some x) (hx : Loc X.env.scope x) (hf : X.fn x = true ∨ X.env.scope.names.lookup x = some .local := by first | exact .inl rfl | exact .inr rfl | assumption) : PG X (.Name x pos) (gName i) := by
  intro pins s σ H v u Q I r h
  exact wpAny_assign_Name (store_ok I hN hi hx r (fun s' I' => ⟨_, H, I', h⟩) hf)
def gNil : TGs := fun vs σ H Q => vs = [] ∧ Q σ H
def gCons (t : TG) (u : TGs) : TGs := fun vs σ H Q => ∃ v r, vs = v :: r ∧ t v σ H fun σ' H' => u r σ' H' Q
theorem pgs_nil : PGs X [] gNil := by
  intro pins s σ H vs us Q I r h
  obtain ⟨e, h⟩ := h
  subst e
  cases r
  exact assignInOrder_nil ⟨σ, H, I, h⟩
theorem pgs_cons {e : Expr} {es : List Expr} {t : TG} {u : TGs} (h1 : PG X e t) (h2 : PGs X es u)
    (hs : (assignEach (e :: es) X.env).map (·.2) = assign e X.env :: (assignEach es X.env).map (·.2) := by rfl) : PGs X (e :: es) (gCons t u) := by
  intro pins s σ H vs us Q I r h
  obtain ⟨v, vr, e1, h⟩ := h
  subst e1
  cases r with
  | cons r rr =>
    rw [hs]
    refine assignInOrder_cons (thn (h1 pins s σ H _ _ _ I r h) fun _ s1 ⟨σ1, H1, I1, q1⟩ => ?_)
    exact h2 pins s1 σ1 H1 _ _ Q I1 rr q1
/-- (a, b, ..) = a tuple of that length -/
def gTup (K : PySem.W.Frag) (n : Nat) (t : TGs) : TG := fun v σ H Q => ∃ a xs, v = .ref a ∧ SqT K H a xs ∧ xs.length = n ∧ t xs σ H Q
theorem pg_tup {es : List Expr} {k : Nat} {t : TGs} {n : Nat} (hc : X.calm = true) (h : PGs X es t)
    (hn : (assignEach es X.env).length = n := by rfl) (hst : (assignEach es X.env).findIdx? (·.1) = none := by rfl) : PG X (.Tuple es k pos) (gTup X.K n t) := by
  intro pins s σ H v u Q I r hw
  obtain ⟨a, xs, e1, hq, hl, hw⟩ := hw
  subst e1
  cases r
  obtain ⟨its, rv, ht, hz⟩ := I.tuple hq
  refine assign_Tuple_tuple (I.ok.hd hc) ht (by simp [hn, ← hl, rv.length]) hst fun h' hx => ?_
  have I1 : Inv X pins σ H { s with heap := h' } := I.kept (t' := s.toks) fun b o e => hx b o (Nat.ne_of_lt (Heap.lt_size e)) e
  exact h pins _ σ H xs _ Q I1 (by simpa using rv) hw
/-- o[i] = .. -/
def gSub (to ti : TE) (t : TSet) : TG := fun v σ H Q => to σ H fun o H1 => ti σ H1 fun i H2 => t o i v H2 fun H3 => Q σ H3
theorem pg_sub {o i : Expr} {to ti : TE} {t : TSet} (ho : PE X o to) (hi : PE X i ti) (hs : PSet X t)
    (ha : ∀ v, assign (.Subscript o i pos) X.env v = (do
      let ov ← holding [v] (eval o X.env)
      let iv ← holding [v, ov] (eval i X.env)
      standAt pos
      holding [v, ov, iv] (setItem ov iv v)
      release [v, ov, iv] []) := by intro _; rfl) : PG X (.Subscript o i pos) (gSub to ti t) := by
  intro pins s σ H v u Q I r h
  rw [ha]
  refine wpAny_bind (wpAny_holding (thn (ho pins s σ H _ I h) fun ov s1 ⟨x, H1, I1, r1, q1⟩ => ?_))
  refine wpAny_bind (wpAny_holding (thn (hi pins s1 σ H1 _ I1 q1) fun iv s2 ⟨y, H2, I2, r2, q2⟩ => ?_))
  refine wpAny_bind (wpAny_standAt (wpAny_bind (wpAny_holding (thn (hs pins s2 σ H2 x y v ov iv u _ I2 r1 r2 r q2) fun _ s3 ⟨H3, I3, q3⟩ => ?_))))
  exact wpAny_release ⟨σ, H3, I3, q3⟩
/-- target = value -/
def tAsg (te : TE) (g : TG) : TS := fun D σ H => te σ H fun x H1 => g x σ H1 D.nx
theorem ps_asg {tg e : Expr} {te : TE} {g : TG} (he : PE X e te) (hg : PG X tg g) (hs : swapsWithSole [tg] e pos.line X.env = pure false := by rfl) (hw : swappedStores [tg] e X.env = pure none := by rfl)
    (h1 : (assignEach [tg] X.env).map (·.2) = [assign tg X.env] := by rfl) : PS X (.Assign [tg] e pos) (tAsg te g) := by
  intro pins s σ H D I h
  refine wpAny_Assign_stores (thn (he pins s σ H _ I h) fun v s1 ⟨x, H1, I1, r1, q1⟩ => ?_) hs hw
  rw [h1]
  exact thn (hg pins s1 σ H1 x v _ I1 r1 q1) fun _ s2 q => q
/-- name = value -/
theorem ps_set {i : Nat} {x : Str} {e : Expr} {te : TE} {pos' : Pos} (hN : X.N.Nodup) (hi : X.N[i]? = some x) (hx : Loc X.env.scope x) (he : PE X e te) (hs : swapsWith e (some (.Name x pos')) pos.line X.env = pure false := by rfl) (hf : X.fn x = true ∨ X.env.scope.names.lookup x = some .local := by first | exact .inl rfl | exact .inr rfl | assumption) :
    PS X (.Assign [.Name x pos'] e pos) (tAsg te (gName i)) := by
  intro pins s σ H D I h
  refine wpAny_Assign_Name (thn (he pins s σ H _ I h) fun v s1 ⟨y, H1, I1, r1, q1⟩ => ?_) hs
  exact store_ok I1 hN hi hx r1 (fun s2 I2 => ⟨_, H1, I2, q1⟩) hf
/-- name op= e -/
def tAug (i : Nat) (te : TE) (ti : TIp) : TS := fun D σ H => ∃ x, σ[i]? = some (some x) ∧ te σ H fun y H1 => ti x y H1 fun z H2 => D.nx (σ.set i (some z)) H2
theorem ps_aug {i : Nat} {x : Str} {e : Expr} {te : TE} {op : Operator} {ti : TIp} {pos' : Pos} (hN : X.N.Nodup) (hi : X.N[i]? = some x) (hx : Loc X.env.scope x) (he : PE X e te) (ho : PIp X op ti) (hf : X.fn x = true ∨ X.env.scope.names.lookup x = some .local := by first | exact .inl rfl | exact .inr rfl | assumption) :
    PS X (.AugAssign (.Name x pos') op e pos) (tAug i te ti) := by
  intro pins s σ H D I h
  obtain ⟨v, e1, h⟩ := h
  obtain ⟨m, hn, hl⟩ := I.loc
  have vis : Vis X.env.scope x := by rcases hx with k | k; exact .inl k; exact .inr (.inl k)
  obtain ⟨u, r, l⟩ := hl i x v hi e1 vis
  refine wpAny_AugAssign_Name ?_
  have go : wpAny (model X.prog X.w) X.A (eval e X.env) (fun w s₂ => wpAny (model X.prog X.w) X.A (inplaceOp op u w) (fun r s₃ => wpAny (model X.prog X.w) X.A (storeName X.env x r) (fun _ => SP X pins D .next) X.xe s₃) X.xe s₂) X.xe s := by
    refine thn (he pins s σ H _ I h) fun w s1 ⟨y, H1, I1, r1, q1⟩ => ?_
    refine thn (ho pins s1 σ H1 v y u w _ I1 r r1 q1) fun z s2 ⟨zv, H2, I2, r2, q2⟩ => ?_
    exact store_ok I2 hN hi hx r2 (fun s3 I3 => ⟨_, H2, I3, q2⟩) hf
  rcases l with ⟨hk, hm⟩ | ⟨hk, c, hc, hcell⟩
  · exact wpAny_loadName_local I.ok.kind hk hn hm go
  · rcases hk with hk | hk
    · exact wpAny_loadName_cell I.ok.kind hk hc hcell go
    · rcases hx with k | k
      · have : X.env.scope.names.lookup x = some .free := hk
        rw [k] at this; cases this
      · have : X.env.scope.names.lookup x = some .free := hk
        rw [k] at this; cases this
/-- ints -/
def ipI (f : Int → Int → Int) : TIp := fun x y H Q => ∃ i j, x = .int i ∧ y = .int j ∧ Q (.int (f i j)) H
theorem ip_add : PIp X .Add (ipI fun i j => i + j) := by
  intro pins s σ H x y v u Q I r1 r2 h
  obtain ⟨i, j, e1, e2, q⟩ := h
  subst e1; subst e2
  obtain ⟨t, rfl⟩ := r1
  obtain ⟨t', rfl⟩ := r2
  exact iadd_int ⟨.int _, H, I.tok _, ⟨_, rfl⟩, q⟩
end

section
variable {X : Cx} {pos : Pos}
/-- the invariant W with its measure -/
def tWhile (c : TT) (tb : TS) : TS := fun D σ H => ∃ W : Nat → St → Hp → Prop, (∃ m, W m σ H) ∧ ∀ m σ H, W m σ H →
  c σ H fun b H1 => if b = true then ∃ N : St → Hp → Prop, (∀ σ' H', N σ' H' → ∃ m', m' < m ∧ W m' σ' H') ∧ tb { D with nx := N, ct := N, bk := D.nx } σ H1 else D.nx σ H1
theorem ps_while {c : Expr} {body : List Stmt} {tc : TT} {tb : TS} (hp : PassesOwn (model X.prog X.w) X.A X.env X.xe) (hc : PT X c tc) (hb : PSs X body tb) : PS X (.While c body [] pos) (tWhile tc tb) := by
  intro pins s σ H D I h
  obtain ⟨W, ⟨m0, w0⟩, turn⟩ := h
  refine wpAny_While (codeAny_whileLoop (fun n s' => ∃ σ' H', Inv X pins σ' H' s' ∧ W n σ' H') ?_ m0 ⟨σ, H, I, w0⟩)
  rintro n s1 ⟨σ1, H1, I1, w1⟩
  refine wpAny_passesOwn hp (thn (hc pins s1 σ1 H1 _ I1 (turn n σ1 H1 w1)) fun b s2 ⟨H2, I2, q2⟩ => ?_)
  cases b with
  | true =>
    obtain ⟨N, hN, q2⟩ := q2
    rw [if_pos rfl]
    refine wpAny_passesOwn hp (thn (hb pins s2 σ1 H2 _ I2 q2) fun f s3 q3 => ?_)
    cases f with
    | next =>
      obtain ⟨σ3, H3, I3, n3⟩ := q3
      obtain ⟨m', hm, w3⟩ := hN σ3 H3 n3
      exact ⟨m', hm, σ3, H3, I3, w3⟩
    | cont =>
      obtain ⟨σ3, H3, I3, n3⟩ := q3
      obtain ⟨m', hm, w3⟩ := hN σ3 H3 n3
      exact ⟨m', hm, σ3, H3, I3, w3⟩
    | brk => exact q3
    | ret v => exact q3
  | false =>
    rw [if_neg Bool.false_ne_true]
    exact wpAny_execs_nil ⟨σ1, H2, I2, q2⟩
end

/-- at turn i: it yields x (the heap may grow), or it stops -/
structure It where
  go : Nat → Hp → Prop
  yld : Nat → Hp → V → Hp → Prop
  stop : Nat → Hp → Prop
/-- the iterator's own objects may turn: they are not the frame's, not pinned, younger than the entry (or a comprehension's own) -/
def FpOk (X : Cx) (pins : List (Addr × Obj)) (H : Hp) (b : Addr) : Prop :=
  H b = none ∧ b ≠ X.env.locals ∧ b ∉ X.fs ∧ (b ∈ X.ex ∨ X.s₀.heap.objs.size ≤ b) ∧ (∀ x c, X.env.cells.lookup x = some c → c ≠ b) ∧ ∀ p ∈ X.pn ++ pins, p.1 ≠ b
theorem Inv.fpOk {X : Cx} {pins : List (Addr × Obj)} {σ : St} {H H' : Hp} {s : Shared} {b : Addr} (I : Inv X pins σ H s) (hb : s.heap.objs.size ≤ b) (hn : H' b = none) : FpOk X pins H' b := by
  refine ⟨hn, Nat.ne_of_gt (Nat.lt_of_lt_of_le I.lt hb), I.nofs hb, .inr (Nat.le_trans I.sz hb), fun x c e z => ?_, fun p hp z => ?_⟩
  · obtain ⟨v, q⟩ := I.cell x c e
    exact absurd (Nat.lt_of_lt_of_le q.lt (by rw [z]; exact hb)) (Nat.lt_irrefl _)
  · exact absurd (Nat.lt_of_lt_of_le (Heap.lt_size (I.pin p hp).1) (by rw [z]; exact hb)) (Nat.lt_irrefl _)
structure Turn (P : Program) (w : World) (K : PySem.W.Frag) (tg : Expr) (J : It) (fp : List Addr) (it : Addr) (tn : Nat → Heap → Prop) : Prop where
  mem : it ∈ fp
  obj : ∀ i h, tn i h → ∀ b ∈ fp, ∃ o, h.get? b = some o ∧ ∀ v, o.data ≠ .cell v
  keep : ∀ i h h', tn i h → (∀ b ∈ fp, ∀ o, h.get? b = some o → h'.get? b = some o) → tn i h'
  item : ∀ (X : Cx), X.prog = P → X.w = w → X.K = K → X.calm = true → ∀ (i : Nat) (pins : List (Addr × Obj)) (s : Shared) (σ : St) (H : Hp) (E : Value → Shared → Prop), Inv X pins σ H s → (∀ b ∈ fp, FpOk X pins H b) → tn i s.heap → J.go i H →
    wpAny (model P w) X.A (pyNext (.ref it)) (fun r s1 => ∃ u, r = some u ∧
      wpAny (model P w) X.A (letOwnedTupleGo tg (.ref it) u) (fun _ s2 => ∃ x H', Inv X pins σ H' s2 ∧ RelV x u ∧ J.yld i H x H' ∧ tn (i + 1) s2.heap ∧ ∀ b ∈ fp, H' b = none) E s1) E s
  done : ∀ (X : Cx), X.prog = P → X.w = w → X.K = K → X.calm = true → ∀ (i : Nat) (pins : List (Addr × Obj)) (s : Shared) (σ : St) (H : Hp) (E : Value → Shared → Prop), Inv X pins σ H s → (∀ b ∈ fp, FpOk X pins H b) → tn i s.heap → J.stop i H →
    wpAny (model P w) X.A (pyNext (.ref it)) (fun r s1 => r = none ∧ Inv X pins σ H s1) E s
  self : ∀ (A : Around) (i : Nat) (s : Shared) (Q : Value → Shared → Prop) (E : Value → Shared → Prop), tn i s.heap → Q (.ref it) s → wpAny (model P w) A (pyIter (.ref it)) Q E s
abbrev TI := St → Hp → (It → Hp → Prop) → Prop
/-- an iterator has come -/
def PIE (X : Cx) (pins : List (Addr × Obj)) (σ : St) (tg : Expr) (R : It → Hp → Prop) (itv : Value) (s2 : Shared) : Prop :=
  ∃ (it : Addr) (fp : List Addr) (tn : Nat → Heap → Prop) (J : It) (H' : Hp), itv = .ref it ∧ Inv X pins σ H' s2 ∧ Turn X.prog X.w X.K tg J fp it tn ∧ tn 0 s2.heap ∧ (∀ b ∈ fp, FpOk X pins H' b) ∧ R J H'
def PI (X : Cx) (tg iter : Expr) (wi : TI) : Prop :=
  ∀ (pins : List (Addr × Obj)) (s : Shared) (σ : St) (H : Hp) (R : It → Hp → Prop), Inv X pins σ H s → wi σ H R →
    wpAny (model X.prog X.w) X.A (eval iter X.env) (fun v s1 => wpAny (model X.prog X.w) X.A (pyIter v) (PIE X pins σ tg R) X.xe s1) X.xe s

/-- the step ahead of the store is nothing for an iterator that keeps no tuple -/
theorem go_of {M : Model} {A : Around} {E : Value → Shared → Prop} {s : Shared} {tg : Expr} {it : Addr} {u : Value} {o : Obj} {n : String} {vs : Array Value} {Q : Unit → Shared → Prop} (ho : s.heap.get? it = some o) (hc : o.cls = .type n) (hd : o.data = .fields vs)
    (hn : ["enumerate", "zip", "dict_itemiterator", "dict_reverseitemiterator", "odict_iterator", "itertools.zip_longest", "itertools.pairwise"].contains n = false) (hQ : Q () s) : wpAny M A (letOwnedTupleGo tg (.ref it) u) Q E s := by
  unfold letOwnedTupleGo
  cases tg <;> first
    | exact wpAny_pure hQ
    | (cases u <;> first
        | exact wpAny_pure hQ
        | (refine wpAny_bind (wpAny_load ho ?_)
           rw [hc, hd]
           show wpAny M A (if (["enumerate", "zip", "dict_itemiterator", "dict_reverseitemiterator", "odict_iterator", "itertools.zip_longest", "itertools.pairwise"].contains n && vs[0]? == some (rawInt _)) = true then _ else _) Q E s
           rw [if_neg (by intro h; rw [hn, Bool.false_and] at h; cases h)]
           exact wpAny_pure hQ))

/-- the list at a, as it stands at each turn (a loop may append to it) -/
def Itl (K : PySem.W.Frag) (a : Addr) : It :=
  ⟨fun i H => ∃ xs x, SqL K H a xs ∧ xs[i]? = some x, fun i H x H' => H' = H ∧ ∀ xs, SqL K H a xs → xs[i]? = some x, fun i H => ∃ xs, SqL K H a xs ∧ xs.length ≤ i⟩
/-- lo, lo + 1, .. (n of them) -/
def Itr (lo : Int) (n : Nat) : It := ⟨fun i _ => i < n, fun i H x H' => H' = H ∧ x = .int (lo + i), fun i _ => n ≤ i⟩
theorem turn_list {P : Program} {w : World} {K : PySem.W.Frag} {tg : Expr} (a it : Addr) : Turn P w K tg (Itl K a) [it] it (fun i h => h.IsListIter it a i) where
  mem := by simp
  obj := fun i h st b hb => by
    have e : b = it := by simpa using hb
    subst e
    obtain ⟨o, e, c, d⟩ := st
    exact ⟨o, e, fun v z => by rw [d] at z; cases z⟩
  keep := fun i h h' st k => st.at fun o e => k it (by simp) o e
  item := by
    intro X hP hw hK hc i pins s σ H E I hf st hg
    subst hP hw hK
    obtain ⟨xs, x, hq, hx⟩ := hg
    obtain ⟨its, rv, p, hz⟩ := I.list hq
    obtain ⟨u, hu, ru⟩ := rv.get hx
    obtain ⟨f0, f1, f2, f3, f4, f5⟩ := hf it (by simp)
    refine wpAny_pyNext_list_item st p.isList (x := u) (by simpa using hu) fun h' st' sb => ?_
    have I1 : Inv X pins σ H { s with heap := h' } := I.turned (t' := s.toks) (fun b o hb e => (sb.2 b hb).trans e) f0 f1 f3 f4 f5
    obtain ⟨o, e, c, d⟩ := id st'
    exact ⟨u, rfl, go_of (s := { s with heap := h' }) e c d (by decide) ⟨x, H, I1, ru, ⟨rfl, fun ys hy => by rw [I.list_inj hy hq]; exact hx⟩, st', fun b hb => (hf b hb).1⟩⟩
  done := by
    intro X hP hw hK hc i pins s σ H E I hf st hg
    subst hP hw hK
    obtain ⟨xs, hq, hx⟩ := hg
    obtain ⟨its, rv, p, hz⟩ := I.list hq
    obtain ⟨f0, f1, f2, f3, f4, f5⟩ := hf it (by simp)
    have hl := rv.length
    exact wpAny_pyNext_list_end (I.ok.hd hc) st p.isList (by simp; omega) fun h' eb => ⟨rfl, I.turned (t' := s.toks) (fun b o hb e => eb b o hb e) f0 f1 f3 f4 f5⟩
  self := fun _ _ _ _ _ st h => wpAny_pyIter_listiter st h
theorem turn_range {P : Program} {w : World} {K : PySem.W.Frag} {tg : Expr} (it : Addr) (lo : Int) (n : Nat) : Turn P w K tg (Itr lo n) [it] it (fun i h => IsRangeIter h it (lo + (i : Nat) * 1) ((n : Int) - (i : Nat)) 1) where
  mem := by simp
  obj := fun i h st b hb => by
    have e : b = it := by simpa using hb
    subst e
    exact ⟨_, st, fun v z => by
      have z' : Data.fields _ = Data.cell v := z
      cases z'⟩
  keep := fun i h h' st k => k it (by simp) _ st
  item := by
    intro X hP hw hK hc i pins s σ H E I hf st hg
    subst hP hw hK
    obtain ⟨f0, f1, f2, f3, f4, f5⟩ := hf it (by simp)
    have W := Walks.range (prog := X.prog) (w := X.w) (I.ok.hd hc) it lo 1 n
    refine W.item i s _ _ hg st fun v h' tk hv st' kk => ?_
    obtain ⟨t, rfl⟩ := hv
    have I1 : Inv X pins σ H { s with heap := h', toks := tk } := I.turned (fun b o hb e => kk b o (by simpa using hb) e) f0 f1 f3 f4 f5
    refine ⟨_, rfl, go_of (s := { s with heap := h', toks := tk }) (n := "range_iterator") st' rfl rfl (by decide) ⟨.int (lo + i), H, I1, ⟨t, ?_⟩, ⟨rfl, rfl⟩, st', fun b hb => (hf b hb).1⟩⟩
    rw [Int.mul_one]
  done := by
    intro X hP hw hK hc i pins s σ H E I hf st hg
    subst hP hw hK
    obtain ⟨f0, f1, f2, f3, f4, f5⟩ := hf it (by simp)
    exact wpAny_pyNext_range_end (I.ok.hd hc) st (by have : n ≤ i := hg; omega) fun h' eb => ⟨rfl, I.turned (t' := s.toks) (fun b o hb e => eb b o hb e) f0 f1 f3 f4 f5⟩
  self := fun _ _ _ _ _ st h => wpAny_pyIter_rangeiter st h
end L2

namespace L2
open PySem PySem.Spec PyProof.Rows
section
variable {X : Cx} {tg : Expr}
def iList (K : PySem.W.Frag) (tl : TE) : TI := fun σ H R => tl σ H fun x H1 => ∃ a, x = .ref a ∧ (∃ xs, SqL K H1 a xs) ∧ R (Itl K a) H1
theorem pi_list {l : Expr} {tl : TE} (hl : PE X l tl) : PI X tg l (iList X.K tl) := by
  intro pins s σ H R I h
  refine thn (hl pins s σ H _ I h) fun v s1 ⟨x, H1, I1, r1, q1⟩ => ?_
  obtain ⟨a, e, ⟨xs, hq⟩, q⟩ := q1
  subst e
  cases r1
  obtain ⟨its, rv, p, hz⟩ := I1.list hq
  refine wpAny_pyIter_list p.isList ?_
  refine ⟨s1.heap.objs.size, [s1.heap.objs.size], _, _, H1, rfl, I1.kept (t' := s1.toks) fun b o e => Heap.get?_push_of_some _ e, turn_list a _, ⟨_, Heap.get?_push_size _ rfl, rfl, rfl⟩, fun b hb => ?_, q⟩
  have e : b = s1.heap.objs.size := by simpa using hb
  subst e
  exact I1.fpOk (Nat.le_refl _) (I1.hok.fresh (Nat.le_refl _))
/-- a range object just made, walked -/
theorem range_it {pins : List (Addr × Obj)} {σ : St} {H : Hp} {s : Shared} {R : It → Hp → Prop} {E : Value → Shared → Prop} {lo hi : Int} {t u v : Tok} {tk : Nat} (I : Inv X pins σ H s) (h1 : -(2 ^ 62) ≤ lo) (h2 : lo < 2 ^ 62) (h3 : -(2 ^ 62) ≤ hi) (h4 : hi < 2 ^ 62)
    (q : R (Itr lo (hi - lo).toNat) H) : wpAny (model X.prog X.w) X.A (pyIter (.ref s.heap.objs.size)) (PIE X pins σ tg R) E { s with heap := s.heap.push { cls := .type "range", data := .fields #[.int lo t, .int hi u, .int 1 v] }, toks := tk } := by
  refine wpAny_pyIter_range (IsRange.new ..) (small_one h1 h2 h3 h4) ?_
  have I1 : Inv X pins σ H { s with heap := s.heap.push { cls := .type "range", data := .fields #[.int lo t, .int hi u, .int 1 v] }, toks := tk } := I.kept fun b o e => Heap.get?_push_of_some _ e
  refine ⟨(s.heap.push { cls := .type "range", data := .fields #[.int lo t, .int hi u, .int 1 v] }).objs.size, [(s.heap.push { cls := .type "range", data := .fields #[.int lo t, .int hi u, .int 1 v] }).objs.size], _, _, H, rfl,
    I1.kept (t' := tk) fun b o e => Heap.get?_push_of_some _ e, turn_range _ lo (hi - lo).toNat, ?_, fun b hb => ?_, q⟩
  · have e1 : lo + ((0 : Nat) : Int) * 1 = lo := by simp
    have e2 : (((hi - lo).toNat : Nat) : Int) - ((0 : Nat) : Int) = Builtin.Range.rangeSize lo hi 1 := by rw [rangeSize_one]; split <;> omega
    show IsRangeIter _ _ (lo + ((0 : Nat) : Int) * 1) ((((hi - lo).toNat : Nat) : Int) - ((0 : Nat) : Int)) 1
    rw [e1, e2]
    exact Heap.get?_push_size _ rfl
  · have e : b = (s.heap.push { cls := .type "range", data := .fields #[.int lo t, .int hi u, .int 1 v] }).objs.size := by simpa using hb
    subst e
    exact I1.fpOk (Nat.le_refl _) (I1.hok.fresh (Nat.le_refl _))
def iRng1 (ta : TA) : TI := fun σ H R => ta σ H fun vs H1 => ∃ j : Int, vs = [.int j] ∧ -(2 ^ 62) ≤ j ∧ j < 2 ^ 62 ∧ R (Itr 0 j.toNat) H1
theorem pi_range1 {a : Expr} {ta : TA} {p pos : Pos} (hg : Gl X "range") (hm : X.mg "range" = none) (ha : PA X [a] ta) (hs : starEach [a] X.env = [(false, eval a X.env)] := by rfl) : PI X tg (.Call (.Name "range" p) [a] [] pos) (iRng1 ta) := by
  intro pins s σ H R I h
  refine Call_ (ld_blt I hg hm boot_range (PyProof.Rows.callWith_type1 (thn (ha pos pins s σ H _ I h) fun us s1 ⟨vs, H1, I1, r1, q1⟩ => ?_) hs rfl))
  obtain ⟨j, e, q1, q2, q⟩ := q1
  subst e
  cases r1 with
  | cons r rr =>
    cases rr
    obtain ⟨t, rfl⟩ := r
    exact call_range_1 (range_it I1 (by omega) (by omega) q1 q2 (by simpa using q))
/-- W: the invariant by the turn and a measure; N: what the body is to reach -/
def tFor (wi : TI) (g : TG) (tb : TS) : TS := fun D σ H => wi σ H fun J H1 => ∃ W : Nat → Nat → St → Hp → Prop, (∃ m, W 0 m σ H1) ∧ ∀ i m σ H, W i m σ H →
  (J.stop i H ∧ D.nx σ H) ∨ (J.go i H ∧ ∃ N : St → Hp → Prop, (∀ σ' H', N σ' H' → ∃ m', m' < m ∧ W (i + 1) m' σ' H') ∧ ∀ x H', J.yld i H x H' → g x σ H' fun σ2 H2 => tb { D with nx := N, ct := N, bk := D.nx } σ2 H2)
/-- the records at fp as they stand -/
def pinsAt (fp : List Addr) (h : Heap) : List (Addr × Obj) := fp.filterMap fun b => (h.get? b).map fun o => (b, o)
theorem mem_pinsAt {fp : List Addr} {h : Heap} {b : Addr} {o : Obj} (hb : b ∈ fp) (e : h.get? b = some o) : (b, o) ∈ pinsAt fp h := List.mem_filterMap.mpr ⟨b, hb, by rw [e]; rfl⟩
theorem of_pinsAt {fp : List Addr} {h : Heap} {p : Addr × Obj} (hp : p ∈ pinsAt fp h) : p.1 ∈ fp ∧ h.get? p.1 = some p.2 := by
  obtain ⟨b, hb, e⟩ := List.mem_filterMap.mp hp
  cases q : h.get? b with
  | none => rw [q] at e; cases e
  | some o =>
    rw [q] at e
    have e' : (b, o) = p := Option.some.inj e
    subst e'
    exact ⟨hb, q⟩
theorem Inv.pinned {pins : List (Addr × Obj)} {σ : St} {H : Hp} {s : Shared} {fp : List Addr} (I : Inv X pins σ H s) (hf : ∀ b ∈ fp, FpOk X pins H b) (ho : ∀ b ∈ fp, ∃ o, s.heap.get? b = some o ∧ ∀ v, o.data ≠ .cell v) : Inv X (pins ++ pinsAt fp s.heap) σ H s :=
  I.pins_of fun p hp => (List.mem_append.mp hp).elim (fun z => I.pin p (List.mem_append_right _ z)) fun z => by
    obtain ⟨hb, e⟩ := of_pinsAt z
    obtain ⟨f0, f1, f2, _⟩ := hf p.1 hb
    obtain ⟨o, e', d⟩ := ho p.1 hb
    rw [e] at e'; cases e'
    exact ⟨e, f0, f1, f2, d⟩
theorem Inv.unpinned {pins pl : List (Addr × Obj)} {σ : St} {H : Hp} {s : Shared} (I : Inv X (pins ++ pl) σ H s) : Inv X pins σ H s := I.pins_of fun p hp => I.pin p (List.mem_append_right _ (List.mem_append_left _ hp))
theorem ps_for {iter : Expr} {body : List Stmt} {wi : TI} {g : TG} {tb : TS} {pos : Pos} (hp : PassesOwn (model X.prog X.w) X.A X.env X.xe) (hc : X.calm = true) (hi : PI X tg iter wi) (hg : PG X tg g) (hb : PSs X body tb)
    (hs : ∀ x, foldedSetIterable iter X.env x = pure x := by intro _; rfl) : PS X (.For tg iter body [] pos) (tFor wi g tb) := by
  intro pins s σ H D I h
  refine wpAny_For (thn (hi pins s σ H _ I h) fun v s1 h1 => thn h1 fun itv s2 h2 => ?_) hs
  obtain ⟨it, fp, tn, J, H2, e, I2, T, st2, f2, W, ⟨m0, w0⟩, turn⟩ := h2
  subst e
  -- what stays true of the iterator's objects through the loop
  have stat : ∀ {H' : Hp}, (∀ b ∈ fp, H' b = none) → ∀ b ∈ fp, FpOk X pins H' b := fun hn b hb => ⟨hn b hb, (f2 b hb).2⟩
  refine codeAny_forLoop_any (fun n s' => ∃ i σ' H', Inv X pins σ' H' s' ∧ tn i s'.heap ∧ (∀ b ∈ fp, H' b = none) ∧ W i n σ' H') ?_ m0 ⟨0, σ, H2, I2, st2, fun b hb => (f2 b hb).1, w0⟩
  rintro n s3 ⟨i, σ3, H3, I3, st3, fr3, w3⟩
  rcases turn i n σ3 H3 w3 with ⟨stop, qn⟩ | ⟨go, N, hN, step⟩
  · refine wpAny_passesOwn hp (thn (T.done X rfl rfl rfl hc i pins s3 σ3 H3 X.xe I3 (stat fr3) st3 stop) fun r s4 ⟨hr, I4⟩ => ?_)
    subst hr
    exact wpAny_execs_nil ⟨σ3, H3, I4, qn⟩
  · refine wpAny_passesOwn hp (thn (T.item X rfl rfl rfl hc i pins s3 σ3 H3 X.xe I3 (stat fr3) st3 go) fun r s4 ⟨u, hr, h4⟩ => ?_)
    subst hr
    refine wpAny_passesOwn hp (thn h4 fun _ s5 ⟨x, H5, I5, r5, y5, st5, fr5⟩ => ?_)
    have I5' := I5.pinned (stat fr5) (T.obj _ _ st5)
    refine wpAny_passesOwn hp (thn (hg _ s5 σ3 H5 x u _ I5' r5 (step x H5 y5)) fun _ s6 ⟨σ6, H6, I6, q6⟩ => ?_)
    refine wpAny_passesOwn hp (thn (hb _ s6 σ6 H6 _ I6 q6) fun f s7 q7 => ?_)
    have again : ∀ {σ7 : St} {H7 : Hp}, Inv X (pins ++ pinsAt fp s5.heap) σ7 H7 s7 → N σ7 H7 → ∃ m, m < n ∧ ∃ i σ' H', Inv X pins σ' H' s7 ∧ tn i s7.heap ∧ (∀ b ∈ fp, H' b = none) ∧ W i m σ' H' := fun {σ7 H7} I7 n7 => by
      obtain ⟨m', hm, w7⟩ := hN σ7 H7 n7
      refine ⟨m', hm, i + 1, σ7, H7, I7.unpinned, T.keep _ _ _ st5 fun b hb o e => (I7.pin (b, o) (List.mem_append_right _ (List.mem_append_right _ (mem_pinsAt hb e)))).1, fun b hb => ?_, w7⟩
      obtain ⟨o, e, d⟩ := T.obj _ _ st5 b hb
      exact (I7.pin (b, o) (List.mem_append_right _ (List.mem_append_right _ (mem_pinsAt hb e)))).2.1
    cases f with
    | next => obtain ⟨σ7, H7, I7, n7⟩ := q7; exact again I7 n7
    | cont => obtain ⟨σ7, H7, I7, n7⟩ := q7; exact again I7 n7
    | brk => obtain ⟨σ7, H7, I7, q7⟩ := q7; exact ⟨σ7, H7, I7.unpinned, q7⟩
    | ret v => obtain ⟨x7, σ7, H7, I7, r7, q7⟩ := q7; exact ⟨x7, σ7, H7, I7.unpinned, r7, q7⟩
end

/-- over a list that the body leaves as it is -/
theorem for_list {K : PySem.W.Frag} {a : Addr} {xs : List V} {g : TG} {tb : TS} {D : Ends} {σ : St} {H : Hp} (Pv : Nat → St → Hp → Prop) (h0 : Pv 0 σ H) (hl : ∀ i σ H, i ≤ xs.length → Pv i σ H → SqL K H a xs)
    (hs : ∀ i x σ H, xs[i]? = some x → Pv i σ H → g x σ H fun σ2 H2 => tb { D with nx := Pv (i + 1), ct := Pv (i + 1), bk := D.nx } σ2 H2) (hd : ∀ σ H, Pv xs.length σ H → D.nx σ H) :
    ∃ W : Nat → Nat → St → Hp → Prop, (∃ m, W 0 m σ H) ∧ ∀ i m σ H, W i m σ H →
      ((Itl K a).stop i H ∧ D.nx σ H) ∨ ((Itl K a).go i H ∧ ∃ N : St → Hp → Prop, (∀ σ' H', N σ' H' → ∃ m', m' < m ∧ W (i + 1) m' σ' H') ∧ ∀ x H', (Itl K a).yld i H x H' → g x σ H' fun σ2 H2 => tb { D with nx := N, ct := N, bk := D.nx } σ2 H2) := by
  refine ⟨fun i m σ H => m = xs.length - i ∧ i ≤ xs.length ∧ Pv i σ H, ⟨xs.length, by simp, Nat.zero_le _, h0⟩, ?_⟩
  rintro i m σ H ⟨rfl, hi, p⟩
  have q := hl i σ H hi p
  by_cases hlt : i < xs.length
  · refine .inr ⟨⟨xs, xs[i], q, by simp [hlt]⟩, Pv (i + 1), fun σ' H' p' => ⟨xs.length - (i + 1), by omega, rfl, hlt, p'⟩, fun x H' y => ?_⟩
    obtain ⟨e, y⟩ := y
    subst e
    exact hs i x σ _ (y xs q) p
  · have e : i = xs.length := by omega
    subst e
    exact .inl ⟨⟨xs, q, Nat.le_refl _⟩, hd σ H p⟩
theorem for_range {lo : Int} {n : Nat} {g : TG} {tb : TS} {D : Ends} {σ : St} {H : Hp} (Pv : Nat → St → Hp → Prop) (h0 : Pv 0 σ H)
    (hs : ∀ i σ H, i < n → Pv i σ H → g (.int (lo + i)) σ H fun σ2 H2 => tb { D with nx := Pv (i + 1), ct := Pv (i + 1), bk := D.nx } σ2 H2) (hd : ∀ σ H, Pv n σ H → D.nx σ H) :
    ∃ W : Nat → Nat → St → Hp → Prop, (∃ m, W 0 m σ H) ∧ ∀ i m σ H, W i m σ H →
      ((Itr lo n).stop i H ∧ D.nx σ H) ∨ ((Itr lo n).go i H ∧ ∃ N : St → Hp → Prop, (∀ σ' H', N σ' H' → ∃ m', m' < m ∧ W (i + 1) m' σ' H') ∧ ∀ x H', (Itr lo n).yld i H x H' → g x σ H' fun σ2 H2 => tb { D with nx := N, ct := N, bk := D.nx } σ2 H2) := by
  refine ⟨fun i m σ H => m = n - i ∧ i ≤ n ∧ Pv i σ H, ⟨n, by simp, Nat.zero_le _, h0⟩, ?_⟩
  rintro i m σ H ⟨rfl, hi, p⟩
  by_cases hlt : i < n
  · refine .inr ⟨hlt, Pv (i + 1), fun σ' H' p' => ⟨n - (i + 1), by omega, rfl, hlt, p'⟩, fun x H' y => ?_⟩
    obtain ⟨e, y⟩ := y
    subst e y
    exact hs i σ _ hlt p
  · have e : i = n := by omega
    subst e
    exact .inl ⟨Nat.le_refl _, hd σ H p⟩
end L2

namespace L2
open PySem PySem.Spec PyProof.Rows

abbrev R2 := V → V → Hp → VK → Prop
/-- a two-place operation on values: f is binaryOp op, inplaceOp op or compareOp op -/
def OpR (X : Cx) (f : Value → Value → Sem Value) (r : R2) : Prop :=
  ∀ (pins : List (Addr × Obj)) (s : Shared) (σ : St) (H : Hp) (x y : V) (v u : Value) (Q : VK), Inv X pins σ H s → RelV x v → RelV y u → r x y H Q →
    wpAny (model X.prog X.w) X.A (f v u) (EP X pins σ Q) X.xe s
/-- a one-place operation -/
def UnR (X : Cx) (f : Value → Sem Value) (r : V → Hp → VK → Prop) : Prop :=
  ∀ (pins : List (Addr × Obj)) (s : Shared) (σ : St) (H : Hp) (x : V) (v : Value) (Q : VK), Inv X pins σ H s → RelV x v → r x H Q →
    wpAny (model X.prog X.w) X.A (f v) (EP X pins σ Q) X.xe s
/-- a call of a value that is known (a builtin, a type) with values -/
def CallR (X : Cx) (f : Value) (r : List V → Hp → VK → Prop) : Prop :=
  ∀ (pins : List (Addr × Obj)) (s : Shared) (σ : St) (H : Hp) (xs : List V) (us : List Value) (Q : VK), Inv X pins σ H s → Vals xs us → r xs H Q →
    wpAny (model X.prog X.w) X.A (call f us) (EP X pins σ Q) X.xe s
/-- a value's truth -/
def TruR (X : Cx) (r : V → Hp → (Bool → Hp → Prop) → Prop) : Prop :=
  ∀ (pins : List (Addr × Obj)) (s : Shared) (σ : St) (H : Hp) (x : V) (v : Value) (Q : Bool → Hp → Prop), Inv X pins σ H s → RelV x v → r x H Q →
    wpAny (model X.prog X.w) X.A (truthy v) (TP X pins σ Q) X.xe s

def tOp (r : R2) (ta tb : TE) : TE := fun σ H Q => ta σ H fun x H1 => tb σ H1 fun y H2 => r x y H2 Q
def tUn (r : V → Hp → VK → Prop) (ta : TE) : TE := fun σ H Q => ta σ H fun x H1 => r x H1 Q
/-- ints in, under C, and a value out -/
def rI (C : Int → Int → Prop) (g : Int → Int → V) : R2 := fun x y H Q => ∃ i j, x = .int i ∧ y = .int j ∧ C i j ∧ Q (g i j) H
def rI0 (g : Int → Int → V) : R2 := fun x y H Q => ∃ i j, x = .int i ∧ y = .int j ∧ Q (g i j) H
def rU (g : Int → V) : V → Hp → VK → Prop := fun x H Q => ∃ i, x = .int i ∧ Q (g i) H

section
variable {X : Cx} {a b c : Expr} {ta tb tc : TE} {pos : Pos}

theorem binT (ha : PE X a ta) (hb : PE X b tb) {pins : List (Addr × Obj)} {s : Shared} {σ : St} {H : Hp} {R : V → V → Hp → Prop} (I : Inv X pins σ H s)
    (h : ta σ H fun x H1 => tb σ H1 fun y H2 => R x y H2) {Q : Value → Shared → Prop} {f : Value → Value → Sem Value}
    (hf : ∀ v u s2 x y H2, Inv X pins σ H2 s2 → RelV x v → RelV y u → R x y H2 → wpAny (model X.prog X.w) X.A (f v u) Q X.xe s2) :
    wpAny (model X.prog X.w) X.A (eval a X.env) (fun v s₁ => wpAny (model X.prog X.w) X.A (eval b X.env) (fun u s₂ => wpAny (model X.prog X.w) X.A (f v u) Q X.xe s₂) X.xe s₁) X.xe s := by
  refine thn (ha pins s σ H _ I h) fun v s1 ⟨x, H1, I1, r1, q1⟩ => ?_
  refine thn (hb pins s1 σ H1 _ I1 q1) fun u s2 ⟨y, H2, I2, r2, q2⟩ => ?_
  exact hf v u s2 x y H2 I2 r1 r2 q2

theorem pe_op {op : Operator} {r : R2} (ho : OpR X (binaryOp op) r) (ha : PE X a ta) (hb : PE X b tb) : PE X (.BinOp a op b pos) (tOp r ta tb) := by
  intro pins s σ H Q I h
  exact wpAny_BinOp (binT ha hb I h fun v u s2 x y H2 I2 rx ry q => ho pins s2 σ H2 x y v u Q I2 rx ry q)
theorem pe_un {op : UnaryOp} {r : V → Hp → VK → Prop} (ho : UnR X (unaryOp op) r) (ha : PE X a ta) : PE X (.UnaryOp op a pos) (tUn r ta) := by
  intro pins s σ H Q I h
  exact UnaryOp_ (thn (ha pins s σ H _ I h) fun v s1 ⟨x, H1, I1, r1, q1⟩ => ho pins s1 σ H1 x v Q I1 r1 q1)
theorem opI {f : Value → Value → Sem Value} {C : Int → Int → Prop} {g : Int → Int → Int}
    (rule : ∀ (i j : Int) (t u : Tok) (s : Shared) (Q : Value → Shared → Prop) (E : Value → Shared → Prop), C i j → Q (.int (g i j) s.toks) { s with toks := s.toks + 1 } → wpAny (model X.prog X.w) X.A (f (.int i t) (.int j u)) Q E s) :
    OpR X f (rI C fun i j => .int (g i j)) := by
  intro pins s σ H x y v u Q I rx ry h
  obtain ⟨i, j, rfl, rfl, hc, q⟩ := h
  obtain ⟨t, rfl⟩ := rx
  obtain ⟨t', rfl⟩ := ry
  exact rule i j t t' s _ _ hc ⟨.int (g i j), H, I.tok _, ⟨_, rfl⟩, q⟩
theorem opI0 {f : Value → Value → Sem Value} {g : Int → Int → Int}
    (rule : ∀ (i j : Int) (t u : Tok) (s : Shared) (Q : Value → Shared → Prop) (E : Value → Shared → Prop), Q (.int (g i j) s.toks) { s with toks := s.toks + 1 } → wpAny (model X.prog X.w) X.A (f (.int i t) (.int j u)) Q E s) :
    OpR X f (rI0 fun i j => .int (g i j)) := by
  intro pins s σ H x y v u Q I rx ry h
  obtain ⟨i, j, rfl, rfl, q⟩ := h
  obtain ⟨t, rfl⟩ := rx
  obtain ⟨t', rfl⟩ := ry
  exact rule i j t t' s _ _ ⟨.int (g i j), H, I.tok _, ⟨_, rfl⟩, q⟩
theorem opB0 {f : Value → Value → Sem Value} {g : Int → Int → Bool}
    (rule : ∀ (i j : Int) (t u : Tok) (s : Shared) (Q : Value → Shared → Prop) (E : Value → Shared → Prop), Q (.bool (g i j)) s → wpAny (model X.prog X.w) X.A (f (.int i t) (.int j u)) Q E s) :
    OpR X f (rI0 fun i j => .bl (g i j)) := by
  intro pins s σ H x y v u Q I rx ry h
  obtain ⟨i, j, rfl, rfl, q⟩ := h
  obtain ⟨t, rfl⟩ := rx
  obtain ⟨t', rfl⟩ := ry
  exact rule i j t t' s _ _ ⟨.bl (g i j), H, I, rfl, q⟩

def CDiv (i j : Int) : Prop := 0 < j ∧ j < 1073741824
def CPow (i j : Int) : Prop := 0 ≤ j ∧ j ≤ 1000000 ∧ i.natAbs < 2 ^ 64
def CMul (i j : Int) : Prop := (-(2 ^ 64) < i ∧ i < 2 ^ 64) ∨ (-(2 ^ 64) < j ∧ j < 2 ^ 64)
theorem CMul.ok {i j : Int} (h : CMul i j) : IntMulOk i j := by
  rcases h with ⟨h1, h2⟩ | ⟨h1, h2⟩
  · exact .of_left (intBits_le_64 h1 h2)
  · exact .of_right (intBits_le_64 h1 h2)
theorem two_pow_nn (k : Nat) : (0 : Int) ≤ 2 ^ k := by
  rw [two_pow_cast]
  exact Int.natCast_nonneg _

theorem op_add : OpR X (binaryOp .Add) (rI0 fun i j => .int (i + j)) := opI0 fun _ _ _ _ _ _ _ q => add_int q
theorem op_sub : OpR X (binaryOp .Sub) (rI0 fun i j => .int (i - j)) := opI0 fun _ _ _ _ _ _ _ q => sub_int q
theorem op_mul : OpR X (binaryOp .Mult) (rI CMul fun i j => .int (i * j)) := opI fun _ _ _ _ _ _ _ hc q => mul_int q hc.ok
/-- // by a positive divisor -/
theorem op_fdiv : OpR X (binaryOp .FloorDiv) (rI CDiv fun i j => .int (i / j)) := opI fun i j _ _ _ _ _ hc q => by
  have h1 : (0 : Int) < j := hc.1
  have h2 : j < 1073741824 := hc.2
  exact floordiv_int (by omega) (by rw [Int.fdiv_eq_ediv_of_nonneg i (by omega)]; exact q) (.inl (PyProof.noPylong_small (by omega)))
theorem op_shl : OpR X (binaryOp .LShift) (rI CPow fun i j => .int (i * 2 ^ j.toNat)) := opI fun _ _ _ _ _ _ _ hc q => lshift_int_small hc.1 hc.2.1 hc.2.2 q
theorem op_shr : OpR X (binaryOp .RShift) (rI (fun _ j => 0 ≤ j) fun i j => .int (i / 2 ^ j.toNat)) := opI fun i j _ _ _ _ _ hc q =>
  rshift_int hc (by rw [Int.fdiv_eq_ediv_of_nonneg i (two_pow_nn _)]; exact q)
theorem op_and : OpR X (binaryOp .BitAnd) (rI0 fun i j => .int (Builtin.bitAnd i j)) := opI0 fun _ _ _ _ _ _ _ q => and_int q
theorem op_or : OpR X (binaryOp .BitOr) (rI0 fun i j => .int (Builtin.bitOr i j)) := opI0 fun _ _ _ _ _ _ _ q => or_int q
theorem op_xor : OpR X (binaryOp .BitXor) (rI0 fun i j => .int (Builtin.bitXor i j)) := opI0 fun _ _ _ _ _ _ _ q => xor_int q

theorem unI {f : Value → Sem Value} {g : Int → Int}
    (rule : ∀ (i : Int) (t : Tok) (s : Shared) (Q : Value → Shared → Prop) (E : Value → Shared → Prop), Q (.int (g i) s.toks) { s with toks := s.toks + 1 } → wpAny (model X.prog X.w) X.A (f (.int i t)) Q E s) :
    UnR X f (rU fun i => .int (g i)) := by
  intro pins s σ H x v Q I rx h
  obtain ⟨i, rfl, q⟩ := h
  obtain ⟨t, rfl⟩ := rx
  exact rule i t s _ _ ⟨.int (g i), H, I.tok _, ⟨_, rfl⟩, q⟩
theorem un_neg : UnR X (unaryOp .USub) (rU fun i => .int (-i)) := unI fun _ _ _ _ _ q => neg_int q
end

/-- the scalars that == tells apart as data does -/
def scal : V → V → Bool
  | .non, .non => true | .non, .int _ => true | .int _, .non => true | .non, .bl _ => true | .bl _, .non => true | .non, .str _ => true | .str _, .non => true
  | .int _, .int _ => true | .bl _, .bl _ => true | .str _, .str _ => true | .byt _, .byt _ => true
  | .int _, .str _ => true | .str _, .int _ => true | .bl _, .str _ => true | .str _, .bl _ => true
  | _, _ => false
def rEq : R2 := fun x y H Q => scal x y = true ∧ Q (.bl (decide (x = y))) H
def rNe : R2 := fun x y H Q => scal x y = true ∧ Q (.bl (!decide (x = y))) H

theorem dec_int {i j : Int} : decide (V.int i = V.int j) = (i == j) := by
  rw [Bool.eq_iff_iff]
  simp
theorem dec_bl {i j : Bool} : decide (V.bl i = V.bl j) = (i == j) := by
  rw [Bool.eq_iff_iff]
  simp
theorem dec_str {i j : Str} : decide (V.str i = V.str j) = (i == j) := by
  rw [Bool.eq_iff_iff]
  simp
theorem dec_byt {i j : Array UInt8} : decide (V.byt i = V.byt j) = (i.toList == j.toList) := by
  rw [Bool.eq_iff_iff]
  cases i
  cases j
  simp

section
variable {X : Cx} {a b c : Expr} {ta tb tc : TE} {pos : Pos}
theorem fin_bl {pins : List (Addr × Obj)} {σ : St} {H : Hp} {s : Shared} {Q : VK} {k k' : Bool} (I : Inv X pins σ H s) (q : Q (.bl k) H) (e : k = k') : EP X pins σ Q (.bool k') s := by
  subst e
  exact ⟨.bl k, H, I, rfl, q⟩
theorem op_eq : OpR X (compareOp .Eq) rEq := by
  intro pins s σ H x y v u Q I rx ry h
  obtain ⟨hs, q⟩ := h
  cases x with
  | non =>
    cases rx
    cases y with
    | non => cases ry; exact PySem.EqNone.eq_none_none (fin_bl I q (by simp))
    | bl j => cases ry; exact PySem.EqNone.eq_none_bool (fin_bl I q (by simp))
    | int j => obtain ⟨t', rfl⟩ := ry; exact PySem.EqNone.eq_none_int (fin_bl I q (by simp))
    | str j => obtain ⟨t', rfl⟩ := ry; exact PySem.EqNone.eq_none_str (fin_bl I q (by simp))
    | _ => exact absurd (show false = true from hs) Bool.false_ne_true
  | bl i =>
    cases rx
    cases y with
    | non => cases ry; exact PySem.EqNone.eq_bool_none (fin_bl I q (by simp))
    | bl j => cases ry; exact eq_bool (fin_bl I q dec_bl)
    | str j => obtain ⟨t', rfl⟩ := ry; exact PySem.EqMixed.eq_bool_str (fin_bl I q (by simp))
    | _ => exact absurd (show false = true from hs) Bool.false_ne_true
  | int i =>
    obtain ⟨t, rfl⟩ := rx
    cases y with
    | non => cases ry; exact PySem.EqNone.eq_int_none (fin_bl I q (by simp))
    | int j => obtain ⟨t', rfl⟩ := ry; exact eq_int (fin_bl I q dec_int)
    | str j => obtain ⟨t', rfl⟩ := ry; exact PySem.EqMixed.eq_int_str (fin_bl I q (by simp))
    | _ => exact absurd (show false = true from hs) Bool.false_ne_true
  | str i =>
    obtain ⟨t, rfl⟩ := rx
    cases y with
    | non => cases ry; exact PySem.EqNone.eq_str_none (fin_bl I q (by simp))
    | bl j => cases ry; exact PySem.EqMixed.eq_str_bool (fin_bl I q (by simp))
    | int j => obtain ⟨t', rfl⟩ := ry; exact PySem.EqMixed.eq_str_int (fin_bl I q (by simp))
    | str j => obtain ⟨t', rfl⟩ := ry; exact eq_str (fin_bl I q dec_str)
    | _ => exact absurd (show false = true from hs) Bool.false_ne_true
  | byt i =>
    obtain ⟨t, rfl⟩ := rx
    cases y with
    | byt j => obtain ⟨t', rfl⟩ := ry; exact PySem.W.eq_bytes (fin_bl I q dec_byt)
    | _ => exact absurd (show false = true from hs) Bool.false_ne_true
  | _ => cases y <;> exact absurd (show false = true from hs) Bool.false_ne_true
theorem op_ne : OpR X (compareOp .NotEq) rNe := by
  intro pins s σ H x y v u Q I rx ry h
  obtain ⟨hs, q⟩ := h
  cases x with
  | non =>
    cases rx
    cases y with
    | non => cases ry; exact PySem.EqNone.ne_none_none (fin_bl I q (by simp))
    | bl j => cases ry; exact PySem.EqNone.ne_none_bool (fin_bl I q (by simp))
    | int j => obtain ⟨t', rfl⟩ := ry; exact PySem.EqNone.ne_none_int (fin_bl I q (by simp))
    | str j => obtain ⟨t', rfl⟩ := ry; exact PySem.EqNone.ne_none_str (fin_bl I q (by simp))
    | _ => exact absurd (show false = true from hs) Bool.false_ne_true
  | bl i =>
    cases rx
    cases y with
    | non => cases ry; exact PySem.EqNone.ne_bool_none (fin_bl I q (by simp))
    | bl j => cases ry; exact ne_bool (fin_bl I q (congrArg not dec_bl))
    | str j => obtain ⟨t', rfl⟩ := ry; exact PySem.EqMixed.ne_bool_str (fin_bl I q (by simp))
    | _ => exact absurd (show false = true from hs) Bool.false_ne_true
  | int i =>
    obtain ⟨t, rfl⟩ := rx
    cases y with
    | non => cases ry; exact PySem.EqNone.ne_int_none (fin_bl I q (by simp))
    | int j => obtain ⟨t', rfl⟩ := ry; exact ne_int (fin_bl I q (congrArg not dec_int))
    | str j => obtain ⟨t', rfl⟩ := ry; exact PySem.EqMixed.ne_int_str (fin_bl I q (by simp))
    | _ => exact absurd (show false = true from hs) Bool.false_ne_true
  | str i =>
    obtain ⟨t, rfl⟩ := rx
    cases y with
    | non => cases ry; exact PySem.EqNone.ne_str_none (fin_bl I q (by simp))
    | bl j => cases ry; exact PySem.EqMixed.ne_str_bool (fin_bl I q (by simp))
    | int j => obtain ⟨t', rfl⟩ := ry; exact PySem.EqMixed.ne_str_int (fin_bl I q (by simp))
    | str j => obtain ⟨t', rfl⟩ := ry; exact ne_str (fin_bl I q (congrArg not dec_str))
    | _ => exact absurd (show false = true from hs) Bool.false_ne_true
  | byt i =>
    obtain ⟨t, rfl⟩ := rx
    cases y with
    | byt j => obtain ⟨t', rfl⟩ := ry; exact PySem.W.ne_bytes (fin_bl I q (congrArg not dec_byt))
    | _ => exact absurd (show false = true from hs) Bool.false_ne_true
  | _ => cases y <;> exact absurd (show false = true from hs) Bool.false_ne_true

theorem op_lt : OpR X (compareOp .Lt) (rI0 fun i j => .bl (decide (i < j))) := opB0 fun _ _ _ _ _ _ _ q => lt_int q
theorem op_le : OpR X (compareOp .LtE) (rI0 fun i j => .bl (decide (i ≤ j))) := opB0 fun _ _ _ _ _ _ _ q => le_int q
theorem op_gt : OpR X (compareOp .Gt) (rI0 fun i j => .bl (decide (j < i))) := opB0 fun _ _ _ _ _ _ _ q => gt_int q
theorem op_ge : OpR X (compareOp .GtE) (rI0 fun i j => .bl (decide (j ≤ i))) := opB0 fun _ _ _ _ _ _ _ q => ge_int q
theorem nomark (b : Expr) {op : CmpOp} (h : op ≠ .In := by decide) (h2 : op ≠ .NotIn := by decide) : behindInMarks op b = false := by
  have e1 : (op == CmpOp.In) = false := by cases op <;> first | rfl | exact absurd rfl h
  have e2 : (op == CmpOp.NotIn) = false := by cases op <;> first | rfl | exact absurd rfl h2
  cases b <;> simp [behindInMarks, e1, e2]
/-- a comparison as a value; hm: nomark b, or (for in, not in) by with_unfolding_all rfl -/
theorem pe_cmpR {op : CmpOp} {r : R2} (ho : OpR X (compareOp op) r) (ha : PE X a ta) (hb : PE X b tb) (hm : behindInMarks op b = false) : PE X (.Compare a [op] [b] pos) (tOp r ta tb) := by
  intro pins s σ H Q I h
  exact wpAny_Compare1 (binT ha hb I h fun v u s2 x y H2 I2 rx ry q => ho pins s2 σ H2 x y v u Q I2 rx ry q) hm
/-- a reading of a value as a test -/
def tTest (t : TE) : TT := fun σ H Q => t σ H fun x H' => ∃ k, x = .bl k ∧ Q k H'
theorem pt_cmpR {op : CmpOp} {r : R2} (ho : OpR X (compareOp op) r) (ha : PE X a ta) (hb : PE X b tb) (hm : behindInMarks op b = false) : PT X (.Compare a [op] [b] pos) (tTest (tOp r ta tb)) := by
  intro pins s σ H Q I h
  refine wpAny_isTrue_Compare1 (thn (ha pins s σ H _ I h) fun v s1 ⟨x, H1, I1, r1, q1⟩ => thn (hb pins s1 σ H1 _ I1 q1) fun u s2 ⟨y, H2, I2, r2, q2⟩ =>
    thn (ho pins s2 σ H2 x y v u _ I2 r1 r2 q2) fun c s3 ⟨z, H3, I3, r3, k, e, q3⟩ => ?_) hm
  subst e
  cases r3
  exact wpAny_truthy_bool ⟨H3, I3, q3⟩
/-- a op1 b op2 c -/
def tChain (r r' : R2) (ta tb tc : TE) : TE := fun σ H Q => ta σ H fun x H1 => tb σ H1 fun y H2 => r x y H2 fun z H3 => ∃ k, z = .bl k ∧
  (if k = true then tc σ H3 fun w' H4 => r' y w' H4 Q else Q (.bl false) H3)
theorem pe_chain {op op' : CmpOp} {r r' : R2} (ho : OpR X (compareOp op) r) (ho' : OpR X (compareOp op') r') (ha : PE X a ta) (hb : PE X b tb) (hc : PE X c tc)
    (hm : lastMarks [op, op'] [b, c] = false := by with_unfolding_all rfl) : PE X (.Compare a [op, op'] [b, c] pos) (tChain r r' ta tb tc) := by
  intro pins s σ H Q I h
  refine Compare_chain (thn (ha pins s σ H _ I h) fun v s1 ⟨x, H1, I1, r1, q1⟩ => chain_link (thn (hb pins s1 σ H1 _ I1 q1) fun u s2 ⟨y, H2, I2, r2, q2⟩ =>
    thn (ho pins s2 σ H2 x y v u _ I2 r1 r2 q2) fun d s3 ⟨z, H3, I3, r3, k, e, q3⟩ => ?_)) hm
  subst e
  cases r3
  refine wpAny_truthy_bool ?_
  cases k with
  | false => exact ite_ff ⟨.bl false, H3, I3, rfl, q3⟩
  | true => exact ite_tt (chain_last (thn (hc pins s3 σ H3 _ I3 q3) fun w' s4 ⟨z', H4, I4, r4, q4⟩ => ho' pins s4 σ H4 y z' u w' Q I4 r2 r4 q4))
theorem pt_chain {op op' : CmpOp} {r r' : R2} (ho : OpR X (compareOp op) r) (ho' : OpR X (compareOp op') r') (ha : PE X a ta) (hb : PE X b tb) (hc : PE X c tc)
    (hm : lastMarks [op, op'] [b, c] = false := by with_unfolding_all rfl) : PT X (.Compare a [op, op'] [b, c] pos) (tTest (tChain r r' ta tb tc)) := by
  intro pins s σ H Q I h
  refine isTrue_chain (thn (ha pins s σ H _ I h) fun v s1 ⟨x, H1, I1, r1, q1⟩ => test_link (thn (hb pins s1 σ H1 _ I1 q1) fun u s2 ⟨y, H2, I2, r2, q2⟩ =>
    thn (ho pins s2 σ H2 x y v u _ I2 r1 r2 q2) fun d s3 ⟨z, H3, I3, r3, k, e, q3⟩ => ?_)) hm
  subst e
  cases r3
  refine wpAny_truthy_bool ?_
  cases k with
  | false =>
    obtain ⟨k', e', q'⟩ := q3
    cases e'
    exact ite_ff ⟨H3, I3, q'⟩
  | true =>
    refine ite_tt (test_last (thn (hc pins s3 σ H3 _ I3 q3) fun w' s4 ⟨z', H4, I4, r4, q4⟩ => thn (ho' pins s4 σ H4 y z' u w' _ I4 r2 r4 q4) fun d' s5 ⟨z2, H5, I5, r5, k2, e2, q5⟩ => ?_))
    subst e2
    cases r5
    exact wpAny_truthy_bool ⟨H5, I5, q5⟩

/-- a value's truth by the abstract heap -/
def TruV (K : PySem.W.Frag) (x : V) (H : Hp) (k : Bool) : Prop :=
  match x with
  | .non => k = false
  | .bl b => k = b
  | .int i => k = (i != 0)
  | .str y => y.length ≤ sizeLine ∧ k = ((y.length : Int) != 0)
  | .byt y => y.size ≤ sizeLine ∧ k = ((y.size : Int) != 0)
  | .ref p => (∃ xs, SqL K H p xs ∧ k = !xs.isEmpty) ∨ (∃ xs, SqT K H p xs ∧ k = !xs.isEmpty) ∨ ∃ kvs, H p = some (.dK kvs) ∧ k = !kvs.isEmpty
  | _ => False
theorem isEmpty_kv {κ : Type} {kvs : List (κ × V)} {vs : List (κ × Value)} (r : KV kvs vs) : (!vs.isEmpty) = !kvs.isEmpty := by
  cases r <;> rfl
theorem isEmpty_of {xs : List V} {its : List Value} (r : Vals xs its) : (!its.toArray.isEmpty) = !xs.isEmpty := by
  cases r <;> simp
theorem line63 : (sizeLine : Nat) < 2 ^ 63 := by rw [sizeLine_eq]; decide
theorem tru_ok : TruR X (fun x H Q => ∃ k, TruV X.K x H k ∧ Q k H) := by
  intro pins s σ H x v Q I rx h
  obtain ⟨k, e, q⟩ := h
  have hl := line63
  have hs : sizeLine = 16777216 := sizeLine_eq
  cases x with
  | non =>
    cases rx
    have e' : k = false := e
    subst e'
    exact truthy_none ⟨H, I, q⟩
  | bl b =>
    cases rx
    have e' : k = b := e
    subst e'
    exact wpAny_truthy_bool ⟨H, I, q⟩
  | int i =>
    obtain ⟨t, rfl⟩ := rx
    have e' : k = (i != 0) := e
    subst e'
    exact PySem.P.truthy_int ⟨H, I, q⟩
  | str y =>
    obtain ⟨t, rfl⟩ := rx
    obtain ⟨hy, e'⟩ : y.length ≤ sizeLine ∧ k = ((y.length : Int) != 0) := e
    subst e'
    exact PySem.P.truthy_str (by omega) ⟨H, I.tok _, q⟩
  | byt y =>
    obtain ⟨t, rfl⟩ := rx
    obtain ⟨hy, e'⟩ : y.size ≤ sizeLine ∧ k = ((y.size : Int) != 0) := e
    subst e'
    exact PySem.W.truthy_bytes (by omega) ⟨H, I.tok _, q⟩
  | ref p =>
    cases rx
    have e' : (∃ xs, SqL X.K H p xs ∧ k = !xs.isEmpty) ∨ (∃ xs, SqT X.K H p xs ∧ k = !xs.isEmpty) ∨ ∃ kvs, H p = some (.dK kvs) ∧ k = !kvs.isEmpty := e
    rcases e' with ⟨xs, hx, e'⟩ | ⟨xs, hx, e'⟩ | ⟨kvs, hx, e'⟩
    · subst e'
      obtain ⟨its, r, pl, hz⟩ := I.list hx
      have hlen := r.length
      exact wpAny_truthy_list pl.isList (by simp only [List.size_toArray]; omega) ⟨H, I.tok _, by rw [isEmpty_of r]; exact q⟩
    · subst e'
      obtain ⟨its, r, pl, hz⟩ := I.tuple hx
      have hlen := r.length
      exact truthy_tuple pl (by simp only [List.size_toArray]; omega) ⟨H, I.tok _, by rw [isEmpty_of r]; exact q⟩
    · subst e'
      obtain ⟨hz, hS, vs, r, m⟩ : kvs.length ≤ sizeLine ∧ (p == sysModules) = false ∧ ∃ vs, KV kvs vs ∧ s.heap.DictOf (mixKind X.prog X.w) p vs := I.hok p _ hx
      have hlen : kvs.length = vs.length := Paired.length r
      exact wpAny_truthy_dict hS m (by omega) ⟨H, I.tok _, by rw [isEmpty_kv r]; exact q⟩
  | _ => exact (show False from e).elim
/-- any expression whose test is its value's truth (a name, a call, a subscript, a field ..: he by fun _ => rfl) -/
theorem pt_truth (ha : PE X a ta) (he : ∀ whole, isTrue a X.env whole = (do let v ← whole; standAt a.pos; holding [v] (truthy v))) :
    PT X a (fun σ H Q => ta σ H fun x H' => ∃ k, TruV X.K x H' k ∧ Q k H') := by
  intro pins s σ H Q I h
  exact isTrue_plain (thn (ha pins s σ H _ I h) fun v s1 ⟨x, H1, I1, r1, q1⟩ => tru_ok pins s1 σ H1 x v Q I1 r1 q1) (he _)

theorem vals1 {x : V} {us : List Value} (r : Vals [x] us) : ∃ u, us = [u] ∧ RelV x u := by
  cases r with
  | cons r1 r2 => cases r2; exact ⟨_, rfl, r1⟩
theorem vals2 {x y : V} {us : List Value} (r : Vals [x, y] us) : ∃ u w', us = [u, w'] ∧ RelV x u ∧ RelV y w' := by
  cases r with
  | cons r1 r2 =>
    cases r2 with
    | cons r3 r4 => cases r4; exact ⟨_, _, rfl, r1, r3⟩
theorem call_abs : CallR X (.builtin "abs") (fun xs H Q => ∃ i, xs = [.int i] ∧ Q (.int (if i < 0 then -i else i)) H) := by
  intro pins s σ H xs us Q I r h
  obtain ⟨i, rfl, q⟩ := h
  obtain ⟨u, rfl, t, rfl⟩ := vals1 r
  exact call_abs_int fun u tk => ⟨.int (if i < 0 then -i else i), H, I.tok _, ⟨_, rfl⟩, q⟩
theorem call_min2 (hc : X.calm = true) : CallR X (.builtin "min") (fun xs H Q => ∃ i j, xs = [.int i, .int j] ∧ Q (.int (if j < i then j else i)) H) := by
  intro pins s σ H xs us Q I r h
  obtain ⟨i, j, rfl, q⟩ := h
  obtain ⟨u, w', rfl, ⟨t, rfl⟩, ⟨t', rfl⟩⟩ := vals2 r
  refine min_two_ints (I.ok.hd hc) fun h' tk k => ⟨_, H, I.kept k, ?_, q⟩
  by_cases hj : j < i
  · rw [if_pos hj, if_pos hj]; exact ⟨_, rfl⟩
  · rw [if_neg hj, if_neg hj]; exact ⟨_, rfl⟩
end
end L2

namespace L2
open PySem PySem.Spec PyProof.Rows

structure ObjM (h : Heap) (x dx C : Addr) (mA : Str → Option Value) : Prop where
  obj : h.get? x = some (PySem.W.instObj C dx)
  ns : h.Ns1 dx mA
  ne : dx ≠ x

theorem lookIn_ns {h : Heap} {dx : Addr} {mA : Str → Option Value} (n : h.Ns1 dx mA) : ∃ od, h.get? dx = some od ∧ ∀ name, PySem.W.lookIn name od = some (mA name) := by
  obtain ⟨o, es, ep, ho, hd, hk, _, hm⟩ := n
  refine ⟨o, ho, fun name => ?_⟩
  have e := hm name
  unfold nsFind findBy at e
  rw [← Array.find?_toList] at e
  unfold PySem.W.lookIn
  rw [hd]
  dsimp only
  split
  · rename_i y q
    rw [q] at e
    exact congrArg some e
  · rename_i q
    rw [q] at e
    have a : es.toList.any (·.refKey) = false := by
      rw [List.any_eq_false]
      intro y hy
      obtain ⟨z, t, hkey⟩ := hk y (Array.mem_toList_iff.mp hy)
      simp [DictEntry.refKey, hkey]
    have a' : ¬ es.toList.any (·.refKey) = true := by rw [a]; exact Bool.false_ne_true
    rw [if_neg a']
    exact congrArg some e

theorem ObjM.look {h : Heap} {x dx C : Addr} {mA : Str → Option Value} (I : ObjM h x dx C mA) : ∃ od, PySem.W.InstAt h x (PySem.W.instObj C dx) C (some od) ∧ ∀ name, PySem.W.lookIn name od = some (mA name) :=
  let ⟨od, ho, hl⟩ := lookIn_ns I.ns
  ⟨od, ⟨I.obj, rfl, rfl, ho⟩, hl⟩

section
variable {prog : Program} {w : World} {A : Around} {E : Value → Shared → Prop} {s : Shared} {K : PySem.W.Frag} {x dx C f : Addr} {mA : Str → Option Value} {name : Str} {v : Value}

theorem get_map {expr : Bool} {Q : Value → Shared → Prop} (X : K.In s.heap) (I : ObjM s.heap x dx C mA) (hg : PySem.W.plainGet K C name = true) (hh : PySem.W.hasDictIn K C = true)
    (ha : PySem.W.findIn K (.ref C) name = some none) (hv : mA name = some v) (hv' : PySem.W.handedIn v = true) (h : Q v { s with toks := s.toks + 1 }) :
    wpAny (model prog w) A (getAttr (.ref x) name expr) Q E s := by
  obtain ⟨od, J, hl⟩ := I.look
  exact PySem.W.get_value X J (PySem.W.plainGet_of hg).1 (PySem.W.findObj_own hh ha rfl (by rw [hl, hv])) hv' h

theorem get_meth {pl : Sem Bool} {Q : Value × List Value → Shared → Prop} (X : K.In s.heap) (I : ObjM s.heap x dx C mA) (hg : PySem.W.plainGet K C name = true)
    (hf : PySem.W.findIn K (.ref C) name = some (some (.ref f))) (ht : PySem.W.isFn K (.ref f) = true) (hv : mA name = none) (h : Q (.ref f, [.ref x]) s) :
    wpAny (model prog w) A (getMethod (.ref x) name pl) Q E s := by
  obtain ⟨od, J, hl⟩ := I.look
  exact PySem.W.method_fn X J (PySem.W.plainGet_of hg).1 (PySem.W.plainGet_of hg).2 hf (beq_iff_eq.mp ht) (by show (PySem.W.lookIn name od).map (·.isSome) = some false; rw [hl, hv]; rfl) h

theorem set_map {ns : List Str} {Q : Unit → Shared → Prop} (X : K.In s.heap) (I : ObjM s.heap x dx C mA)
    (hs : PySem.W.findIn K (.ref C) "__setattr__" = some (some (.builtin "object.__setattr__"))) (hp : PySem.W.plainOver K C = true) (ht : PySem.W.takerIn K C name = some none) (hh : PySem.W.hasDictIn K C = true)
    (hw : PySem.Within mA ns) (hsz : ns.length ≤ sizeLine)
    (h : ∀ h', ObjM h' x dx C (fun y => if y = name then some v else mA y) → Heap.SameBut dx s.heap h' → Q () { s with heap := h', toks := s.toks + 2 }) :
    wpAny (model prog w) A (setAttr (.ref x) name v) Q E s := by
  obtain ⟨od, J, hl⟩ := I.look
  refine PySem.W.set_plain X J hs (PySem.W.osa_open (s := { s with toks := s.toks + 1 }) (r := none) X J hp ht fun b => ?_)
  obtain ⟨cd, hc, hd'⟩ := PySem.W.any_some hh
  have hx : s.heap.get? x = some ⟨.ref C, some dx, .plain, #[]⟩ := I.obj
  refine wpAny_bind (wpAny_pure (wpAny_bind (wpAny_bind (wpAny_loadPart hx (wpAny_bind (PySem.W.Looks.here (s := { s with toks := s.toks + 1 }) (PySem.W.looks_clsIn X hc) ?_))))))
  rw [hd']
  refine wpAny_pure (a := some dx) (wpAny_bind (wpAny_pure (wpAny_bind ?_)))
  refine wpAny_nsSet1 (s := { s with toks := s.toks + 1 }) I.ns fun h' hn2 hs2 => ?_
  obtain ⟨oD, esD, epD, hoD, hdD, hcD⟩ := hn2.count (PySem.Within.cons name v hw)
  refine wpAny_bind (wpAny_lookBehind hoD (by rw [hdD]; exact pastItsLine_dict (Nat.le_trans hcD (by rw [List.length_cons]; omega))) ?_)
  exact wpAny_pure (h _ ⟨(hs2.2 _ (Ne.symm I.ne)).trans I.obj, hn2, I.ne⟩ hs2)

/-- C(..): the dict at the heap's end, the instance behind it; then its __init__ -/
theorem make_map {R : Result → Shared → Prop} {vs : List Value} {kw : List (Str × Value)} (X : K.In s.heap) (hm : PySem.W.makesIn K C = true)
    (hi : PySem.W.findIn K (.ref C) "__init__" = some (some (.ref f))) (hf : PySem.W.typeIn K (.ref f) = some (.type "function"))
    (h : codeAny (model prog w) (A.under (.builtin "type.__call__" ⟨.ref C :: vs, kw⟩)) (.call (.ref f) ⟨.ref (s.heap.objs.size + 1) :: vs, kw⟩) (PySem.W.InitBack (s.heap.objs.size + 1) R)
      { s with heap := (s.heap.push PySem.W.emptyDict).push (PySem.W.instObj C s.heap.objs.size) }) :
    codeAny (model prog w) A (.call (.ref C) ⟨vs, kw⟩) R s := by
  obtain ⟨hh, g, d, t, os⟩ := s
  exact PySem.W.make_core (PySem.W.makes_of X hm) (PySem.W.looks_findIn X hi) (fun self => PySem.W.bind_fn X self hf) (.inl rfl) h
end

def putF (f : Str) (v : V) : List (Str × V) → List (Str × V)
  | [] => [(f, v)]
  | (g, x) :: r => if g = f then (g, v) :: r else (g, x) :: putF f v r
theorem lookup_putF (f g : Str) (v : V) : ∀ fs : List (Str × V), (putF f v fs).lookup g = if g = f then some v else fs.lookup g
  | [] => by
    show List.lookup g [(f, v)] = _
    by_cases h : g = f
    · have hb : (g == f) = true := beq_iff_eq.mpr h
      simp only [List.lookup, hb, if_pos h]
    · have hb : (g == f) = false := beq_eq_false_iff_ne.mpr h
      simp only [List.lookup, hb, if_neg h]
  | (k, x) :: r => by
    have ih := lookup_putF f g v r
    rw [show putF f v ((k, x) :: r) = (if k = f then (k, v) :: r else (k, x) :: putF f v r) from rfl]
    by_cases hk : k = f
    · rw [if_pos hk]
      by_cases h : g = k
      · have hb : (g == k) = true := beq_iff_eq.mpr h
        simp only [List.lookup, hb, if_pos (h.trans hk)]
      · have hb : (g == k) = false := beq_eq_false_iff_ne.mpr h
        simp only [List.lookup, hb, if_neg (fun e : g = f => h (e.trans hk.symm))]
    · rw [if_neg hk]
      by_cases h : g = k
      · have hb : (g == k) = true := beq_iff_eq.mpr h
        simp only [List.lookup, hb, if_neg (fun e : g = f => hk (h.symm.trans e))]
      · have hb : (g == k) = false := beq_eq_false_iff_ne.mpr h
        simp only [List.lookup, hb]
        exact ih
theorem keys_putF (f : Str) (v : V) : ∀ fs : List (Str × V), f ∈ (putF f v fs).map (·.1) ∧ ∀ g, g ∈ fs.map (·.1) → g ∈ (putF f v fs).map (·.1)
  | [] => ⟨by simp [putF], fun g h => by simp at h⟩
  | (k, x) :: r => by
    obtain ⟨i1, i2⟩ := keys_putF f v r
    rw [show putF f v ((k, x) :: r) = (if k = f then (k, v) :: r else (k, x) :: putF f v r) from rfl]
    by_cases hk : k = f
    · rw [if_pos hk]
      subst hk
      exact ⟨by simp, fun g h => by simpa using h⟩
    · rw [if_neg hk]
      refine ⟨?_, fun g h => ?_⟩
      · rw [List.map_cons]
        exact List.mem_cons_of_mem _ i1
      · rw [List.map_cons] at h ⊢
        rcases List.mem_cons.mp h with e | e
        · exact List.mem_cons.mpr (.inl e)
        · exact List.mem_cons_of_mem _ (i2 g e)
theorem length_putF (f : Str) (v : V) : ∀ fs : List (Str × V), (putF f v fs).length ≤ fs.length + 1
  | [] => by simp [putF]
  | (k, x) :: r => by
    have ih := length_putF f v r
    rw [show putF f v ((k, x) :: r) = (if k = f then (k, v) :: r else (k, x) :: putF f v r) from rfl]
    by_cases hk : k = f
    · rw [if_pos hk, List.length_cons, List.length_cons]; omega
    · rw [if_neg hk, List.length_cons, List.length_cons]; omega

theorem RelO.some_of {v : V} {o : Option Value} (r : RelO (some v) o) : ∃ u, o = some u ∧ RelV v u := by
  cases o with
  | none => exact (show False from r).elim
  | some u => exact ⟨u, rfl, r⟩
theorem RelO.none_of {o : Option Value} (r : RelO none o) : o = none := by
  cases o with
  | none => rfl
  | some u => exact (show False from r).elim
theorem handed_of {v : V} {u : Value} (r : RelV v u) : PySem.W.handedIn u = true := by
  cases v with
  | non => cases (show u = Value.none from r); rfl
  | bl b => cases (show u = Value.bool b from r); rfl
  | int i => obtain ⟨t, e⟩ := (show ∃ t, u = Value.int i t from r); cases e; rfl
  | str x => obtain ⟨t, e⟩ := (show ∃ t, u = Value.str x t from r); cases e; rfl
  | byt b => obtain ⟨t, e⟩ := (show ∃ t, u = Value.bytes b t from r); cases e; rfl
  | flt b => obtain ⟨t, e⟩ := (show ∃ t, u = Value.float b t from r); cases e; rfl
  | ref a => cases (show u = Value.ref a from r); rfl
  | ty n => cases (show u = Value.type n from r); rfl

section
variable {P : Program} {w : World} {H H' : Hp} {h h' : Heap} {a C dx : Addr} {fs fs' : List (Str × V)}
theorem ins_get (hok : HOk P w H h) (e : H a = some (.ins C dx fs)) : ∃ mA, ObjM h a dx C mA ∧ (∀ f, RelO (fs.lookup f) (mA f)) ∧ PySem.Within mA (fs.map (·.1)) ∧ fs.length ≤ 1000 ∧ H dx = some (.own a) := by
  obtain ⟨d, z, ne, ob, mA, n, r, q⟩ := (show ObjOk P w H h a (.ins C dx fs) from hok a _ e)
  exact ⟨mA, ⟨ob, n, ne⟩, r, q, z, d⟩
end

structure Cls (K : PySem.W.Frag) (C : Addr) : Prop where
  pg : PySem.W.plainGet K C Str.empty = true
  hd : PySem.W.hasDictIn K C = true
  po : PySem.W.plainOver K C = true
  sa : PySem.W.findIn K (.ref C) "__setattr__" = some (some (.builtin "object.__setattr__"))
theorem Cls.get {K : PySem.W.Frag} {C : Addr} (c : Cls K C) (f : Str) : PySem.W.plainGet K C f = true := c.pg
/-- no class of it has the name -/
def NoAttr (K : PySem.W.Frag) (C : Addr) (f : Str) : Prop := PySem.W.findIn K (.ref C) f = some none
theorem NoAttr.taker {K : PySem.W.Frag} {C : Addr} {f : Str} (n : NoAttr K C f) : PySem.W.takerIn K C f = some none := by
  unfold PySem.W.takerIn
  rw [show PySem.W.findIn K (.ref C) f = some none from n]
  rfl
/-- a method: a plain def of the class or of one above it -/
structure Meth (K : PySem.W.Frag) (C : Addr) (m : Str) (f : Addr) : Prop where
  at_ : PySem.W.findIn K (.ref C) m = some (some (.ref f))
  fn : PySem.W.isFn K (.ref f) = true
  kp : PySem.W.keepIn K (.ref f) = true

section
variable {X : Cx} {pins : List (Addr × Obj)} {σ : St} {H : Hp} {s : Shared} {a C dx : Addr} {fs : List (Str × V)} {f : Str} {v : V} {A : Around} {E : Value → Shared → Prop}

theorem getattr_ok {b : Bool} {Q : Value → Shared → Prop} (I : Inv X pins σ H s) (e : H a = some (.ins C dx fs)) (c : Cls X.K C) (n : NoAttr X.K C f) (l : fs.lookup f = some v)
    (h : ∀ u s', Inv X pins σ H s' → RelV v u → Q u s') : wpAny (model X.prog X.w) A (getAttr (.ref a) f b) Q E s := by
  obtain ⟨mA, O, r, _, _, _⟩ := ins_get I.hok e
  obtain ⟨u, hu, ru⟩ := RelO.some_of (v := v) (o := mA f) (by rw [← l]; exact r f)
  exact get_map I.kIn O (c.get f) c.hd n hu (handed_of ru) (h u _ (I.tok _) ru)

theorem getmeth_ok {m : Str} {g : Addr} {pl : Sem Bool} {Q : Value × List Value → Shared → Prop} (I : Inv X pins σ H s) (e : H a = some (.ins C dx fs)) (c : Cls X.K C) (k : Meth X.K C m g) (l : fs.lookup m = none)
    (h : Q (.ref g, [.ref a]) s) : wpAny (model X.prog X.w) A (getMethod (.ref a) m pl) Q E s := by
  obtain ⟨mA, O, r, _, _, _⟩ := ins_get I.hok e
  have hn : mA m = none := RelO.none_of (by rw [← l]; exact r m)
  exact get_meth I.kIn O (c.get m) k.at_ k.fn hn h

theorem setattr_ok {y : V} {u : Value} {Q : Unit → Shared → Prop} (I : Inv X pins σ H s) (e : H a = some (.ins C dx fs)) (c : Cls X.K C) (n : NoAttr X.K C f) (hl : fs.length < 1000) (ry : RelV y u)
    (h : ∀ s', Inv X pins σ (upd H a (.ins C dx (putF f y fs))) s' → Q () s') : wpAny (model X.prog X.w) A (setAttr (.ref a) f u) Q E s := by
  obtain ⟨mA, O, r, wi, _, ho⟩ := ins_get I.hok e
  have hz : (fs.map (·.1)).length ≤ sizeLine := by rw [List.length_map, sizeLine_eq]; omega
  refine set_map I.kIn O c.sa c.po n.taker c.hd wi hz fun h' O' sb => h _ ?_
  have hd : ∃ o, h'.get? dx = some o := let ⟨o, _, _, e', _⟩ := O'.ns; ⟨o, e'⟩
  refine I.write (x := a) (e := dx) (by rw [e]; exact True.intro) (.inr ho) (fun b q hb z => (sb.2 b hb).trans z) hd ?_
  refine ⟨by rw [upd_ne O.ne]; exact ho, ?_, O.ne, O'.obj, _, O'.ns, fun g => ?_, fun g hg => ?_⟩
  · have := length_putF f y fs; omega
  · show RelO ((putF f y fs).lookup g) (if g = f then some u else mA g)
    rw [lookup_putF]
    by_cases q : g = f
    · rw [if_pos q, if_pos q]; exact ry
    · rw [if_neg q, if_neg q]; exact r g
  · by_cases q : g = f
    · rw [q]; exact (keys_putF f y fs).1
    · refine (keys_putF f y fs).2 g (wi g fun z => hg ?_)
      show (if g = f then some u else mA g) = none
      rw [if_neg q]; exact z

/-- a new instance, tracked, without attributes -/
theorem Inv.made (I : Inv X pins σ H s) : Inv X pins σ (upd (upd H s.heap.objs.size (.own (s.heap.objs.size + 1))) (s.heap.objs.size + 1) (.ins C s.heap.objs.size []))
    { s with heap := (s.heap.push PySem.W.emptyDict).push (PySem.W.instObj C s.heap.objs.size) } := by
  have e1 : (s.heap.push PySem.W.emptyDict).get? s.heap.objs.size = some PySem.W.emptyDict := Heap.get?_push_size s.heap rfl
  have e2 : ((s.heap.push PySem.W.emptyDict).push (PySem.W.instObj C s.heap.objs.size)).get? (s.heap.objs.size + 1) = some (PySem.W.instObj C s.heap.objs.size) := by
    have := Heap.get?_push_size (s.heap.push PySem.W.emptyDict) (o := PySem.W.instObj C s.heap.objs.size) rfl
    rwa [Heap.size_push] at this
  have e3 : (s.heap.push PySem.W.emptyDict).Ns s.heap.objs.size (fun _ => none) := ⟨PySem.W.emptyDict, #[], _, e1, rfl, (fun e he => absurd he (by simp)), fun _ => rfl⟩
  have I1 := I.laid (a := s.heap.objs.size) (o := .own (s.heap.objs.size + 1)) (h' := s.heap.push PySem.W.emptyDict) (t' := s.toks) (fun b u q => Heap.get?_push_of_some _ q) (Nat.le_refl _) ⟨_, e1⟩
  refine I1.laid (a := s.heap.objs.size + 1) (o := .ins C s.heap.objs.size []) (t' := s.toks) (fun b u q => Heap.get?_push_of_some _ q) (Nat.le_of_eq (Heap.size_push _ _)) ?_
  have ne : s.heap.objs.size ≠ s.heap.objs.size + 1 := Nat.ne_of_lt (Nat.lt_succ_self _)
  refine ⟨by rw [upd_ne ne, upd_same], Nat.zero_le _, ne, e2, fun _ => none, (Heap.Ns1.of_empty e3).at fun o q => Heap.get?_push_of_some _ q, fun _ => True.intro, fun y hy => absurd rfl hy⟩

/-- e.f where nothing but the object is asked: through attributeBase (super) and the last hold -/
theorem attr_of {prog : Program} {w : World} {env : Env} {e : Expr} {f : Str} {pos : Pos} {s : Shared} {Q : Value → Shared → Prop} (hb : attributeBase e f env (eval e env) = eval e env)
    (h : wpAny (model prog w) A (eval e env) (fun o s₁ => wpAny (model prog w) A (getAttr o f true) Q E s₁) E s) : wpAny (model prog w) A (eval (.Attribute e f pos) env) Q E s :=
  Attribute_any_ h (by rw [arm_eval_Attribute, hb])
end

/-- e.f, an attribute of the instance -/
def tFld (K : PySem.W.Frag) (ta : TE) (f : Str) : TE := fun σ H Q => ta σ H fun x H1 => ∃ a C dx fs v, x = .ref a ∧ H1 a = some (.ins C dx fs) ∧ Cls K C ∧ NoAttr K C f ∧ fs.lookup f = some v ∧ Q v H1
/-- e.f = value -/
def sFld (K : PySem.W.Frag) (ta tv : TE) (f : Str) : TS := fun D σ H => tv σ H fun y H1 => ta σ H1 fun x H2 => ∃ a C dx fs, x = .ref a ∧ H2 a = some (.ins C dx fs) ∧ Cls K C ∧ NoAttr K C f ∧ fs.length < 1000 ∧
  D.nx σ (upd H2 a (.ins C dx (putF f y fs)))
/-- an augmented operator on two values -/
def InOp (X : Cx) (op : Operator) (rd : V → V → Hp → VK → Prop) : Prop :=
  ∀ (pins : List (Addr × Obj)) (s : Shared) (σ : St) (H : Hp) (x y : V) (u v : Value) (Q : VK), Inv X pins σ H s → RelV x u → RelV y v → rd x y H Q → wpAny (model X.prog X.w) X.A (inplaceOp op u v) (EP X pins σ Q) X.xe s
/-- e.f op= value -/
def sFldAug (K : PySem.W.Frag) (ta tv : TE) (rd : V → V → Hp → VK → Prop) (f : Str) : TS := fun D σ H => ta σ H fun x H1 => ∃ a C dx fs v, x = .ref a ∧ H1 a = some (.ins C dx fs) ∧ Cls K C ∧ NoAttr K C f ∧ fs.lookup f = some v ∧
  tv σ H1 fun y H2 => rd v y H2 fun z H3 => ∃ dx' fs', H3 a = some (.ins C dx' fs') ∧ fs'.length < 1000 ∧ D.nx σ (upd H3 a (.ins C dx' (putF f z fs')))

section
variable {X : Cx} {o e value : Expr} {f : Str} {pos pos' tpos : Pos} {ta tv : TE}
theorem pe_fld (he : PE X e ta) (hb : attributeBase e f X.env (eval e X.env) = eval e X.env) : PE X (.Attribute e f pos) (tFld X.K ta f) := by
  intro pins s σ H Q I h
  refine attr_of hb (thn (he pins s σ H _ I h) fun u s1 ⟨x, H1, I1, rx, a, C, dx, fs, v, ex, ea, c, n, l, q⟩ => ?_)
  subst ex
  obtain rfl : u = Value.ref a := rx
  exact getattr_ok I1 ea c n l fun u' s2 I2 ru => ⟨v, H1, I2, ru, q⟩
theorem ps_fld (ha : PE X o ta) (hv : PE X value tv) (hs : swapsWith value (some (.Attribute o f pos')) pos.line X.env = pure false) : PS X (.Assign [.Attribute o f pos'] value pos) (sFld X.K ta tv f) := by
  intro pins s σ H D I h
  refine plainObj_wpAny_Assign_Attribute (thn (hv pins s σ H _ I h) fun u s1 ⟨y, H1, I1, ry, q⟩ => thn (ha pins s1 σ H1 _ I1 q) fun ov s2 ⟨x, H2, I2, rx, a, C, dx, fs, ex, ea, c, n, l, q2⟩ => ?_) hs
  subst ex
  obtain rfl : ov = Value.ref a := rx
  exact setattr_ok I2 ea c n l ry fun s3 I3 => ⟨σ, _, I3, q2⟩
theorem ps_fldaug {op : Operator} {rd : V → V → Hp → VK → Prop} (ha : PE X o ta) (hv : PE X value tv) (hop : InOp X op rd) : PS X (.AugAssign (.Attribute o f tpos) op value pos) (sFldAug X.K ta tv rd f) := by
  intro pins s σ H D I h
  refine wpAny_AugAssign_AttributeAny (thn (ha pins s σ H _ I h) fun ov s1 ⟨x, H1, I1, rx, a, C, dx, fs, v, ex, ea, c, n, l, q⟩ => ?_)
  subst ex
  obtain rfl : ov = Value.ref a := rx
  refine getattr_ok I1 ea c n l fun u s2 I2 ru => thn (hv pins s2 σ H1 _ I2 q) fun w3 s3 ⟨y, H2, I3, ry, q3⟩ => thn (hop pins s3 σ H2 v y u w3 _ I3 ru ry q3) fun w4 s4 ⟨z, H3, I4, rz, dx', fs', ea', l', q4⟩ => ?_
  exact setattr_ok I4 ea' c n l' rz fun s5 I5 => ⟨σ, _, I5, q4⟩
def rAdd : V → V → Hp → VK → Prop := fun x y H Q => ∃ i j, x = .int i ∧ y = .int j ∧ Q (.int (i + j)) H
def rSub : V → V → Hp → VK → Prop := fun x y H Q => ∃ i j, x = .int i ∧ y = .int j ∧ Q (.int (i - j)) H
theorem in_add : InOp X .Add rAdd := by
  rintro pins s σ H x y u v Q I rx ry ⟨i, j, rfl, rfl, q⟩
  obtain ⟨t, rfl⟩ := (show ∃ t, u = Value.int i t from rx)
  obtain ⟨t', rfl⟩ := (show ∃ t', v = Value.int j t' from ry)
  exact PyProof.Rows.iadd_int ⟨.int (i + j), H, I.tok _, ⟨_, rfl⟩, q⟩
theorem in_sub : InOp X .Sub rSub := by
  rintro pins s σ H x y u v Q I rx ry ⟨i, j, rfl, rfl, q⟩
  obtain ⟨t, rfl⟩ := (show ∃ t, u = Value.int i t from rx)
  obtain ⟨t', rfl⟩ := (show ∃ t', v = Value.int j t' from ry)
  exact PyProof.Rows.isub_int ⟨.int (i - j), H, I.tok _, ⟨_, rfl⟩, q⟩

end

section
variable {X : Cx} {pins : List (Addr × Obj)} {σ : St} {H : Hp} {s : Shared} {A : Around} {E : Value → Shared → Prop} {Q : Value → Shared → Prop} {c : Value} {b : Bool}
end
end L2

namespace L2
open PySem PySem.Spec PyProof.Rows

structure Room (k : Nat) (A : Around) : Prop where
  hd : A.handled = none
  dp : A.depth + 3 * k + 5 < recursionLimit
  un : A.units + 16 * k + 200 < cLine
theorem Room.mono {j k : Nat} {A : Around} (r : Room k A) (h : j ≤ k) : Room j A := ⟨r.hd, by have := r.dp; omega, by have := r.un; omega⟩
theorem Room.deeper {k : Nat} {A : Around} (r : Room (k + 1) A) (env : Env) : Room k (A.deeper env) :=
  ⟨r.hd, by have := r.dp; show A.depth + 1 + 3 * k + 5 < _; omega, by have := r.un; show A.units + 3 + 16 * k + 200 < _; omega⟩
theorem make_depth {A : Around} {C : Addr} {us : List Value} {kw : List (Str × Value)} : (A.under (.builtin "type.__call__" ⟨.ref C :: us, kw⟩)).depth = A.depth + 1 := by
  first | rfl | simp [Around.under, Code.weight, Code.isCreation, Code.isGuard, Code.isCaller, Code.frames, Code.isFrame, guardIds]
theorem make_units {A : Around} {C : Addr} {us : List Value} {kw : List (Str × Value)} : (A.under (.builtin "type.__call__" ⟨.ref C :: us, kw⟩)).units = A.units + 1 := by
  first | rfl | simp [Around.under, Code.cUnits, Code.frames, Code.isFrame]
theorem Room.make {k : Nat} {A : Around} (r : Room (k + 1) A) (C : Addr) (us : List Value) (kw : List (Str × Value)) : Room k (A.under (.builtin "type.__call__" ⟨.ref C :: us, kw⟩)) :=
  ⟨r.hd, by have := r.dp; rw [make_depth]; omega, by have := r.un; rw [make_units]; omega⟩
theorem Room.depth {k : Nat} {A : Around} (r : Room k A) : A.depth < recursionLimit := by have := r.dp; omega
theorem Room.units {k : Nat} {A : Around} (r : Room k A) : A.units + 64 < cLine := by have := r.un; omega
def tNil : TA := fun _ H Q => Q [] H
def tCons (ta : TE) (tr : TA) : TA := fun σ H Q => ta σ H fun x H1 => tr σ H1 fun xs H2 => Q (x :: xs) H2
section
variable {X : Cx} {e : Expr} {es : List Expr} {te : TE} {t : TA} {pos : Pos}
theorem pa_nil : PA X [] tNil := fun _ _ _ _ H Q I h => Calls.spliced_nil ⟨[], H, I, .nil, h⟩
theorem pa_cons (ha : PE X e te) (hr : PA X es t) (hs : starEach (e :: es) X.env = (false, eval e X.env) :: starEach es X.env := by rfl) : PA X (e :: es) (tCons te t) := by
  intro pos pins s σ H Q I h
  rw [hs]
  show wpAny _ _ (spliced ((false, eval e X.env) :: backTo pos (starEach es X.env))) _ _ s
  refine Calls.spliced_cons (thn (ha pins s σ H _ I h) fun u s1 ⟨x, H1, I1, r1, q1⟩ => ?_)
  exact thn (hr pos pins s1 σ H1 _ I1 q1) fun us s2 ⟨xs, H2, I2, r2, q2⟩ => ⟨x :: xs, H2, I2, .cons r1 r2, q2⟩

/-- a tuple, a list of written items -/
def tTup (t : TA) : TE := fun σ H Q => t σ H fun xs H1 => xs.length ≤ sizeLine ∧ ∀ p, H1 p = none → Q (.ref p) (upd H1 p (.tup xs))
def tLst (t : TA) : TE := fun σ H Q => t σ H fun xs H1 => xs.length ≤ sizeLine ∧ ∀ p, H1 p = none → Q (.ref p) (upd H1 p (.lst xs))
theorem pe_tup {x1} (h : PA X es t) : PE X (.Tuple es x1 pos) (tTup t) := by
  intro pins s σ H Q I hq
  refine wpAny_Tuple_spliced (thn (h pos pins s σ H _ I hq) fun us s1 ⟨xs, H1, I1, r, z, q⟩ => ⟨by rw [← r.length]; exact z, ?_⟩)
  have hf : H1 s1.heap.objs.size = none := I1.hok.fresh (Nat.le_refl _)
  refine ⟨.ref s1.heap.objs.size, upd H1 s1.heap.objs.size (.tup xs), I1.laid (t' := s1.toks) (fun b u e => Heap.get?_push_of_some _ e) (Nat.le_refl _) ?_, rfl, q _ hf⟩
  exact ⟨z, us, r, ⟨_, Heap.get?_push_size _ rfl, rfl, _, rfl⟩⟩
theorem pe_lst (h : PA X es t) : PE X (.List es pos) (tLst t) := by
  intro pins s σ H Q I hq
  refine wpAny_List_spliced (thn (h pos pins s σ H _ I hq) fun us s1 ⟨xs, H1, I1, r, z, q⟩ => ⟨by rw [← r.length]; exact z, ?_⟩)
  have hf : H1 s1.heap.objs.size = none := I1.hok.fresh (Nat.le_refl _)
  refine ⟨.ref s1.heap.objs.size, upd H1 s1.heap.objs.size (.lst xs), I1.laid (t' := s1.toks) (fun b u e => Heap.get?_push_of_some _ e) (Nat.le_refl _) ?_, rfl, q _ hf⟩
  exact ⟨z, us, 0, r, Heap.get?_push_size _ rfl⟩
end

/-- a def's promise: the bound arguments in the parameters' order, the heap, the wanted end, the wanted exception -/
abbrev Sp := List V → Hp → VK → XK → Prop
/-- how an exception lies behind a call (file 08 gives it): the callers' frames, abstract heap and state ahead of the call, the wish, the exception, the state -/
abbrev CXT := List Env → Hp → Shared → XK → Value → Shared → Prop

/-- the state at a call -/
structure Env0 (P : Program) (w : World) (K : PySem.W.Frag) (mg : Str → Option Value) (base : Heap) (A : Around) (outer : List Env) (s : Shared) (H : Hp) : Prop where
  frames : A.frames = some outer
  mod : Mod K mg base
  bs : ∀ b o, base.get? b = some o → s.heap.get? b = some o ∧ H b = none
  bsz : base.objs.size ≤ s.heap.objs.size
  funs : s.heap.FunFrames base outer
  frf : ∀ b ∈ frs outer, H b = none
  hok : HOk P w H s.heap
  bare : AllBare s.gens
/-- a call's end -/
def CE (outer : List Env) (P : Program) (w : World) (H : Hp) (s : Shared) (Q : VK) (u : Value) (s' : Shared) : Prop :=
  ∃ v H', s'.os = s.os ∧ AllBare s'.gens ∧ Un (frs outer) [] H H' s.heap s'.heap ∧ HOk P w H' s'.heap ∧ RelV v u ∧ Q v H'
def CR (CX : CXT) (outer : List Env) (P : Program) (w : World) (H : Hp) (s : Shared) (Q : VK) (E : XK) (r : Result) (s' : Shared) : Prop :=
  match r with
  | .ok (.ret u) => CE outer P w H s Q u s'
  | .ok _ => False
  | .error e => CX outer H s E e s'
structure FnOk (P : Program) (w : World) (K : PySem.W.Frag) (mg : Str → Option Value) (base : Heap) (CX : CXT) (k : Nat) (f : Addr) (fd : FuncData) (ps : List Str) (sp : Sp) : Prop where
  len : ∀ vs H Q E, sp vs H Q E → vs.length = ps.length
  run : ∀ (A : Around) (outer : List Env) (s : Shared) (H : Hp) (args : Args) (us : List Value) (vs : List V) (Q : VK) (E : XK), Room k A → Env0 P w K mg base A outer s H → BindsTo s fd args (ps.zip us) → Vals vs us → sp vs H Q E →
    codeAny (model P w) A (.call (.ref f) args) (CR CX outer P w H s Q E) s
theorem Env0.make {P : Program} {w : World} {K : PySem.W.Frag} {mg : Str → Option Value} {base : Heap} {A : Around} {outer : List Env} {s : Shared} {H : Hp} (e : Env0 P w K mg base A outer s H) (C : Addr) (us : List Value) (kw : List (Str × Value)) :
    Env0 P w K mg base (A.under (.builtin "type.__call__" ⟨.ref C :: us, kw⟩)) outer s H := ⟨by first | exact e.frames | (simpa [Around.under, Code.envs, Code.isFrame, pushEnvs] using e.frames), e.mod, e.bs, e.bsz, e.funs, e.frf, e.hok, e.bare⟩
section
variable {X : Cx} {pins : List (Addr × Obj)} {σ : St} {H : Hp} {s s' : Shared}
/-- from a body: what a callee wants -/
theorem Inv.env0 (I : Inv X pins σ H s) : Env0 X.prog X.w X.K X.mg X.base X.A X.stack s H :=
  ⟨I.ok.frames, I.ok.mod, I.bs, Nat.le_trans I.ok.bsz I.sz, I.stack, I.stkFree, I.hok, I.bare⟩
/-- behind a call -/
theorem Inv.after {Q : VK} {u : Value} (I : Inv X pins σ H s) (h : CE X.stack X.prog X.w H s Q u s') : EP X pins σ Q u s' := by
  obtain ⟨v, H', os, bare, un, hok, r, q⟩ := h
  obtain ⟨hh, g, d, t, os'⟩ := s'
  obtain rfl : os' = s.os := os
  exact ⟨v, H', I.call (h' := hh) (g' := g) (d' := d) (t' := t) (ch := []) un hok bare (fun b z => absurd z (by simp)), r, q⟩
end

/-- f(..): the written arguments, then the defaults dvs; E: what is wanted of an exception -/
def tCall (sp : Sp) (dvs : List V) (E : XK) (t : TA) : TE := fun σ H Q => t σ H fun vs H1 => sp (vs ++ dvs) H1 Q E
/-- o.m(..) of an instance of the class at C -/
def tMeth (C : Addr) (m : Str) (sp : Sp) (dvs : List V) (E : XK) (ta : TE) (t : TA) : TE := fun σ H Q => ta σ H fun x H1 => ∃ a dx fs, x = .ref a ∧ H1 a = some (.ins C dx fs) ∧ fs.lookup m = none ∧
  t σ H1 fun vs H2 => sp (x :: (vs ++ dvs)) H2 Q E
/-- C(..): a new instance and its dict, then __init__ -/
def tMake (C : Addr) (sp : Sp) (dvs : List V) (E : XK) (t : TA) : TE := fun σ H Q => t σ H fun vs H1 => ∀ x dx, H1 x = none → H1 dx = none → dx ≠ x →
  sp (.ref x :: (vs ++ dvs)) (upd (upd H1 dx (.own x)) x (.ins C dx [])) (fun v H2 => v = .non ∧ Q (.ref x) H2) E

/-- how the parameters are bound: us the positional arguments, kw the keywords' values by name, ds the defaults that fill up -/
def Binds (K : PySem.W.Frag) (fd : FuncData) (ps : List Str) (ds : List Value) : Prop :=
  ∀ (s : Shared) (us : List Value), K.In s.heap → (us ++ ds).length = ps.length → BindsTo s fd ⟨us, []⟩ (ps.zip (us ++ ds))
/-- every parameter is given -/
theorem Binds.all {K : PySem.W.Frag} {fd : FuncData} {ps : List Str} (h : ∀ us : List Value, us.length = ps.length → bindArgs fd ⟨us, []⟩ = pure (ps.zip us)) : Binds K fd ps [] := fun s us _ hl => by
  rw [List.append_nil] at hl ⊢
  exact .of_eq (h us hl)

/-- an exception of a callee reaches what this body wants of exceptions -/
def Passes (CX : CXT) (X : Cx) (E : XK) : Prop := ∀ (pins : List (Addr × Obj)) (σ : St) (H : Hp) (s : Shared) (e : Value) (s' : Shared), Inv X pins σ H s → CX X.stack H s E e s' → X.xe e s'

section
variable {X : Cx} {CX : CXT} {k : Nat} {f C : Addr} {fd : FuncData} {ps : List Str} {sp : Sp} {dvs : List V} {ds : List Value} {E : XK} {x m : Str} {p pos apos : Pos} {e o : Expr} {es : List Expr} {ta : TE} {t : TA}

/-- the callee runs -/
theorem run_fn {pins : List (Addr × Obj)} {σ : St} {H : Hp} {s : Shared} {Q : VK} {us : List Value} {vs : List V} (F : FnOk X.prog X.w X.K X.mg X.base CX k f fd ps sp) (hr : Room k X.A) (hb : Binds X.K fd ps ds) (hd : Vals dvs ds) (hx : Passes CX X E)
    (I : Inv X pins σ H s) (r : Vals vs us) (h : sp (vs ++ dvs) H Q E) : wpAny (model X.prog X.w) X.A (call (.ref f) us) (EP X pins σ Q) X.xe s := by
  have r2 : Vals (vs ++ dvs) (us ++ ds) := r.append hd
  have hl : (us ++ ds).length = ps.length := by rw [← r2.length]; exact F.len _ _ _ _ h
  refine wpAny_call (codeAny_mono (F.run X.A X.stack s H ⟨us, []⟩ (us ++ ds) (vs ++ dvs) Q E hr I.env0 (hb s us I.kIn hl) r2 h) fun r s' hq => ?_)
  cases r with
  | error e => exact hx pins σ H s e s' I hq
  | ok fl =>
    cases fl with
    | ret u => exact I.after hq
    | next => exact False.elim hq
    | brk => exact False.elim hq
    | cont => exact False.elim hq

theorem pe_call (F : FnOk X.prog X.w X.K X.mg X.base CX k f fd ps sp) (hr : Room k X.A) (hg : Gl X x) (hm : X.mg x = some (.ref f)) (hk : PySem.W.keepIn X.K (.ref f) = true) (hb : Binds X.K fd ps ds) (hd : Vals dvs ds) (hx : Passes CX X E)
    (ha : PA X (e :: es) t) (hdb : (x == ("__debug__" : Str)) = false := by decide) (he : starEach (e :: es) X.env = (false, eval e X.env) :: starEach es X.env := by rfl) (hpl : (backTo pos (starEach es X.env)).any (·.1) = false := by rfl) :
    PE X (.Call (.Name x p) (e :: es) [] pos) (tCall sp dvs E t) := by
  intro pins s σ H Q I h
  refine wpAny_Call_Name_kw (ld_glob I hg hm ?_ hdb)
  refine PySem.W.callWith_K (h₀ := X.base) I.ok.mod.kin hk (thn (ha pos pins s σ H _ I h) fun us s1 ⟨vs, H1, I1, r, q⟩ => ⟨I1.kIn, ?_⟩) he hpl
  exact run_fn F hr hb hd hx I1 r q
theorem pe_call0 (F : FnOk X.prog X.w X.K X.mg X.base CX k f fd ps sp) (hr : Room k X.A) (hg : Gl X x) (hm : X.mg x = some (.ref f)) (hk : PySem.W.keepIn X.K (.ref f) = true) (hb : Binds X.K fd ps ds) (hd : Vals dvs ds) (hx : Passes CX X E)
    (hdb : (x == ("__debug__" : Str)) = false := by decide) : PE X (.Call (.Name x p) [] [] pos) (tCall sp dvs E tNil) := by
  intro pins s σ H Q I h
  refine wpAny_Call_Name_kw (ld_glob I hg hm ?_ hdb)
  exact PySem.W.callWith_K0 I.kIn hk (run_fn (us := []) F hr hb hd hx I .nil h)

/-- o.m(e, ..) -/
theorem pe_meth {pl : Sem Bool} (he : PE X o ta) (c : Cls X.K C) (hm : Meth X.K C m f) (F : FnOk X.prog X.w X.K X.mg X.base CX k f fd ps sp) (hr : Room k X.A) (hb : Binds X.K fd ps ds) (hd : Vals dvs ds) (hx : Passes CX X E) (ha : PA X (e :: es) t)
    (hst : starEach (e :: es) X.env = (false, eval e X.env) :: starEach es X.env := by rfl) (hpl : (backTo pos (starEach es X.env)).any (·.1) = false := by rfl)
    (ht : eval (.Call (.Attribute o m apos) (e :: es) [] pos) X.env = (do
      let ov ← eval o X.env
      standAt apos.atName
      let (f, first) ← holding [ov] (getMethod ov m pl)
      callWith pos f first (backTo pos (starEach (e :: es) X.env)) (backToKw pos (keywordEach [] X.env))) := by rfl) :
    PE X (.Call (.Attribute o m apos) (e :: es) [] pos) (tMeth C m sp dvs E ta t) := by
  intro pins s σ H Q I h
  refine PySem.W.methodCall_KW (pl := pl) (thn (he pins s σ H _ I h) fun u s1 ⟨x, H1, I1, rx, a, dx, fs, ex, ea, l, q⟩ => ?_) ht
  subst ex
  obtain rfl : u = Value.ref a := rx
  refine getmeth_ok I1 ea c hm l ?_
  refine PySem.W.callWith_K (first := [.ref a]) (h₀ := X.base) I.ok.mod.kin hm.kp (thn (ha pos pins s1 σ H1 _ I1 q) fun us s2 ⟨vs, H2, I2, r, q2⟩ => ⟨I2.kIn, ?_⟩) hst hpl
  exact run_fn (us := .ref a :: us) (vs := .ref a :: vs) F hr hb hd hx I2 (.cons rfl r) q2
/-- o.m() -/
theorem pe_meth0 {pl : Sem Bool} (he : PE X o ta) (c : Cls X.K C) (hm : Meth X.K C m f) (F : FnOk X.prog X.w X.K X.mg X.base CX k f fd ps sp) (hr : Room k X.A) (hb : Binds X.K fd ps ds) (hd : Vals dvs ds) (hx : Passes CX X E)
    (ht : eval (.Call (.Attribute o m apos) [] [] pos) X.env = (do
      let ov ← eval o X.env
      standAt apos.atName
      let (f, first) ← holding [ov] (getMethod ov m pl)
      callWith pos f first (backTo pos (starEach [] X.env)) (backToKw pos (keywordEach [] X.env))) := by rfl) :
    PE X (.Call (.Attribute o m apos) [] [] pos) (tMeth C m sp dvs E ta tNil) := by
  intro pins s σ H Q I h
  refine PySem.W.methodCall_KW (pl := pl) (thn (he pins s σ H _ I h) fun u s1 ⟨x, H1, I1, rx, a, dx, fs, ex, ea, l, q⟩ => ?_) ht
  subst ex
  obtain rfl : u = Value.ref a := rx
  refine getmeth_ok I1 ea c hm l ?_
  exact PySem.W.callWith_K0 (first := [.ref a]) I1.kIn hm.kp (run_fn (us := [.ref a]) (vs := [.ref a]) F hr hb hd hx I1 (.cons rfl .nil) q)

/-- what a class must have to be made -/
structure Mk (K : PySem.W.Frag) (C f : Addr) : Prop where
  makes : PySem.W.makesIn K C = true
  init : PySem.W.findIn K (.ref C) "__init__" = some (some (.ref f))
  fn : PySem.W.isFn K (.ref f) = true
  kp : PySem.W.keepIn K (.ref C) = true

theorem run_make {pins : List (Addr × Obj)} {σ : St} {H : Hp} {s : Shared} {Q : VK} {us : List Value} {vs : List V} (M : Mk X.K C f) (F : FnOk X.prog X.w X.K X.mg X.base CX k f fd ps sp) (hr : Room (k + 1) X.A) (hb : Binds X.K fd ps ds) (hd : Vals dvs ds)
    (hx : Passes CX X E) (I : Inv X pins σ H s) (r : Vals vs us)
    (h : ∀ x dx, H x = none → H dx = none → dx ≠ x → sp (.ref x :: (vs ++ dvs)) (upd (upd H dx (.own x)) x (.ins C dx [])) (fun v H2 => v = .non ∧ Q (.ref x) H2) E) :
    wpAny (model X.prog X.w) X.A (call (.ref C) us) (EP X pins σ Q) X.xe s := by
  have hq := h (s.heap.objs.size + 1) s.heap.objs.size (I.hok.fresh (Nat.le_succ _)) (I.hok.fresh (Nat.le_refl _)) (Nat.ne_of_lt (Nat.lt_succ_self _))
  have I2 := Inv.made (C := C) I
  have r2 : Vals (V.ref (s.heap.objs.size + 1) :: (vs ++ dvs)) (Value.ref (s.heap.objs.size + 1) :: (us ++ ds)) := .cons rfl (r.append hd)
  have hl : (Value.ref (s.heap.objs.size + 1) :: us ++ ds).length = ps.length := by
    have e := r2.length
    rw [F.len _ _ _ _ hq] at e
    exact e.symm
  refine wpAny_call (make_map (f := f) I.kIn M.makes M.init (beq_iff_eq.mp M.fn) (codeAny_mono (F.run _ X.stack _ _ ⟨Value.ref (s.heap.objs.size + 1) :: us, []⟩ (Value.ref (s.heap.objs.size + 1) :: (us ++ ds)) _ _ E (hr.make C us [])
    (I2.env0.make C us []) (hb _ (Value.ref (s.heap.objs.size + 1) :: us) I2.kIn hl) r2 hq) fun r s' hq' => ?_))
  cases r with
  | error e => exact hx pins σ _ _ e s' I2 hq'
  | ok fl =>
    cases fl with
    | ret u =>
      obtain ⟨v, H', I3, rv, ev, q3⟩ := I2.after hq'
      subst ev
      exact ⟨rv, ⟨V.ref (s.heap.objs.size + 1), H', I3, rfl, q3⟩⟩
    | next => exact False.elim hq'
    | brk => exact False.elim hq'
    | cont => exact False.elim hq'
theorem pe_make (M : Mk X.K C f) (F : FnOk X.prog X.w X.K X.mg X.base CX k f fd ps sp) (hr : Room (k + 1) X.A) (hg : Gl X x) (hm : X.mg x = some (.ref C)) (hb : Binds X.K fd ps ds) (hd : Vals dvs ds) (hx : Passes CX X E)
    (ha : PA X (e :: es) t) (hdb : (x == ("__debug__" : Str)) = false := by decide) (he : starEach (e :: es) X.env = (false, eval e X.env) :: starEach es X.env := by rfl) (hpl : (backTo pos (starEach es X.env)).any (·.1) = false := by rfl) :
    PE X (.Call (.Name x p) (e :: es) [] pos) (tMake C sp dvs E t) := by
  intro pins s σ H Q I h
  refine wpAny_Call_Name_kw (ld_glob I hg hm ?_ hdb)
  refine PySem.W.callWith_K (h₀ := X.base) I.ok.mod.kin M.kp (thn (ha pos pins s σ H _ I h) fun us s1 ⟨vs, H1, I1, r, q⟩ => ⟨I1.kIn, ?_⟩) he hpl
  exact run_make M F hr hb hd hx I1 r q
theorem pe_make0 (M : Mk X.K C f) (F : FnOk X.prog X.w X.K X.mg X.base CX k f fd ps sp) (hr : Room (k + 1) X.A) (hg : Gl X x) (hm : X.mg x = some (.ref C)) (hb : Binds X.K fd ps ds) (hd : Vals dvs ds) (hx : Passes CX X E)
    (hdb : (x == ("__debug__" : Str)) = false := by decide) : PE X (.Call (.Name x p) [] [] pos) (tMake C sp dvs E tNil) := by
  intro pins s σ H Q I h
  refine wpAny_Call_Name_kw (ld_glob I hg hm ?_ hdb)
  exact PySem.W.callWith_K0 I.kIn M.kp (run_make (us := []) M F hr hb hd hx I .nil h)
end

section
variable {X : Cx} {CX : CXT} {k : Nat} {f C : Addr} {fd : FuncData} {ps ks : List Str} {sp : Sp} {E : XK} {x m : Str} {p pos apos kpos : Pos} {e o : Expr} {es : List Expr} {kws : List Keyword} {te ta : TE} {t tk : TA} {nm : Option Str}
variable {g : List Value → List Value → List Value} {gV : List V → List V → List V}
end

/-- names: the parameters first -/
structure FnScope (N P : List Str) (sc : Scope) : Prop where
  kind : sc.kind = .function
  co : sc.isCoroutine = false
  gen : sc.isGenerator = false
  nd : N.Nodup
  pre : N.take P.length = P
  par : ∀ x ∈ P, sc.names.lookup x = some .local ∨ sc.names.lookup x = some .cell
  nofree : ∀ y ∈ sc.names, y.2 ≠ .free

theorem bindL_out {kindOf : Str → Option NameKind} {x : Str} : ∀ {binds : List (Str × Value)} {m : Str → Option Value}, (∀ v, (x, v) ∉ binds) → bindL kindOf binds m x = m x
  | [], _, _ => rfl
  | (n, v) :: r, m, h => by
    unfold bindL
    rw [bindL_out fun w hw => h w (List.mem_cons_of_mem _ hw)]
    split
    · have : x ≠ n := by rintro rfl; exact h v List.mem_cons_self
      simp [this]
    · rfl
theorem bindC_out {kindOf : Str → Option NameKind} {x : Str} : ∀ {binds : List (Str × Value)} {m : Str → Option Value}, (∀ v, (x, v) ∉ binds) → bindC kindOf binds m x = m x
  | [], _, _ => rfl
  | (n, v) :: r, m, h => by
    unfold bindC
    rw [bindC_out fun w hw => h w (List.mem_cons_of_mem _ hw)]
    split
    · rfl
    · have : x ≠ n := by rintro rfl; exact h v List.mem_cons_self
      simp [this]
theorem bindL_get {kindOf : Str → Option NameKind} {x : Str} {v : Value} : ∀ {P : List Str} {vs : List Value} {i : Nat} {m : Str → Option Value}, P.Nodup → P[i]? = some x → vs[i]? = some v → kindOf x = some .local →
    bindL kindOf (P.zip vs) m x = some v
  | [], _, _, _, _, h, _, _ => by simp at h
  | _ :: _, [], _, _, _, _, h, _ => by simp at h
  | p :: P, w :: vs, 0, m, nd, h1, h2, hk => by
    simp at h1 h2; subst h1; subst h2
    show bindL kindOf ((p, w) :: P.zip vs) m p = _
    unfold bindL
    rw [bindL_out fun v hv => (List.nodup_cons.mp nd).1 (List.of_mem_zip hv).1, if_pos hk]
    simp
  | p :: P, w :: vs, i + 1, m, nd, h1, h2, hk => by
    show bindL kindOf ((p, w) :: P.zip vs) m x = _
    unfold bindL
    exact bindL_get (i := i) (List.nodup_cons.mp nd).2 (by simpa using h1) (by simpa using h2) hk
theorem bindC_get {kindOf : Str → Option NameKind} {x : Str} {v : Value} : ∀ {P : List Str} {vs : List Value} {i : Nat} {m : Str → Option Value}, P.Nodup → P[i]? = some x → vs[i]? = some v → kindOf x ≠ some .local →
    bindC kindOf (P.zip vs) m x = some v
  | [], _, _, _, _, h, _, _ => by simp at h
  | _ :: _, [], _, _, _, _, h, _ => by simp at h
  | p :: P, w :: vs, 0, m, nd, h1, h2, hk => by
    simp at h1 h2; subst h1; subst h2
    show bindC kindOf ((p, w) :: P.zip vs) m p = _
    unfold bindC
    rw [bindC_out fun v hv => (List.nodup_cons.mp nd).1 (List.of_mem_zip hv).1, if_neg hk]
    simp
  | p :: P, w :: vs, i + 1, m, nd, h1, h2, hk => by
    show bindC kindOf ((p, w) :: P.zip vs) m x = _
    unfold bindC
    exact bindC_get (i := i) (List.nodup_cons.mp nd).2 (by simpa using h1) (by simpa using h2) hk

/-- the names' values at the entry -/
def start (N : List Str) (vs : List V) : St := vs.map some ++ List.replicate (N.length - vs.length) none

/-- the context of a def's body, at its entry; an exception leaves the frame, then lies as CX says -/
def cxOf (CX : CXT) (P : Program) (w : World) (K : PySem.W.Frag) (mg : Str → Option Value) (base : Heap) (N : List Str) (qual : Str) (scope : Scope) (f : Addr) (cd : Value) (A : Around) (outer : List Env) (s : Shared) (H : Hp) (E : XK) : Cx where
  prog := P
  w := w
  K := K
  mg := mg
  base := base
  A := A.deeper (envOfC qual scope s.heap.objs.size f cd)
  N := N
  s₀ := s
  H₀ := H
  env := envOfC qual scope s.heap.objs.size f cd
  outer := outer
  stack := envOfC qual scope s.heap.objs.size f cd :: outer
  ex := []
  calm := true
  fn := fun _ => true
  pn := []
  xe := fun e s' => wpAny (model P w) (A.deeper (envOfC qual scope s.heap.objs.size f cd)) (leaving (envOfC qual scope s.heap.objs.size f cd) e) (fun _ s'' => CX outer H s E e s'') (fun e' s'' => CX outer H s E e' s'') s'

theorem cell_has {sc : Scope} {n : Nat} {x : Str} (h : sc.names.lookup x = some .cell) : ∃ c, (cellsFrom n sc.names []).lookup x = some c := by
  have q := PySem.W.cellsFrom_some sc.names n [] (.inl h)
  exact Option.isSome_iff_exists.mp q

theorem inv_start {CX : CXT} {P : Program} {w : World} {K : PySem.W.Frag} {mg : Str → Option Value} {base : Heap} {N ps : List Str} {qual : Str} {scope : Scope} {f : Addr} {cd : Value} {A : Around} {outer : List Env} {s s1 : Shared} {H : Hp} {E : XK} {us : List Value} {vs : List V}
    (S : FnScope N ps scope) (hd : A.handled = none) (e0 : Env0 P w K mg base A outer s H) (hl : vs.length = ps.length) (r : Vals vs us)
    (x : InCallC s s.heap.objs.size (bindL (envOfC qual scope s.heap.objs.size f cd).kindOf (ps.zip us) fun _ => none) (cellsFrom (s.heap.objs.size + 1) scope.names []) (bindC (envOfC qual scope s.heap.objs.size f cd).kindOf (ps.zip us) fun _ => none) s1) :
    Inv (cxOf CX P w K mg base N qual scope f cd A outer s H E) [] (start N vs) H s1 := by
  have hpl : ps.length ≤ N.length := by have := congrArg List.length S.pre; rw [List.length_take] at this; omega
  obtain ⟨h1, tk, rfl, hk⟩ := x.done
  have noA : ∀ b : Addr, b ∉ (cxOf CX P w K mg base N qual scope f cd A outer s H E).ex := fun b z => absurd (show b ∈ ([] : List Addr) from z) (by simp)
  refine ⟨⟨e0.mod, S.kind, rfl, rfl, Nat.le_refl _, fun y z c h1 h2 => ?_, fun y hy => ?_, fun y c _ h => ?_, fun _ => hd, Around.frames_deeper e0.frames, .inr ⟨rfl, rfl⟩, fun b z => absurd z (noA b), e0.bs, e0.bsz, fun b _ _ => noA b, fun b z => absurd z (noA b), e0.funs, e0.frf⟩,
    rfl, e0.bare, Un.kept hk, ⟨_, x.toInCall.ns, fun i y v h1 h2 h3 => ?_⟩, fun y c h => ⟨_, x.cell y c h⟩, e0.hok.fresh (Nat.le_refl _), fun y c h => ?_, fun p hp => absurd (show p ∈ ([] : List (Addr × Obj)) from hp) (by simp), e0.hok.kept hk, ?_⟩
  · exact name_of_addr x.apart (PySem.mem_of_lookup h1) (PySem.mem_of_lookup h2)
  · have hy : scope.names.lookup y = some .cell ∨ scope.names.lookup y = some .free := hy
    rcases hy with hy | hy
    · exact cell_has hy
    · exact absurd rfl (S.nofree _ (PySem.mem_of_lookup hy))
  · exact Nat.le_of_lt (x.above y c (PySem.mem_of_lookup h))
  · have hi : i < vs.length := by
      unfold start at h2
      by_cases hi : i < vs.length
      · exact hi
      · rw [List.getElem?_append_right (by simpa using hi)] at h2
        rw [List.getElem?_replicate] at h2
        split at h2 <;> cases h2
    have ha : vs[i]? = some v := by
      unfold start at h2
      rw [List.getElem?_append_left (by simpa using hi), List.getElem?_map] at h2
      cases e : vs[i]? with
      | none => rw [e] at h2; cases h2
      | some a => rw [e] at h2; cases h2; rfl
    obtain ⟨u, hu, rv⟩ := r.get ha
    have hp : ps[i]? = some y := by
      rw [← S.pre, List.getElem?_take_of_lt (by omega)]; exact h1
    have ndP : ps.Nodup := by rw [← S.pre]; exact S.nd.sublist (List.take_sublist _ _)
    refine ⟨u, rv, ?_⟩
    rcases S.par y (List.mem_of_getElem? hp) with k | k
    · exact .inl ⟨k, bindL_get ndP hp hu k⟩
    · obtain ⟨c, e⟩ := cell_has (n := s.heap.objs.size + 1) k
      refine .inr ⟨.inl k, c, e, ?_⟩
      have q := x.cell y c e
      rw [bindC_get ndP hp hu (by show scope.names.lookup y ≠ _; rw [k]; decide)] at q
      exact q
  · exact e0.hok.fresh (Nat.le_of_lt (x.above y c (PySem.mem_of_lookup h)))
  · unfold start
    show _ = N.length
    rw [List.length_append, List.length_map, List.length_replicate]
    omega

/-- THE RULE: a def (or a method) of the text, by its body. The body's reading t is chosen for each entry; it is run at the parameters' values -/
theorem fn_of {CX : CXT} {P : Program} {w : World} {K : PySem.W.Frag} {mg : Str → Option Value} {base : Heap} {k : Nat} {f : Addr} {name qual : Str} {params : Arguments} {body : List Stmt} {scope : Scope} {dV kV doc pm cdv ct oc : Value} {an od : Option Addr}
    {osl : Array (Option Value)} {N ps : List Str} {sp : Sp} (lk : K.lookup f = some ⟨oc, od, .func (PySem.W.fnOf name qual params body scope dV kV doc pm an cdv ct), osl⟩) (hcd : PySem.W.codeIn K cdv qual = true) (S : FnScope N ps scope)
    (len : ∀ vs H Q E, sp vs H Q E → vs.length = ps.length)
    (hbody : ∀ (A : Around) (outer : List Env) (s : Shared) (H : Hp) (vs : List V) (Q : VK) (E : XK), Room k (A.deeper (envOfC qual scope s.heap.objs.size f cdv)) → sp vs H Q E →
      ∃ t, PSs (cxOf CX P w K mg base N qual scope f cdv A outer s H E) body t ∧ t { nx := fun _ H' => Q .non H', rt := Q } (start N vs) H) :
    FnOk P w K mg base CX (k + 1) f (PySem.W.fnOf name qual params body scope dV kV doc pm an cdv ct) ps sp := by
  refine ⟨len, fun A outer s H args us vs Q E hr e0 hb r hsp => ?_⟩
  have hl := len _ _ _ _ hsp
  have KX : K.In s.heap := e0.mod.kin.keeps fun b o e => (e0.bs b o e).1
  have lim : s.heap.NoLimit := e0.mod.nolimit.keeps fun b o e => (e0.bs b o e).1
  have hkind : ∀ y ∈ ps.zip us, scope.names.lookup y.1 = some .local ∨ (scope.names.lookup y.1 = some .cell ∧ ((cellsFrom (s.heap.objs.size + 1) scope.names []).lookup y.1).isSome = true) := fun ⟨n, v⟩ hy => by
    rcases S.par n (List.of_mem_zip hy).1 with q | q
    · exact .inl q
    · exact .inr ⟨q, PySem.W.cellsFrom_some _ _ _ (.inl q)⟩
  refine codeAny_call_function hr.depth (KX _ _ lk) rfl S.co S.gen rfl (PySem.W.codeRec_of KX hcd) (hb _ _ _ _ ?_)
  refine wpAny_newFunctionEnv_cells S.kind hkind fun env he s1 x => ?_
  subst he
  refine ⟨lim.keeps x.toInCall.keep, codeAny_func ?_⟩
  obtain ⟨t, ht, hq⟩ := hbody A outer s H vs Q E (hr.deeper _) hsp
  have I : Inv (cxOf CX P w K mg base N qual scope f cdv A outer s H E) [] (start N vs) H s1 := inv_start S hr.hd e0 hl r x
  refine wpAny_mono (ht [] s1 (start N vs) H _ I hq) (fun fl s' hs => ?_) fun e s' hs => hs
  have fin : ∀ {σ' : St} {H' : Hp} {v : V} {u : Value}, Inv (cxOf CX P w K mg base N qual scope f cdv A outer s H E) [] σ' H' s' → RelV v u → Q v H' → CE outer P w H s Q u s' :=
    fun {σ' H' v u} J rv q => ⟨v, H', J.os, J.bare, J.base, J.hok, rv, q⟩
  cases fl with
  | ret u =>
    obtain ⟨v, σ', H', J, rv, q⟩ := hs
    exact fin J rv q
  | next =>
    obtain ⟨σ', H', J, q⟩ := hs
    exact fin (v := V.non) (u := Value.none) J rfl q
  | brk =>
    obtain ⟨_, _, _, q⟩ := hs
    exact False.elim q
  | cont =>
    obtain ⟨_, _, _, q⟩ := hs
    exact False.elim q
end L2

namespace L2
open PySem PySem.Spec PyProof.Rows
section
variable {X : Cx} {x : Str} {p pos : Pos} {e : Expr} {es : List Expr} {t : TA} {id T : String} {r : List V → Hp → VK → Prop}

def tCB (r : List V → Hp → VK → Prop) (t : TA) : TE := fun σ H Q => t σ H fun vs H1 => r vs H1 Q
/-- f(e, ..), f a built-in function -/
theorem pe_callB (hc : CallR X (.builtin id) r) (hg : Gl X x) (hm : X.mg x = none) (hv : bootBuiltins x = some (.builtin id)) (ha : PA X (e :: es) t) (hn : x ≠ "__name__" := by decide) (hdb : (x == ("__debug__" : Str)) = false := by decide)
    (he : starEach (e :: es) X.env = (false, eval e X.env) :: starEach es X.env := by rfl) (hpl : (backTo pos (starEach es X.env)).any (·.1) = false := by rfl) : PE X (.Call (.Name x p) (e :: es) [] pos) (tCB r t) := by
  intro pins s σ H Q I h
  refine wpAny_Call_Name_kw (ld_blt I hg hm hv ?_ hn hdb)
  exact PyProof.Rows.callWith_builtin1 (thn (ha pos pins s σ H _ I h) fun us s1 ⟨vs, H1, I1, r1, q1⟩ => hc pins s1 σ H1 vs us Q I1 r1 q1) he hpl
/-- T(e, ..), T a built-in type -/
theorem pe_callTy (hc : CallR X (.type T) r) (hg : Gl X x) (hm : X.mg x = none) (hv : bootBuiltins x = some (.type T)) (ha : PA X (e :: es) t) (hn : x ≠ "__name__" := by decide) (hdb : (x == ("__debug__" : Str)) = false := by decide)
    (he : starEach (e :: es) X.env = (false, eval e X.env) :: starEach es X.env := by rfl) (hpl : (backTo pos (starEach es X.env)).any (·.1) = false := by rfl) : PE X (.Call (.Name x p) (e :: es) [] pos) (tCB r t) := by
  intro pins s σ H Q I h
  refine wpAny_Call_Name_kw (ld_blt I hg hm hv ?_ hn hdb)
  exact PyProof.Rows.callWith_type1 (thn (ha pos pins s σ H _ I h) fun us s1 ⟨vs, H1, I1, r1, q1⟩ => hc pins s1 σ H1 vs us Q I1 r1 q1) he hpl
end
end L2

namespace HT
open PySem PyProof.Rows

section
open PySem.SeqAt
open PySem.AutoSeq1 (wpAny_loadPart')
open PySem.MeetsSeq PySem.MeetsSeq2 PySem.MeetsSeq3

end

section
variable {prog : Program} {w : World} {A : Around} {E : Value → Shared → Prop} {s : Shared}

/-- a slice's bound as a place among n (d where it is left out) -/
def sIx (n d : Nat) : Option Int → Nat
  | none => d
  | some v => if v < 0 then (v + (n : Int)).toNat else min v.toNat n
theorem sIx_none (n d : Nat) : sIx n d none = d := rfl
theorem sIx_nat (n d k : Nat) : sIx n d (some (k : Int)) = min k n := by
  show (if (k : Int) < 0 then ((k : Int) + (n : Int)).toNat else min (k : Int).toNat n) = min k n
  rw [if_neg (by omega), Int.toNat_natCast]
end
end HT

namespace L2
open PySem PySem.Spec PyProof.Rows

abbrev TO := St → Hp → (Option Int → Hp → Prop) → Prop
/-- a slice's part (left out, or an int) -/
def PO (X : Cx) (e : Option Expr) (t : TO) : Prop :=
  ∀ (pins : List (Addr × Obj)) (s : Shared) (σ : St) (H : Hp) (Q : Option Int → Hp → Prop), Inv X pins σ H s → t σ H Q →
    wpAny (model X.prog X.w) X.A (evalPart e X.env) (fun u s' => ∃ o H', Inv X pins σ H' s' ∧ IsPart u o ∧ Q o H') X.xe s
def tNoPart : TO := fun _ H Q => Q none H
def tPart (t : TE) : TO := fun σ H Q => t σ H fun x H1 => ∃ i, x = .int i ∧ Q (some i) H1

theorem intsAre_of {ns : List Int} : ∀ {us : List Value}, Vals (ns.map V.int) us → IntsAre us ns := by
  induction ns with
  | nil => intro us r; rw [List.map_nil] at r; cases r; exact .nil
  | cons n ns ih =>
    intro us r
    rw [List.map_cons] at r
    cases r with
    | cons r1 r2 =>
      obtain ⟨t, e⟩ := r1
      subst e
      exact .cons n t (ih r2)

section
variable {X : Cx} {e : Expr} {te : TE} {lo hi : Option Expr} {tl th : TO} {pos p2 : Pos}

theorem po_none : PO X none tNoPart := by
  intro pins s σ H Q I h
  rw [evalPart_none]
  exact wpAny_pure ⟨none, H, I, .none, h⟩
theorem po_some (h : PE X e te) : PO X (some e) (tPart te) := by
  intro pins s σ H Q I hw
  rw [evalPart_some]
  refine thn (h pins s σ H _ I hw) fun u s1 ⟨x, H1, I1, r1, q1⟩ => ?_
  obtain ⟨i, rfl, q⟩ := q1
  obtain ⟨t, rfl⟩ := r1
  exact ⟨some i, H1, I1, .int i t, q⟩

/-- what a slice of a value is, by values: the slice object stands at sl -/
def SlR (X : Cx) (r : V → Option Int → Option Int → Hp → VK → Prop) : Prop :=
  ∀ (pins : List (Addr × Obj)) (s : Shared) (σ : St) (H : Hp) (x : V) (v vl vu : Value) (lo hi : Option Int) (sl : Addr) (Q : VK), Inv X pins σ H s → RelV x v → s.heap.IsSliceOf sl vl vu .none → IsPart vl lo → IsPart vu hi → r x lo hi H Q →
    ∃ T id, typeLookup (.type T) "__getitem__" = pure (some (.builtin id)) ∧ s.TypeIs v T ∧ wpAny (model X.prog X.w) X.A (getItem v (.ref sl)) (EP X pins σ Q) X.xe s
def tSl (r : V → Option Int → Option Int → Hp → VK → Prop) (te : TE) (tl th : TO) : TE := fun σ H Q => te σ H fun x H1 => tl σ H1 fun l H2 => th σ H2 fun u H3 => r x l u H3 Q
/-- a[lo:hi], any a -/
theorem pe_slice {r : V → Option Int → Option Int → Hp → VK → Prop} (hr : SlR X r) (he : PE X e te) (hl : PO X lo tl) (hu : PO X hi th) : PE X (.Subscript e (.Slice lo hi none p2) pos) (tSl r te tl th) := by
  intro pins s σ H Q I h
  refine Subscript_ (thn (he pins s σ H _ I h) fun v s1 ⟨x, H1, I1, r1, q1⟩ => ?_)
  refine wpAny_Slice (thn (hl pins s1 σ H1 _ I1 q1) fun vl s2 ⟨l, H2, I2, pl, q2⟩ => thn (hu pins s2 σ H2 _ I2 q2) fun vu s3 ⟨u, H3, I3, pu, q3⟩ => ?_)
  rw [evalPart_none]
  refine wpAny_pure ?_
  have I4 : Inv X pins σ H3 { s3 with heap := s3.heap.push { cls := .type "slice", data := .fields #[vl, vu, .none] } } := I3.kept (t' := s3.toks) fun b ob q => Heap.get?_push_of_some _ q
  obtain ⟨T, id, hT, ht, hg⟩ := hr pins { s3 with heap := s3.heap.push { cls := .type "slice", data := .fields #[vl, vu, .none] } } σ H3 x v vl vu l u s3.heap.objs.size Q I4 r1 (Heap.IsSliceOf.new ..) pl pu q3
  show wpAny (model X.prog X.w) X.A (subscriptTail e (.Slice lo hi none p2) v (.ref s3.heap.objs.size)) (EP X pins σ Q) X.xe { s3 with heap := s3.heap.push { cls := .type "slice", data := .fields #[vl, vu, .none] } }
  exact tail_any (ops := [.ref s3.heap.objs.size, v]) ht hT hg (by with_unfolding_all rfl)

/-- the items of xs[lo:hi] -/
def cutV (xs : List V) (lo hi : Option Int) : List V := (xs.drop (HT.sIx xs.length 0 lo)).take (HT.sIx xs.length xs.length hi - HT.sIx xs.length 0 lo)
theorem cutV_length (xs : List V) (lo hi : Option Int) : (cutV xs lo hi).length ≤ xs.length := by
  unfold cutV
  rw [List.length_take, List.length_drop]
  omega
end
end L2

namespace L2
open PySem PySem.Spec PyProof.Rows

/-- the place that an index of any sign means -/
def ixN (n : Nat) (i : Int) : Option Nat := if 0 ≤ i then (if i < n then some i.toNat else none) else if -(n : Int) ≤ i then some (i + n).toNat else none
def atI {α : Type} (xs : List α) (i : Int) : Option α := (ixN xs.length i).bind fun j => xs[j]?
theorem ixN_seq {n : Nat} {i : Int} {j : Nat} (h : ixN n i = some j) : seqIndex? i n = some j ∧ j < n ∧ -(n : Int) ≤ i ∧ i < n := by
  unfold ixN at h
  by_cases h0 : 0 ≤ i
  · rw [if_pos h0] at h
    by_cases h1 : i < n
    · rw [if_pos h1] at h
      have e : i.toNat = j := Option.some.inj h
      exact ⟨by rw [seqIndex_of h0 h1, e], by omega, by omega, h1⟩
    · rw [if_neg h1] at h; cases h
  · rw [if_neg h0] at h
    by_cases h1 : -(n : Int) ≤ i
    · rw [if_pos h1] at h
      have e : (i + n).toNat = j := Option.some.inj h
      exact ⟨by rw [seqIndex_neg (by omega) h1, e], by omega, h1, by omega⟩
    · rw [if_neg h1] at h; cases h
theorem atI_get {α : Type} {xs : List α} {i : Int} {v : α} (h : atI xs i = some v) : ∃ j, seqIndex? i xs.length = some j ∧ xs[j]? = some v ∧ j < xs.length ∧ -(xs.length : Int) ≤ i ∧ i < xs.length := by
  unfold atI at h
  cases e : ixN xs.length i with
  | none => rw [e] at h; cases h
  | some j =>
    rw [e] at h
    obtain ⟨h1, h2, h3, h4⟩ := ixN_seq e
    exact ⟨j, h1, h, h2, h3, h4⟩
theorem atI_nat {α : Type} {xs : List α} {j : Nat} {v : α} (h : xs[j]? = some v) : atI xs (j : Int) = some v := by
  have hj : j < xs.length := (List.getElem?_eq_some_iff.mp h).1
  have e : ixN xs.length (j : Int) = some j := by
    unfold ixN
    rw [if_pos (by omega), if_pos (by omega)]; simp
  unfold atI; rw [e]; exact h
theorem atI_last {α : Type} (xs : List α) (v : α) : atI (xs ++ [v]) (-1) = some v := by
  have hl : (xs ++ [v]).length = xs.length + 1 := by simp
  have e : ixN (xs ++ [v]).length (-1) = some xs.length := by
    unfold ixN
    rw [hl, if_neg (by decide), if_pos (by omega)]
    congr 1
    omega
  unfold atI
  rw [e]
  show (xs ++ [v])[xs.length]? = some v
  simp

/-- what stands as an index of a plain subscript -/
def PlainIx (b : Expr) : Prop := ∀ o i, subscripted b false o i = operate [o, i] (getItem o i)
/-- a subscript by values -/
def IxR (X : Cx) (r : R2) : Prop :=
  ∀ (value slice : Expr) (pins : List (Addr × Obj)) (s : Shared) (σ : St) (H : Hp) (x y : V) (v u : Value) (Q : VK), Inv X pins σ H s → RelV x v → RelV y u → r x y H Q →
    subscripted slice false v u = operate [v, u] (getItem v u) → wpAny (model X.prog X.w) X.A (subscriptTail value slice v u) (EP X pins σ Q) X.xe s
/-- a call of a builtin's method by values: the receiver, the arguments -/
def MtR (X : Cx) (id : String) (r : V → List V → Hp → VK → Prop) : Prop :=
  ∀ (pins : List (Addr × Obj)) (s : Shared) (σ : St) (H : Hp) (x : V) (xs : List V) (v : Value) (us : List Value) (Q : VK), Inv X pins σ H s → RelV x v → Vals xs us → r x xs H Q →
    wpAny (model X.prog X.w) X.A (call (.builtin id) (v :: us)) (EP X pins σ Q) X.xe s
section
variable {X : Cx} {a b : Expr} {ta tb : TE} {pos : Pos}
/-- a[b] -/
theorem pe_ix {r : R2} (hr : IxR X r) (ha : PE X a ta) (hb : PE X b tb) (hs : PlainIx b) : PE X (.Subscript a b pos) (tOp r ta tb) := by
  intro pins s σ H Q I h
  exact Subscript_ (binT ha hb I h fun v u s2 x y H2 I2 rx ry q => hr a b pins s2 σ H2 x y v u Q I2 rx ry q (hs _ _))

def rIxL (K : PySem.W.Frag) : R2 := fun x y H Q => ∃ p xs i v, x = .ref p ∧ y = .int i ∧ SqL K H p xs ∧ atI xs i = some v ∧ Q v H
def rIxT (K : PySem.W.Frag) : R2 := fun x y H Q => ∃ p xs i v, x = .ref p ∧ y = .int i ∧ SqT K H p xs ∧ atI xs i = some v ∧ Q v H
theorem ix_list : IxR X (rIxL X.K) := by
  intro value slice pins s σ H x y v u Q I rx ry h hs
  obtain ⟨p, xs, i, z, rfl, rfl, hq, he, q⟩ := h
  cases rx
  obtain ⟨t, rfl⟩ := ry
  obtain ⟨its, r, pl, hz⟩ := I.list hq
  obtain ⟨j, h1, h2, h3, h4, h5⟩ := atI_get he
  obtain ⟨w, ew, rw'⟩ := r.get h2
  have hl := r.length
  have hn := line63
  have fin : EP X pins σ Q w s := ⟨z, H, I, rw', q⟩
  by_cases h0 : 0 ≤ i
  · have hj : i.toNat = j := by
      rw [seqIndex_of h0 h5] at h1
      exact Option.some.inj h1
    exact item_listR pl.isList h0 (by omega) (by rw [hj]; simpa using ew) fin hs
  · have hj : (i + (its.toArray.size : Int)).toNat = j := by
      rw [seqIndex_neg (by omega) h4] at h1
      rw [List.size_toArray, ← hl]
      exact Option.some.inj h1
    exact subscriptTail_builtinR (x := w) pl.isList.typeIs slot_list_getitem.lookup
      (wpAny_getItem_list_neg (Q := fun r s' => r = w ∧ EP X pins σ Q r s') pl.isList (by omega) (by rw [List.size_toArray] <;> omega) (by omega) (by rw [hj]; simpa using ew) ⟨rfl, fin⟩) hs
theorem ix_tup : IxR X (rIxT X.K) := by
  intro value slice pins s σ H x y v u Q I rx ry h hs
  obtain ⟨p, xs, i, z, rfl, rfl, hq, he, q⟩ := h
  cases rx
  obtain ⟨t, rfl⟩ := ry
  obtain ⟨its, r, pl, hz⟩ := I.tuple hq
  obtain ⟨j, h1, h2, h3, h4, h5⟩ := atI_get he
  obtain ⟨w, ew, rw'⟩ := r.get h2
  have hl := r.length
  have hn := line63
  have fin : EP X pins σ Q w s := ⟨z, H, I, rw', q⟩
  exact subscriptTail_builtinR (x := w) pl.typeIs slot_tuple_getitem.lookup
    (getItem_tuple (j := j) (Q := fun r s' => r = w ∧ EP X pins σ Q r s') pl (by omega) (by omega) (by rw [List.size_toArray, ← hl]; exact h1) (by simpa using ew) ⟨rfl, fin⟩) hs
/-- the list's object behind a store -/
theorem mapSeq_set (its : List Value) (n j : Nat) (u : Value) : Obj.mapSeq (·.setIfInBounds j u) { cls := .type "list", data := .seq its.toArray n } = { cls := .type "list", data := .seq (its.set j u).toArray n } := by
  simp [Obj.mapSeq]
theorem Inv.lst {pins : List (Addr × Obj)} {σ : St} {H : Hp} {s : Shared} {p : Addr} {xs : List V} (I : Inv X pins σ H s) (h : H p = some (.lst xs)) :
    ∃ (its : List Value) (n : Nat), Vals xs its ∧ s.heap.get? p = some { cls := .type "list", data := .seq its.toArray n } ∧ xs.length ≤ sizeLine := by
  obtain ⟨z, its, n, r, e⟩ := I.hok p _ h
  exact ⟨its, n, r, e, z⟩
/-- the list at p is written by an update of its object -/
theorem Inv.lstUpd {pins : List (Addr × Obj)} {σ : St} {H : Hp} {s : Shared} {p : Addr} {xs ys : List V} {its its' : List Value} {n n' : Nat} {f : Obj → Obj} (I : Inv X pins σ H s) (h : H p = some (.lst xs))
    (ho : s.heap.get? p = some { cls := .type "list", data := .seq its.toArray n }) (hf : f { cls := .type "list", data := .seq its.toArray n } = { cls := .type "list", data := .seq its'.toArray n' }) (r : Vals ys its') (hz : ys.length ≤ sizeLine) (t : Nat) :
    Inv X pins σ (upd H p (.lst ys)) { s with heap := s.heap.update p f, toks := t } := by
  have e : (s.heap.update p f).get? p = some { cls := .type "list", data := .seq its'.toArray n' } := by
    rw [Heap.get?_update_self f ho (by rw [hf] <;> rfl), hf]
  refine I.write (x := p) (e := p) (by rw [h]; trivial) (.inl rfl) (fun b u hb q => (Heap.get?_update_other _ _ (Ne.symm hb)).trans q) ⟨_, e⟩ ?_
  exact ⟨hz, its', n', r, e⟩
def rSetL : V → V → V → Hp → (Hp → Prop) → Prop := fun o i v H Q => ∃ p xs k j, o = .ref p ∧ i = .int k ∧ H p = some (.lst xs) ∧ ixN xs.length k = some j ∧ Q (upd H p (.lst (xs.set j v)))
theorem set_list : PSet X rSetL := by
  intro pins s σ H o i v ov iv u Q I ro ri rv h
  obtain ⟨p, xs, k, j, rfl, rfl, hp, hj, q⟩ := h
  cases ro
  obtain ⟨t, rfl⟩ := ri
  obtain ⟨its, n, r, ho, hz⟩ := I.lst hp
  obtain ⟨h1, h2, h3, h4⟩ := ixN_seq hj
  have hl := r.length
  have hn := line63
  have I' : Inv X pins σ (upd H p (.lst (xs.set j v))) { s with heap := s.heap.update p (Obj.mapSeq (·.setIfInBounds j u)) } :=
    I.lstUpd hp ho (mapSeq_set its n j u) (r.set rv j) (by rw [List.length_set]; exact hz) s.toks
  by_cases h0 : 0 ≤ k
  · have hk : k.toNat = j := by
      rw [seqIndex_of h0 h4] at h1
      exact Option.some.inj h1
    exact PySem.W.ki_setAt ho h0 (by omega) (by rw [List.size_toArray, ← hl]; exact h4) (by rw [hk]; exact ⟨_, I', q⟩)
  · have hk : (k + (its.toArray.size : Int)).toNat = j := by
      rw [seqIndex_neg (by omega) h3] at h1
      rw [List.size_toArray, ← hl]
      exact Option.some.inj h1
    exact PySem.W.ki_setBack ho (by omega) (by rw [List.size_toArray, ← hl]; exact h3) (by omega) (by rw [hk]; exact ⟨_, I', q⟩)

theorem slice_bounds (lo hi : Option Int) (n : Nat) : (sliceBounds lo hi none n).1 = ((HT.sIx n 0 lo : Nat) : Int) ∧ (sliceBounds lo hi none n).2.1 = ((HT.sIx n n hi : Nat) : Int) ∧ (sliceBounds lo hi none n).2.2 = 1 := by
  refine ⟨?_, ?_, rfl⟩
  · cases lo with
    | none => simp [sliceBounds, HT.sIx]
    | some i =>
      simp only [sliceBounds, HT.sIx, Option.getD_none, show (1 : Int) > 0 by decide, if_true]
      by_cases h : i < 0
      · simp only [h, if_true] <;> omega
      · simp only [h, if_false] <;> omega
  · cases hi with
    | none => simp [sliceBounds, HT.sIx]
    | some i =>
      simp only [sliceBounds, HT.sIx, Option.getD_none, show (1 : Int) > 0 by decide, if_true]
      by_cases h : i < 0
      · simp only [h, if_true] <;> omega
      · simp only [h, if_false] <;> omega
theorem slicePick_cut (its : List Value) (lo hi : Option Int) : slicePick its.toArray lo hi none = ((its.drop (HT.sIx its.length 0 lo)).take (HT.sIx its.length its.length hi - HT.sIx its.length 0 lo)).toArray := by
  obtain ⟨h1, h2, h3⟩ := slice_bounds lo hi its.toArray.size
  unfold slicePick
  rw [h1, h2, h3]
  simp only [sliceRange_one, pick_run, List.size_toArray] <;> rfl
/-- xs[lo:hi] of a list: a new list -/
def rSlL (K : PySem.W.Frag) : V → Option Int → Option Int → Hp → VK → Prop := fun x lo hi H Q => ∃ a xs, x = .ref a ∧ SqL K H a xs ∧ ∀ p, H p = none → Q (.ref p) (upd H p (.lst (cutV xs lo hi)))
theorem sl_list : SlR X (rSlL X.K) := by
  intro pins s σ H x v vl vu lo hi sl Q I rx hs pl pu h
  obtain ⟨a, xs, rfl, hx, q⟩ := h
  cases rx
  obtain ⟨its, r, ht, hz⟩ := I.list hx
  have hlen := r.length
  refine ⟨"list", _, slot_list_getitem.lookup, ht.isList.typeIs, ?_⟩
  refine wpAny_getItem_list_slice ht.isList hs pl pu .none (by simp) ?_ (by rw [List.size_toArray] <;> omega)
  rw [slicePick_cut, ← hlen]
  refine ⟨.ref s.heap.objs.size, _, I.laid (t' := s.toks) (o := .lst (cutV xs lo hi)) (fun b ob q => Heap.get?_push_of_some _ q) (Nat.le_refl _) ?_, rfl, q _ (I.hok.fresh (Nat.le_refl _))⟩
  exact ⟨Nat.le_trans (cutV_length xs lo hi) hz, _, 0, (r.drop (HT.sIx xs.length 0 lo)).take (HT.sIx xs.length xs.length hi - HT.sIx xs.length 0 lo), Heap.get?_push_size _ rfl⟩

def flatV : V → Bool
  | .non => true
  | .bl _ => true
  | .int _ => true
  | .str _ => true
  | _ => false
/-- == of flat values -/
def eqV : V → V → Bool
  | .non, .non => true
  | .bl a, .bl b => a == b
  | .bl a, .int b => (if a then 1 else 0) == b
  | .int a, .bl b => a == (if b then 1 else 0)
  | .int a, .int b => a == b
  | .str a, .str b => a == b
  | _, _ => false
def inV (x : V) (xs : List V) : Bool := xs.any fun y => eqV y x
/-- x in a list or tuple of flat items -/
def rIn (K : PySem.W.Frag) (neg : Bool) : R2 := fun x y H Q => ∃ p xs, y = .ref p ∧ (SqL K H p xs ∨ SqT K H p xs) ∧ flatV x = true ∧ xs.all flatV = true ∧ Q (.bl (if neg then !inV x xs else inV x xs)) H
theorem call_len_seq : CallR X (.builtin "len") (fun xs H Q => ∃ p ys, xs = [.ref p] ∧ (SqL X.K H p ys ∨ SqT X.K H p ys) ∧ Q (.int ys.length) H) := by
  intro pins s σ H xs us Q I r h
  obtain ⟨p, ys, rfl, hq, q⟩ := h
  obtain ⟨u, rfl, rx⟩ := vals1 r
  cases rx
  have hn := line63
  rcases hq with hq | hq
  · obtain ⟨its, r', pl, hz⟩ := I.list hq
    have hlen := r'.length
    exact Calls.call_len_list pl.isList (by simp only [List.size_toArray] <;> omega) ⟨.int ys.length, H, I.tok _, ⟨s.toks + 1, by rw [List.size_toArray, hlen]⟩, q⟩
  · obtain ⟨its, r', pl, hz⟩ := I.tuple hq
    have hlen := r'.length
    exact len_tuple pl (by simp only [List.size_toArray] <;> omega) ⟨.int ys.length, H, I.tok _, ⟨s.toks + 1, by rw [List.size_toArray, hlen]⟩, q⟩
theorem call_list_of : CallR X (.type "list") (fun xs H Q => ∃ p ys, xs = [.ref p] ∧ (SqL X.K H p ys ∨ SqT X.K H p ys) ∧ ∀ l, H l = none → Q (.ref l) (upd H l (.lst ys))) := by
  intro pins s σ H xs us Q I r h
  obtain ⟨p, ys, rfl, hq, q⟩ := h
  obtain ⟨u, rfl, rx⟩ := vals1 r
  cases rx
  have fin : ∀ (its : List Value), Vals ys its → ys.length ≤ sizeLine → ∀ (h' : Heap) (c' : Nat), (∀ b o', s.heap.get? b = some o' → h'.get? b = some o') →
      h'.get? s.heap.objs.size = some { cls := .type "list", dict := none, data := .seq its.toArray c', slots := #[] } → EP X pins σ Q (.ref s.heap.objs.size) { s with heap := h' } := fun its r' hz h' c' kp e =>
    ⟨.ref s.heap.objs.size, _, I.laid (t' := s.toks) kp (Nat.le_refl _) (show ObjOk X.prog X.w _ h' _ (.lst ys) from ⟨hz, its, c', r', e⟩), rfl, q _ (I.hok.fresh (Nat.le_refl _))⟩
  rcases hq with hq | hq
  · obtain ⟨its, r', pl, hz⟩ := I.list hq
    have hlen := r'.length
    obtain ⟨o, ho, hc, n, hd⟩ := pl.isList
    exact call_list_seq p (.inl rfl) ho hc hd (fun h' c' kp e => fin its r' hz h' c' kp e) (by simp only [List.size_toArray] <;> omega)
  · obtain ⟨its, r', pl, hz⟩ := I.tuple hq
    have hlen := r'.length
    obtain ⟨o, ho, hc, n, hd⟩ := pl
    exact call_list_seq p (.inr rfl) ho hc hd (fun h' c' kp e => fin its r' hz h' c' kp e) (by simp only [List.size_toArray] <;> omega)
theorem call_tuple_of : CallR X (.type "tuple") (fun xs H Q => ∃ p ys, xs = [.ref p] ∧ ((SqL X.K H p ys ∧ ∀ l, H l = none → Q (.ref l) (upd H l (.tup ys))) ∨ (SqT X.K H p ys ∧ Q (.ref p) H))) := by
  intro pins s σ H xs us Q I r h
  obtain ⟨p, ys, rfl, h⟩ := h
  obtain ⟨u, rfl, rx⟩ := vals1 r
  cases rx
  rcases h with ⟨hq, q⟩ | ⟨hq, q⟩
  · obtain ⟨its, r', pl, hz⟩ := I.list hq
    have hlen := r'.length
    refine call_tuple_list pl.isList (fun h' kp => ?_) (by simp only [List.size_toArray] <;> omega)
    have I1 : Inv X pins σ H { s with heap := h' } := I.kept (t' := s.toks) kp
    have I2 : Inv X pins σ (upd H h'.objs.size (.tup ys)) { s with heap := h'.push { cls := .type "tuple", data := .seq its.toArray } } :=
      I1.laid (t' := s.toks) (fun b o e => Heap.get?_push_of_some _ e) (Nat.le_refl _) (show ObjOk X.prog X.w _ _ _ (.tup ys) from ⟨hz, its, r', IsTup.new _ _⟩)
    exact ⟨.ref h'.objs.size, _, I2, rfl, q _ (I1.hok.fresh (Nat.le_refl _))⟩
  · obtain ⟨its, r', pl, hz⟩ := I.tuple hq
    exact call_tuple_same pl ⟨.ref p, H, I, rfl, q⟩

/-- the value is of that builtin type -/
def tyV (K : PySem.W.Frag) (T : String) (x : V) (H : Hp) : Prop := match x with
  | .str _ => T = "str"
  | .int _ => T = "int"
  | .ref p => (T = "list" ∧ ∃ xs, SqL K H p xs) ∨ (T = "tuple" ∧ ∃ o, K.lookup p = some o ∧ o.cls = .type "tuple" ∧ o.dict = none) ∨
      (T = "dict" ∧ ((∃ kvs, H p = some (.dK kvs)) ∨ ∃ kvs, H p = some (.dT kvs))) ∨ (T = "set" ∧ ∃ S n, H p = some (.set S n))
  | _ => False
theorem tyV_is {pins : List (Addr × Obj)} {σ : St} {H : Hp} {s : Shared} {T : String} {x : V} {v : Value} (I : Inv X pins σ H s) (r : RelV x v) (ty : tyV X.K T x H) :
    s.TypeIs v T ∧ ∀ a, v = .ref a → ∃ ob, s.heap.get? a = some ob ∧ ob.dict = none := by
  cases x with
  | str z =>
    obtain ⟨t, rfl⟩ := r
    cases (show T = "str" from ty)
    exact ⟨typeIs_str s z t, fun _ e => nomatch e⟩
  | int i =>
    obtain ⟨t, rfl⟩ := r
    cases (show T = "int" from ty)
    exact ⟨typeIs_int s i t, fun _ e => nomatch e⟩
  | ref p =>
    cases r
    rcases ty with ⟨rfl, xs, hq⟩ | ⟨rfl, o, hk, hc, hd⟩ | ⟨rfl, hk⟩ | ⟨rfl, S, n, hk⟩
    · obtain ⟨its, _, pl, _⟩ := I.list hq
      refine ⟨pl.isList.typeIs, fun a e => ?_⟩
      cases e
      obtain ⟨o, n, e, c, hd, _⟩ := pl
      exact ⟨o, e, hd⟩
    · refine ⟨⟨o, I.kIn p o hk, hc⟩, fun a e => ?_⟩
      cases e
      exact ⟨o, I.kIn _ o hk, hd⟩
    · have z : ∃ o, s.heap.get? p = some o ∧ o.ExactDict := by
        rcases hk with ⟨kvs, hk⟩ | ⟨kvs, hk⟩
        · obtain ⟨_, _, _, _, o, _, _, e, ex, _⟩ := I.hok p _ hk
          exact ⟨o, e, ex⟩
        · obtain ⟨_, _, _, _, o, _, _, e, ex, _⟩ := I.hok p _ hk
          exact ⟨o, e, ex⟩
      obtain ⟨o, e, ex⟩ := z
      refine ⟨⟨o, e, ex.1⟩, fun a e2 => ?_⟩
      cases e2
      exact ⟨o, e, ex.2.1⟩
    · obtain ⟨o, _, _, _, e, ex, _⟩ := I.hok p _ hk
      refine ⟨⟨o, e, ex.1⟩, fun a e2 => ?_⟩
      cases e2
      exact ⟨o, e, ex.2.1⟩
  | _ => exact False.elim ty
def tBM (K : PySem.W.Frag) (T : String) (r : V → List V → Hp → VK → Prop) (to : TE) (t : TA) : TE := fun σ H Q => to σ H fun x H1 => tyV K T x H1 ∧ t σ H1 fun xs H2 => r x xs H2 Q
variable {o e : Expr} {es : List Expr} {to : TE} {t : TA} {name : Str} {apos cpos : Pos} {T id : String} {r : V → List V → Hp → VK → Prop}
theorem pe_bm (pa : PlainAttrs T) (slot : Slot T name id) (hty : typeOf (.builtin id) = pure (.type "method_descriptor")) (hm : MtR X id r) (ho : PE X o to) (ha : PA X (e :: es) t)
    (hbase : attributeBase o name X.env (eval o X.env) = eval o X.env := by rfl)
    (hfew : ((backTo cpos (starEach (e :: es) X.env)).all (fun x => !x.1) && (backToKw cpos (keywordEach [] X.env)).all (fun x => x.1.isSome)
      && decide ((e :: es).length + ([] : List Keyword).length + (if ([] : List Keyword).isEmpty then 0 else 1) < 30)) = true := by rfl)
    (hline : (apos.endLine == cpos.line) = true := by rfl) (hs : starEach (e :: es) X.env = (false, eval e X.env) :: starEach es X.env := by rfl) (hplain : (backTo cpos (starEach es X.env)).any (·.1) = false := by rfl) :
    PE X (.Call (.Attribute o name apos) (e :: es) [] cpos) (tBM X.K T r to t) := by
  intro pins s σ H Q I h
  refine wpAny_Call_method_late hbase hfew hline rfl (thn (ho pins s σ H _ I h) fun v s1 ⟨x, H1, I1, r1, ty, q1⟩ => ?_)
  obtain ⟨h1, h2⟩ := tyV_is I1 r1 ty
  refine ⟨T, id, pa, slot, hty, h1, h2, ?_⟩
  have hA := ha cpos pins s1 σ H1 _ I1 q1
  rw [hs] at hA ⊢
  refine Calls.callWith_builtin (by show (false || (backTo cpos (starEach es X.env)).any (·.1)) = false; rw [hplain] <;> rfl) (Calls.evalArgs_plain ?_)
  exact thn hA fun us s2 ⟨vs, H2, I2, r2, q2⟩ => hm pins s2 σ H2 x vs v us Q I2 r1 r2 q2
end
end L2

namespace L2
open PySem PySem.Spec PyProof.Rows

def MtM (X : Cx) (id : String) (r : V → List V → Hp → VK → Prop) : Prop :=
  ∀ (pins : List (Addr × Obj)) (s : Shared) (σ : St) (H : Hp) (x : V) (xs : List V) (v : Value) (us : List Value) (Q : VK), Inv X pins σ H s → RelV x v → Vals xs us → r x xs H Q →
    wpAny (model X.prog X.w) X.A (call (.builtin id) (v :: us)) (EP X pins σ Q) X.xe s

theorem Vals.one : ∀ {x : V} {us : List Value}, Vals [x] us → ∃ u, us = [u] ∧ RelV x u
  | _, _, .cons r .nil => ⟨_, rfl, r⟩
theorem Vals.reverse {xs : List V} {us : List Value} (h : Vals xs us) : Vals xs.reverse us.reverse := by
  induction h with
  | nil => exact .nil
  | cons r t ih => rw [List.reverse_cons, List.reverse_cons]; exact Vals.append ih (.cons r .nil)
section
variable {X : Cx} {pins : List (Addr × Obj)} {σ : St} {H : Hp} {s : Shared} {l b : Addr} {xs ys zs : List V}

theorem Inv.lset {its its' : List Value} {n : Nat} {f : Array Value → Array Value} {t' : Nat} (I : Inv X pins σ H s) (hH : H l = some (.lst xs))
    (e : s.heap.get? l = some { cls := .type "list", data := .seq its.toArray n }) (hf : f its.toArray = its'.toArray) (hv : Vals ys its') (hz : ys.length ≤ sizeLine) :
    Inv X pins σ (upd H l (.lst ys)) { s with heap := s.heap.update l (Obj.mapSeq f), toks := t' } := by
  have q := PySem.IsL.update e f
  rw [hf] at q
  refine I.write (x := l) (e := l) (by rw [hH]; exact trivial) (.inl rfl) (fun b' u hb hu => (Heap.get?_update_other s.heap (Obj.mapSeq f) (Ne.symm hb)).trans hu) ⟨_, q⟩ ?_
  exact ⟨hz, its', _, hv, q⟩
theorem Inv.lnew {its : List Value} {t' : Nat} (I : Inv X pins σ H s) (hv : Vals ys its) (hz : ys.length ≤ sizeLine) :
    Inv X pins σ (upd H s.heap.objs.size (.lst ys)) { s with heap := s.heap.push { cls := .type "list", data := .seq its.toArray }, toks := t' } :=
  I.laid (fun _ _ q => Heap.get?_push_of_some _ q) (Nat.le_refl _) ⟨hz, its, 0, hv, Heap.get?_push_size _ rfl⟩
theorem Inv.fresh (I : Inv X pins σ H s) : H s.heap.objs.size = none := I.hok.fresh (Nat.le_refl _)
theorem Inv.lstM (I : Inv X pins σ H s) (hH : H l = some (.lst xs)) : xs.length ≤ sizeLine ∧ ∃ (its : List Value) (n : Nat), Vals xs its ∧ xs.length = its.length ∧ s.heap.get? l = some { cls := .type "list", data := .seq its.toArray n } := by
  obtain ⟨z, its, n, r, e⟩ := I.hok l _ hH
  exact ⟨z, its, n, r, r.length, e⟩

theorem notLongL {n : Nat} (h : n ≤ sizeLine) : Builtin.List.listTooLong n = false := by
  unfold Builtin.List.listTooLong
  exact decide_eq_false (by omega)
end

section
variable {X : Cx}

def rAppend : V → List V → Hp → VK → Prop := fun x vs H Q => ∃ l xs y, x = .ref l ∧ vs = [y] ∧ H l = some (.lst xs) ∧ xs.length < sizeLine ∧ Q .non (upd H l (.lst (xs ++ [y])))
theorem mt_append : MtM X "list.append" rAppend := by
  intro pins s σ H x vs v us Q I rx rv h
  obtain ⟨l, xs, y, rfl, rfl, hH, hz, q⟩ := h
  cases rx
  obtain ⟨u, rfl, ru⟩ := rv.one
  obtain ⟨z, its, n, r, hl, e⟩ := I.lstM hH
  refine call_meets F.slot_list_append ⟨_, e, rfl⟩ F.entry_list_append (F.args_list_append_2 _ _) (PySem.list_append l its.toArray n u (by rw [List.size_toArray]; omega)) ⟨e, ?_⟩
  refine ⟨.non, _, I.lset (its' := its ++ [u]) hH e (by simp) (r.append (.cons ru .nil)) ?_, rfl, q⟩
  rw [List.length_append, List.length_singleton]
  omega

def rExtend : V → List V → Hp → VK → Prop := fun x vs H Q => ∃ l b xs zs, x = .ref l ∧ vs = [.ref b] ∧ H l = some (.lst xs) ∧ H b = some (.lst zs) ∧ xs.length + zs.length ≤ sizeLine ∧ Q .non (upd H l (.lst (xs ++ zs)))
theorem mt_extend : MtM X "list.extend" rExtend := by
  intro pins s σ H x vs v us Q I rx rv h
  obtain ⟨l, b, xs, zs, rfl, rfl, hH, hB, hz, q⟩ := h
  cases rx
  obtain ⟨u, rfl, ru⟩ := rv.one
  cases ru
  obtain ⟨z, its, n, r, hl, e⟩ := I.lstM hH
  obtain ⟨z2, its2, n2, r2, hl2, e2⟩ := I.lstM hB
  have hsz : its.toArray.size + its2.toArray.size ≤ sizeLine := by rw [List.size_toArray, List.size_toArray]; omega
  have hlong : ¬ (!its.toArray.isEmpty && Builtin.List.listTooLong (its.toArray.size + its2.toArray.size)) = true := by
    rw [notLongL hsz, Bool.and_false]
    exact Bool.false_ne_true
  refine call_meets F.slot_list_extend ⟨_, e, rfl⟩ F.entry_list_extend (F.args_list_extend_2 _ _)
    (AutoSeq1.list_extend_list_list_0 l its.toArray n b its2.toArray n2 hlong (by rw [List.size_toArray]; omega) (by omega)) ⟨e, e2, ?_⟩
  refine ⟨.non, _, I.lset (its' := its ++ its2) hH e (by simp) (r.append r2) ?_, rfl, q⟩
  rw [List.length_append]
  omega

def rCat : R2 := fun x y H Q => ∃ l b xs zs, x = .ref l ∧ y = .ref b ∧ H l = some (.lst xs) ∧ H b = some (.lst zs) ∧ xs.length + zs.length ≤ sizeLine ∧ ∀ p, H p = none → Q (.ref p) (upd H p (.lst (xs ++ zs)))
theorem op_cat : OpR X (binaryOp .Add) rCat := by
  intro pins s σ H x y v u Q I rx ry h
  obtain ⟨l, b, xs, zs, rfl, rfl, hH, hB, hz, q⟩ := h
  cases rx
  cases ry
  obtain ⟨z, its, n, r, hl, e⟩ := I.lstM hH
  obtain ⟨z2, its2, n2, r2, hl2, e2⟩ := I.lstM hB
  refine PySem.P.add_list e e2 ?_ (by rw [List.size_toArray, List.size_toArray]; omega)
  have ea : its.toArray ++ its2.toArray = (its ++ its2).toArray := by simp
  rw [ea]
  exact ⟨.ref _, _, I.lnew (t' := s.toks) (r.append r2) (by rw [List.length_append]; omega), rfl, q _ I.fresh⟩
end

section
variable {prog : Program} {w : World} {A : Around} {E : Value → Shared → Prop} {s : Shared}
set_option maxRecDepth 100000 in
end

section
variable {X : Cx}
end
end L2

namespace L2
open PySem PySem.Spec PyProof.Rows

theorem Vals.ints : ∀ {ns : List Int} {us : List Value}, Vals (ns.map V.int) us → IntsAre us ns
  | [], us, h => by
    rw [List.map_nil] at h
    cases h
    exact IntsAre.nil
  | n :: ns, us, h => by
    rw [List.map_cons] at h
    cases h with
    | cons r t =>
      obtain ⟨k, rfl⟩ := r
      exact IntsAre.cons n k (Vals.ints t)
theorem Vals.ref1 {a : Addr} {us : List Value} (r : Vals [V.ref a] us) : us = [Value.ref a] := by
  cases r with
  | cons r t =>
    cases t
    cases r
    rfl
section
variable {prog : Program} {w : World} {A : Around} {E : Value → Shared → Prop} {s : Shared} {l : Addr} {its : List Value} {ns : List Int} {Q : Value → Shared → Prop}
theorem sum_raw (hh : A.handled = none) (hl : s.heap.IsList l its.toArray) (hi : IntsAre its ns)
    (h : ∀ h' tk t', (∀ b o, s.heap.get? b = some o → h'.get? b = some o) → Q (.int ns.sum t') { s with heap := h', toks := tk }) : wpAny (model prog w) A (call (.builtin "sum") [.ref l]) Q E s := by
  obtain ⟨xs, e⟩ := hi.allInts.items
  have hn : numsOf (intItems xs).toList = ns := by rw [← e]; exact hi.numsOf
  rw [nums_intItems] at hn
  rw [e] at hl
  refine PySem.sum_intListG hh hl fun h' tk t' hk => ?_
  have := h h' tk t' hk
  rw [preSum_eq, List.take_of_length_le (by simp), hn]; exact this
theorem min_raw (hh : A.handled = none) (hl : s.heap.IsList l its.toArray) (hi : IntsAre its ns) (hne : 0 < ns.length)
    (h : ∀ h' tk M t', (∀ b o, s.heap.get? b = some o → h'.get? b = some o) → M ∈ ns → (∀ a, a ∈ ns → M ≤ a) → Q (.int M t') { s with heap := h', toks := tk }) : wpAny (model prog w) A (call (.builtin "min") [.ref l]) Q E s := by
  obtain ⟨xs, e⟩ := hi.allInts.items
  have hn : numsOf (intItems xs).toList = ns := by rw [← e]; exact hi.numsOf
  rw [nums_intItems] at hn
  subst hn
  rw [e] at hl
  have hsz : 0 < xs.size := by simpa using hne
  refine PySem.min_intList hh hl hsz fun v h' tk hv hk => ?_
  obtain ⟨t, rfl⟩ := intItems_at hv
  obtain ⟨h1, h2⟩ := argBest_lt (numAt xs) (xs.size - 1)
  refine h h' tk _ t hk ?_ fun a ha => ?_
  · rw [numAt_eq]; exact PySem.getD_mem (by rw [List.length_map, Array.length_toList]; omega)
  · obtain ⟨j, hj, rfl⟩ := mem_getD ha
    rw [List.length_map, Array.length_toList] at hj
    rw [← numAt_eq]; exact h2 j (by omega)
end

section
variable {X : Cx}
/-- sum(xs) of a list of ints -/
def rSum (K : PySem.W.Frag) : List V → Hp → VK → Prop := fun vs H Q => ∃ (a : Addr) (ns : List Int), vs = [V.ref a] ∧ SqL K H a (ns.map V.int) ∧ Q (.int ns.sum) H
def rMin (K : PySem.W.Frag) : List V → Hp → VK → Prop := fun vs H Q => ∃ (a : Addr) (ns : List Int), vs = [V.ref a] ∧ SqL K H a (ns.map V.int) ∧ 0 < ns.length ∧ ∀ m, m ∈ ns → (∀ y, y ∈ ns → m ≤ y) → Q (.int m) H
theorem cr_sum (hc : X.calm = true) : CallR X (.builtin "sum") (rSum X.K) := by
  intro pins s σ H vs us Q I r h
  obtain ⟨a, ns, rfl, hs, q⟩ := h
  obtain ⟨its, rv, hl, _⟩ := I.list hs
  rw [Vals.ref1 r]
  exact sum_raw (I.ok.hd hc) hl.isList rv.ints fun h' tk t' hk => ⟨.int _, H, I.kept hk, ⟨_, rfl⟩, q⟩
theorem cr_min (hc : X.calm = true) : CallR X (.builtin "min") (rMin X.K) := by
  intro pins s σ H vs us Q I r h
  obtain ⟨a, ns, rfl, hs, hne, q⟩ := h
  obtain ⟨its, rv, hl, _⟩ := I.list hs
  rw [Vals.ref1 r]
  exact min_raw (I.ok.hd hc) hl.isList rv.ints hne fun h' tk m t' hk h1 h2 => ⟨.int _, H, I.kept hk, ⟨_, rfl⟩, q m h1 h2⟩

end

section
variable {X : Cx}
end

section
variable {X : Cx}
end

section
variable {X : Cx}
end

mutual
inductive Dp (K : PySem.W.Frag) (H : Hp) : V → PyData → Prop
  | non : Dp K H .non .none
  | bl (b : Bool) : Dp K H (.bl b) (.bool b)
  | int (i : Int) : Dp K H (.int i) (.int i)
  | str (x : Str) : Dp K H (.str x) (.str x)
  | lst {a : Addr} {xs : List V} {ds : List PyData} : SqL K H a xs → DpAll K H xs ds → Dp K H (.ref a) (.list ds)
  | tup {a : Addr} {xs : List V} {ds : List PyData} : SqT K H a xs → DpAll K H xs ds → Dp K H (.ref a) (.tuple ds)
inductive DpAll (K : PySem.W.Frag) (H : Hp) : List V → List PyData → Prop
  | nil : DpAll K H [] []
  | cons {v : V} {vs : List V} {d : PyData} {ds : List PyData} : Dp K H v d → DpAll K H vs ds → DpAll K H (v :: vs) (d :: ds)
end
section
variable {X : Cx} {pins : List (Addr × Obj)} {σ : St} {H : Hp} {s : Shared}
mutual
theorem Dp.reads (I : Inv X pins σ H s) : ∀ (d : PyData) (v : V) (u : Value), Dp X.K H v d → RelV v u → ∃ as, Reads s.heap u d as
  | .none, _, _, h, r => by
    cases h
    cases r
    exact ⟨_, Reads.none⟩
  | .bool b, _, _, h, r => by
    cases h
    cases r
    exact ⟨_, Reads.bool b⟩
  | .int i, _, _, h, r => by
    cases h
    obtain ⟨t, rfl⟩ := r
    exact ⟨_, Reads.int i t⟩
  | .str x, _, _, h, r => by
    cases h
    obtain ⟨t, rfl⟩ := r
    exact ⟨_, Reads.str x t⟩
  | .list ds, _, _, h, r => by
    cases h with
    | lst hs ha =>
      cases r
      obtain ⟨its, rv, ⟨o, n, ho, hc, _, hd⟩, _⟩ := I.list hs
      obtain ⟨as, hr⟩ := Dp.readsAll I ds _ its ha rv
      exact ⟨_, Reads.list ho hc hd hr⟩
  | .tuple ds, _, _, h, r => by
    cases h with
    | tup hs ha =>
      cases r
      obtain ⟨its, rv, ⟨o, ho, hc, n, hd⟩, _⟩ := I.tuple hs
      obtain ⟨as, hr⟩ := Dp.readsAll I ds _ its ha rv
      exact ⟨_, Reads.tuple ho hc hd hr⟩
  | .dict _, _, _, h, _ => by cases h
theorem Dp.readsAll (I : Inv X pins σ H s) : ∀ (ds : List PyData) (vs : List V) (us : List Value), DpAll X.K H vs ds → Vals vs us → ∃ as, ReadsAll s.heap us ds as
  | [], _, _, h, r => by
    cases h
    cases r
    exact ⟨_, ReadsAll.nil⟩
  | d :: ds, _, _, h, r => by
    cases h with
    | cons h1 h2 =>
      cases r with
      | cons r1 r2 =>
        obtain ⟨as, q1⟩ := Dp.reads I d _ _ h1 r1
        obtain ⟨bs, q2⟩ := Dp.readsAll I ds _ _ h2 r2
        exact ⟨_, ReadsAll.cons q1 q2⟩
end
end
section
variable {X : Cx}
def rNeD (K : PySem.W.Frag) : R2 := fun x y H Q => ∃ d e, Dp K H x d ∧ Dp K H y e ∧ SeqAt.shaped d = true ∧ SeqAt.shaped e = true ∧ Q (.bl (!PyData.eqv d e)) H
theorem op_neD (hu : X.A.units + 64 < cLine) : OpR X (compareOp .NotEq) (rNeD X.K) := by
  intro pins s σ H x y v u Q I rx ry h
  obtain ⟨d, e, hd, he, sd, se, q⟩ := h
  obtain ⟨as, r1⟩ := Dp.reads I d x v hd rx
  obtain ⟨bs, r2⟩ := Dp.reads I e y u he ry
  exact SeqAt.compareNe_shaped r1 r2 sd se hu ⟨.bl _, H, I, rfl, q⟩
end
end L2

namespace L2
open PySem PySem.Spec PyProof.Rows
abbrev CellAt (h : Heap) (c : Addr) (v : Option Value) : Prop := h.IsCell c v
def relS (scope sc : Scope) : Scope :=
  { scope with names := scope.names.map fun (n, k) => if (k == .free && sc.kind == .function && sc.names.lookup n == some .cell) then (n, .cell) else (n, k) }

def cloFrom (cells : List (Str × Addr)) : List (Str × NameKind) → List (Str × Addr) → List (Str × Addr)
  | [], acc => acc
  | (n, k) :: r, acc => if k == .free then cloFrom cells r ((n, (cells.lookup n).getD 0) :: acc) else cloFrom cells r acc

theorem closure_loop (env : Env) (f : Str × NameKind → List (Str × Addr) → Sem (ForInStep (List (Str × Addr))))
    (hf : ∀ n k c, f (n, k) c = if k == .free then (do let a ← cellOf env n; pure (.yield ((n, a) :: c))) else pure (.yield c)) :
    ∀ (names : List (Str × NameKind)) (acc : List (Str × Addr)), (∀ y ∈ names, y.2 = .free → ∃ c, env.cells.lookup y.1 = some c) → forIn names acc f = pure (cloFrom env.cells names acc)
  | [], acc, _ => by rw [List.forIn_nil]; rfl
  | (n, k) :: r, acc, h => by
    rw [List.forIn_cons, hf]
    have ih := fun acc => closure_loop env f hf r acc fun y hy => h y (List.mem_cons_of_mem _ hy)
    unfold cloFrom
    by_cases hk : (k == NameKind.free) = true
    · rw [if_pos hk, if_pos hk]
      obtain ⟨c, hc⟩ := h (n, k) List.mem_cons_self (by simpa using hk)
      have e : cellOf env n = pure c := by unfold cellOf; rw [hc]
      rw [e]
      have e2 : (env.cells.lookup n).getD 0 = c := by rw [hc]; rfl
      rw [e2]
      exact ih _
    · rw [if_neg hk, if_neg hk]
      exact ih _
theorem closure_ok {scope : Scope} {env : Env} (h : ∀ y ∈ scope.names, y.2 = .free → ∃ c, env.cells.lookup y.1 = some c) : closureFor scope env = pure (cloFrom env.cells scope.names []) := by
  simp only [closureFor]
  rw [closure_loop env _ (fun n k c => rfl) scope.names [] h]
  rfl

theorem mem_lookup {α : Type} : ∀ {l : List (Str × α)} {n : Str} {c : α}, (n, c) ∈ l → ∃ c', l.lookup n = some c'
  | (k, v) :: r, n, c, h => by
    rw [List.lookup_cons]
    cases hb : n == k with
    | true => exact ⟨_, rfl⟩
    | false =>
      rcases List.mem_cons.mp h with e | h
      · cases e; simp at hb
      · exact mem_lookup h

theorem cloFrom_mem {cells : List (Str × Addr)} : ∀ {names : List (Str × NameKind)} {acc : List (Str × Addr)} {n : Str} {c : Addr}, (n, c) ∈ cloFrom cells names acc → (n, c) ∈ acc ∨ ((n, .free) ∈ names ∧ c = (cells.lookup n).getD 0)
  | [], _, _, _, h => .inl h
  | (m, k) :: r, acc, n, c, h => by
    unfold cloFrom at h
    split at h
    · rename_i hk
      have hk : k = .free := by simpa using hk
      rcases cloFrom_mem h with h | ⟨h1, h2⟩
      · rcases List.mem_cons.mp h with e | h
        · cases e; exact .inr ⟨hk ▸ List.mem_cons_self, rfl⟩
        · exact .inl h
      · exact .inr ⟨List.mem_cons_of_mem _ h1, h2⟩
    · rcases cloFrom_mem h with h | ⟨h1, h2⟩
      · exact .inl h
      · exact .inr ⟨List.mem_cons_of_mem _ h1, h2⟩
theorem cloFrom_acc {cells : List (Str × Addr)} : ∀ {names : List (Str × NameKind)} {acc : List (Str × Addr)} {p : Str × Addr}, p ∈ acc → p ∈ cloFrom cells names acc
  | [], _, _, h => h
  | (m, k) :: r, acc, p, h => by
    unfold cloFrom
    split
    · exact cloFrom_acc (List.mem_cons_of_mem _ h)
    · exact cloFrom_acc h
theorem cloFrom_has {cells : List (Str × Addr)} : ∀ {names : List (Str × NameKind)} {acc : List (Str × Addr)} {n : Str}, (n, .free) ∈ names → (n, (cells.lookup n).getD 0) ∈ cloFrom cells names acc
  | (m, k) :: r, acc, n, h => by
    unfold cloFrom
    rcases List.mem_cons.mp h with e | h
    · cases e
      exact cloFrom_acc List.mem_cons_self
    · split
      · exact cloFrom_has h
      · exact cloFrom_has h

theorem cells_mem : ∀ {names : List (Str × NameKind)} {h : Heap} {acc : List (Str × Addr)} {x : Str} {c : Addr}, (x, c) ∈ cellsFrom h.objs.size names acc →
    (x, c) ∈ acc ∨ ((x, .cell) ∈ names ∧ h.objs.size ≤ c ∧ CellAt (pushCells h names) c none)
  | [], _, _, _, _, h => .inl h
  | (n, k) :: r, h, acc, x, c, hm => by
    unfold cellsFrom at hm
    unfold pushCells
    split at hm
    · rename_i hk
      rw [if_pos hk]
      have hk : k = .cell := by simpa using hk
      rw [← Heap.size_push h { cls := .type "cell", data := .cell none }] at hm
      rcases cells_mem hm with hm | ⟨h1, h2, h3⟩
      · rcases List.mem_cons.mp hm with e | hm
        · cases e
          exact .inr ⟨hk ▸ List.mem_cons_self, Nat.le_refl _, _, pushCells_keeps r _ _ _ (Heap.get?_push_size _ rfl), rfl⟩
        · exact .inl hm
      · rw [Heap.size_push] at h2
        exact .inr ⟨List.mem_cons_of_mem _ h1, Nat.le_of_succ_le h2, h3⟩
    · rename_i hk
      rw [if_neg hk]
      rcases cells_mem hm with hm | ⟨h1, h2, h3⟩
      · exact .inl hm
      · exact .inr ⟨List.mem_cons_of_mem _ h1, h2, h3⟩
theorem cells_acc : ∀ {names : List (Str × NameKind)} {n : Nat} {acc : List (Str × Addr)} {p : Str × Addr}, p ∈ acc → p ∈ cellsFrom n names acc
  | [], _, _, _, h => h
  | (m, k) :: r, n, acc, p, h => by
    unfold cellsFrom
    split
    · exact cells_acc (List.mem_cons_of_mem _ h)
    · exact cells_acc h
theorem cells_has : ∀ {names : List (Str × NameKind)} {n : Nat} {acc : List (Str × Addr)} {x : Str}, (x, .cell) ∈ names → ∃ c, (x, c) ∈ cellsFrom n names acc
  | (m, k) :: r, n, acc, x, h => by
    unfold cellsFrom
    rcases List.mem_cons.mp h with e | h
    · cases e
      exact ⟨n, cells_acc List.mem_cons_self⟩
    · split
      · exact cells_has h
      · exact cells_has h
theorem cells_inj : ∀ {names : List (Str × NameKind)} {h : Heap} {acc : List (Str × Addr)} {x y : Str} {c : Addr}, (∀ p ∈ acc, p.2 < h.objs.size) → (∀ x y c, (x, c) ∈ acc → (y, c) ∈ acc → x = y) →
    (x, c) ∈ cellsFrom h.objs.size names acc → (y, c) ∈ cellsFrom h.objs.size names acc → x = y
  | [], _, _, _, _, _, _, hi, h1, h2 => hi _ _ _ h1 h2
  | (n, k) :: r, h, acc, x, y, c, hl, hi, h1, h2 => by
    unfold cellsFrom at h1 h2
    split at h1
    · rename_i hk
      rw [if_pos hk] at h2
      rw [← Heap.size_push h { cls := .type "cell", data := .cell none }] at h1 h2
      refine cells_inj (h := h.push _) (fun p hp => ?_) (fun x y c a b => ?_) h1 h2
      · rw [Heap.size_push]
        rcases List.mem_cons.mp hp with rfl | hp
        · exact Nat.lt_succ_self _
        · exact Nat.lt_succ_of_lt (hl p hp)
      · rcases List.mem_cons.mp a with e | a <;> rcases List.mem_cons.mp b with e' | b
        · cases e; cases e'; rfl
        · cases e; exact absurd (hl _ b) (Nat.lt_irrefl _)
        · cases e'; exact absurd (hl _ a) (Nat.lt_irrefl _)
        · exact hi _ _ _ a b
    · rename_i hk
      rw [if_neg hk] at h2
      exact cells_inj hl hi h1 h2

theorem newEnv_comp {M : Model} {A : Around} {E : Value → Shared → Prop} {s : Shared} {scope : Scope} {globals : Addr} {closure : List (Str × Addr)} {qual : Str} {func : Option Addr} {code : Value} {around : Env} {builtins : Addr} {Q : Env → Shared → Prop}
    (h : Q (newEnv scope s.heap.objs.size globals (cellsFrom (s.heap.objs.size + 1) scope.names closure) qual func code (some around) builtins)
      { s with heap := pushCells (s.heap.push { cls := .type "dict", data := .dict #[] }) scope.names }) :
    wpAny M A (newFunctionEnv scope globals closure [] qual func code (some around) builtins) Q E s := by
  simp only [newFunctionEnv, Option.isSome_some, if_true]
  refine wpAny_bind (wpAny_alloc ?_)
  refine wpAny_bind (wpAny_layCells _ (fun n k c => rfl) scope.names closure _ _ ?_)
  rw [show ({ s with heap := s.heap.push { cls := .type "dict", data := .dict #[] } } : Shared).heap.objs.size = s.heap.objs.size + 1 from Heap.size_push ..]
  rw [List.forIn_nil]
  exact wpAny_bind (wpAny_pure (wpAny_pure h))

/-- every name of the written scope, in the scope that runs -/
theorem lookup_relS {sc : Scope} : ∀ {names : List (Str × NameKind)} {x : Str} {k : NameKind},
    (names.map fun (n, k) => if (k == NameKind.free && sc.kind == .function && sc.names.lookup n == some .cell) then (n, NameKind.cell) else (n, k)).lookup x = some k →
    ∃ k', names.lookup x = some k' ∧ (k = k' ∨ (k' = .free ∧ k = .cell))
  | [], _, _, h => by simp at h
  | (n, k₀) :: r, x, k, h => by
    have ih := @lookup_relS sc r x k
    have h' : List.lookup x ((if (k₀ == NameKind.free && sc.kind == .function && sc.names.lookup n == some .cell) = true then (n, NameKind.cell) else (n, k₀)) :: (r.map _)) = some k := h
    cases hx : x == n with
    | true =>
      simp only [List.lookup_cons, hx]
      by_cases hc : (k₀ == NameKind.free && sc.kind == .function && sc.names.lookup n == some .cell) = true
      · rw [if_pos hc] at h'
        simp only [List.lookup_cons, hx] at h'
        cases h'
        simp only [Bool.and_eq_true, beq_iff_eq] at hc
        exact ⟨k₀, rfl, .inr ⟨hc.1.1, rfl⟩⟩
      · rw [if_neg hc] at h'
        simp only [List.lookup_cons, hx] at h'
        cases h'
        exact ⟨_, rfl, .inl rfl⟩
    | false =>
      simp only [List.lookup_cons, hx]
      by_cases hc : (k₀ == NameKind.free && sc.kind == .function && sc.names.lookup n == some .cell) = true
      · rw [if_pos hc] at h'
        simp only [List.lookup_cons, hx] at h'
        exact ih h'
      · rw [if_neg hc] at h'
        simp only [List.lookup_cons, hx] at h'
        exact ih h'
/-- the names of a comprehension's block: its own (with their places in N), or captured -/
structure BlkOk (N : List Str) (sc scope : Scope) (own : List (Str × Nat)) : Prop where
  kind : scope.kind = .function
  uniq : ∀ y ∈ scope.names, scope.names.lookup y.1 = some y.2
  ix : ∀ p ∈ own, N[p.2]? = some p.1
  free : ∀ y ∈ scope.names, y.2 = .free → sc.names.lookup y.1 = some .cell ∨ sc.names.lookup y.1 = some .free
  own : ∀ y ∈ scope.names, y.2 = .local ∨ y.2 = .cell → y.1 ∈ own.map (·.1) ∨ y.1 ∉ N
/-- the slots of the block's own names forgotten -/
def wipe (σ : St) : List Nat → St
  | [] => σ
  | v :: vs => (wipe σ vs).set v none
theorem wipe_length (σ : St) : ∀ vs : List Nat, (wipe σ vs).length = σ.length
  | [] => rfl
  | v :: vs => by unfold wipe; rw [List.length_set, wipe_length σ vs]
theorem wipe_some {σ : St} {i : Nat} {x : V} : ∀ {vs : List Nat}, (wipe σ vs)[i]? = some (some x) → σ[i]? = some (some x) ∧ i ∉ vs
  | [], h => ⟨h, by simp⟩
  | v :: vs, h => by
    unfold wipe at h
    by_cases hi : v = i
    · subst hi
      by_cases hv : v < (wipe σ vs).length
      · rw [List.getElem?_set_self hv] at h; cases h
      · rw [List.getElem?_eq_none (by simpa using hv)] at h; cases h
    · rw [List.getElem?_set_ne hi] at h
      obtain ⟨h1, h2⟩ := wipe_some h
      exact ⟨h1, by simp only [List.mem_cons, not_or]; exact ⟨fun e => hi e.symm, h2⟩⟩

/-- the context of a block that starts at s, its iterator's objects at fp -/
abbrev Cx.blk (X : Cx) (s : Shared) (H : Hp) (scope : Scope) (cenv : Env) (fp : List Addr) : Cx := { X with s₀ := s, H₀ := H, env := cenv, outer := X.stack, ex := fp, fn := fun x => scope.names.lookup x == some .cell, pn := [], xe := fun _ _ => False }
section
variable {X : Cx} {pins : List (Addr × Obj)} {σ : St} {H : Hp} {s : Shared}
theorem block_start {scope : Scope} {own : List (Str × Nat)} {fp : List Addr} (I : Inv X pins σ H s) (ok : BlkOk X.N X.env.scope scope own) (hN : X.N.Nodup) (hfp : ∀ b ∈ fp, FpOk X pins H b ∧ b < s.heap.objs.size) :
    Inv (X.blk s H scope (compEnvC scope (cellsFrom (s.heap.objs.size + 1) scope.names (cloFrom X.env.cells scope.names [])) s.heap.objs.size X.env) fp) [] (wipe σ (own.map (·.2))) H { s with heap := pushCells (s.heap.push { cls := .type "dict", data := .dict #[] }) scope.names } := by
  have hfree : ∀ y ∈ scope.names, y.2 = .free → ∃ c, X.env.cells.lookup y.1 = some c := fun y hy e => by
    rcases ok.free y hy e with k | k
    · exact I.ok.has _ (.inl k)
    · exact I.ok.has _ (.inr k)
  generalize hcenv : compEnvC scope (cellsFrom (s.heap.objs.size + 1) scope.names (cloFrom X.env.cells scope.names [])) s.heap.objs.size X.env = cenv
  have kp : ∀ b o, s.heap.get? b = some o → (pushCells (s.heap.push { cls := .type "dict", data := .dict #[] }) scope.names).get? b = some o := fun b o e => pushCells_keeps _ _ _ _ (Heap.get?_push_of_some _ e)
  have hL : cenv.locals = s.heap.objs.size := by rw [← hcenv]; rfl
  have hcl : cenv.cells = cellsFrom (s.heap.objs.size + 1) scope.names (cloFrom X.env.cells scope.names []) := by rw [← hcenv]; rfl
  have hsc : cenv.scope = relS scope X.env.scope := by rw [← hcenv]; rfl
  rw [← Heap.size_push s.heap { cls := .type "dict", data := .dict #[] }] at hcl
  have cm : ∀ {y c}, (y, c) ∈ cloFrom X.env.cells scope.names [] → X.env.cells.lookup y = some c ∧ c < s.heap.objs.size := fun {y c} hm => by
    rcases cloFrom_mem hm with hm | ⟨h1, rfl⟩
    · cases hm
    · obtain ⟨c, hc⟩ := hfree _ h1 rfl
      rw [hc]
      obtain ⟨w, z⟩ := I.cell _ _ hc
      exact ⟨rfl, z.lt⟩
  have mem : ∀ {y c}, cenv.cells.lookup y = some c → (X.env.cells.lookup y = some c ∧ c < s.heap.objs.size) ∨ (s.heap.objs.size + 1 ≤ c ∧ CellAt (pushCells (s.heap.push { cls := .type "dict", data := .dict #[] }) scope.names) c none) := fun {y c} e => by
    rw [hcl] at e
    rcases cells_mem (PySem.mem_of_lookup e) with hm | ⟨_, h2, h3⟩
    · exact .inl (cm hm)
    · rw [Heap.size_push] at h2; exact .inr ⟨h2, h3⟩
  have look : ∀ {y}, scope.names.lookup y = some .free → ∃ c, cenv.cells.lookup y = some c ∧ X.env.cells.lookup y = some c := fun {y} hl => by
    have hy : (y, NameKind.free) ∈ scope.names := PySem.mem_of_lookup hl
    obtain ⟨c', e'⟩ := mem_lookup (cells_acc (names := scope.names) (n := (s.heap.push { cls := .type "dict", data := .dict #[] }).objs.size) (cloFrom_has (cells := X.env.cells) (acc := []) hy))
    rw [← hcl] at e'
    refine ⟨c', e', ?_⟩
    rw [hcl] at e'
    rcases cells_mem (PySem.mem_of_lookup e') with hm | ⟨h1, _, _⟩
    · exact (cm hm).1
    · have := ok.uniq _ h1
      rw [hl] at this; cases this
  have okB : (X.blk s H scope cenv fp).Ok := by
    refine ⟨I.ok.mod, by show cenv.scope.kind = _; rw [hsc]; exact ok.kind, by show cenv.globals = _; rw [← hcenv]; exact I.ok.glob, by show cenv.builtins = _; rw [← hcenv]; exact I.ok.blt, by show s.heap.objs.size ≤ cenv.locals; rw [hL]; exact Nat.le_refl _,
      fun y z c e1 e2 => ?_, fun y hy => ?_, fun y c z e => ?_, I.ok.hd, I.ok.frames, .inl rfl, fun b hb => ⟨?_, fun y c e z => ?_⟩, I.bs, Nat.le_trans I.ok.bsz I.sz, fun b o e hb => ?_, fun b hb z => ?_, I.stack, I.stkFree⟩
    · have e1 : cenv.cells.lookup y = some c := e1
      have e2 : cenv.cells.lookup z = some c := e2
      rw [hcl] at e1 e2
      refine cells_inj (fun p hp => ?_) (fun y z c a b => I.ok.inj y z c (cm a).1 (cm b).1) (PySem.mem_of_lookup e1) (PySem.mem_of_lookup e2)
      rw [Heap.size_push]
      exact Nat.lt_succ_of_lt (cm (y := p.1) (c := p.2) hp).2
    · show ∃ c, cenv.cells.lookup y = some c
      have key : ∀ k, cenv.kindOf y = some k → (k = .cell ∨ k = .free) → ∃ c, cenv.cells.lookup y = some c := fun k hk hk' => by
        unfold Env.kindOf at hk
        rw [hsc] at hk
        obtain ⟨k', e, r⟩ := lookup_relS hk
        have : k' = .cell ∨ k' = .free := by
          rcases r with rfl | ⟨rfl, _⟩
          · exact hk'
          · exact .inr rfl
        rcases this with rfl | rfl
        · obtain ⟨c, hm⟩ := cells_has (n := (s.heap.push { cls := .type "dict", data := .dict #[] }).objs.size) (acc := cloFrom X.env.cells scope.names []) (PySem.mem_of_lookup e)
          obtain ⟨c', e'⟩ := mem_lookup hm
          exact ⟨c', by rw [hcl]; exact e'⟩
        · obtain ⟨c, h1, _⟩ := look e
          exact ⟨c, h1⟩
      rcases hy with hy | hy
      · exact key _ hy (.inl rfl)
      · exact key _ hy (.inr rfl)
    · have z : (scope.names.lookup y == some NameKind.cell) = true := z
      have z : scope.names.lookup y = some .cell := by simpa using z
      have e : cenv.cells.lookup y = some c := e
      rw [hcl] at e
      rcases cells_mem (PySem.mem_of_lookup e) with hm | ⟨_, h2, _⟩
      · rcases cloFrom_mem hm with hm | ⟨h1, _⟩
        · cases hm
        · have q := ok.uniq _ h1
          rw [z] at q; cases q
      · rw [Heap.size_push] at h2
        exact Nat.le_of_succ_le h2
    · show b ≠ cenv.locals
      rw [hL]; exact Nat.ne_of_lt (hfp b hb).2
    · have e : cenv.cells.lookup y = some c := e
      rcases mem e with ⟨h1, _⟩ | ⟨h1, _⟩
      · exact (hfp b hb).1.2.2.2.2.1 y c h1 z
      · have h2 : s.heap.objs.size + 1 ≤ b := by rw [← z]; exact h1
        exact absurd (Nat.lt_of_lt_of_le (hfp b hb).2 (Nat.le_of_succ_le h2)) (Nat.lt_irrefl _)
    · rcases (hfp b hb).1.2.2.2.1 with z | z
      · exact I.ok.noex b o e z
      · exact absurd (Nat.lt_of_lt_of_le (Heap.lt_size e) (Nat.le_trans I.ok.bsz z)) (Nat.lt_irrefl _)
    · rcases List.mem_cons.mp (I.stkSub b z) with z | z
      · exact (hfp b hb).1.2.1 z
      · exact (hfp b hb).1.2.2.1 z
  refine ⟨okB, rfl, I.bare, Un.kept kp, ⟨fun _ => none, ?_, fun i y av e1 e2 e3 => ?_⟩, fun y c e => ?_, ?_, fun y c e => ?_, fun p hp => ?_, I.hok.kept kp, by rw [wipe_length]; exact I.len⟩
  · show Heap.Ns _ cenv.locals _
    rw [hL]
    exact Heap.Ns.keeps (Heap.Ns.new ..) fun b o e => pushCells_keeps _ _ _ _ e
  · obtain ⟨e2, hne⟩ := wipe_some e2
    have hfr : scope.names.lookup y = some .free ∧ (cenv.kindOf y = some .cell ∨ cenv.kindOf y = some .free) := by
      have key : ∀ k, cenv.scope.names.lookup y = some k → k = .local ∨ k = .cell ∨ k = .free → scope.names.lookup y = some .free ∧ (cenv.kindOf y = some .cell ∨ cenv.kindOf y = some .free) := fun k hk hk' => by
        have hk0 := hk
        rw [hsc] at hk
        obtain ⟨k', e, r⟩ := lookup_relS hk
        have no : ¬ (k' = .local ∨ k' = .cell) := fun hh => by
          rcases ok.own _ (PySem.mem_of_lookup e) hh with e' | e'
          · obtain ⟨p, hp, hpy⟩ := List.mem_map.mp e'
            have e3 := ok.ix p hp
            have : p.1 = y := hpy
            rw [this] at e3
            exact hne (List.mem_map.mpr ⟨p, hp, nodup_ix hN e3 e1⟩)
          · exact e' (List.mem_of_getElem? e1)
        rcases r with rfl | ⟨rfl, rfl⟩
        · rcases hk' with rfl | rfl | rfl
          · exact absurd (.inl rfl) no
          · exact absurd (.inr rfl) no
          · exact ⟨e, .inr hk0⟩
        · exact ⟨e, .inl hk0⟩
      have e3 : Vis cenv.scope y := e3
      rcases e3 with e3 | e3 | e3
      · exact key _ e3 (.inl rfl)
      · exact key _ e3 (.inr (.inl rfl))
      · exact key _ e3 (.inr (.inr rfl))
    obtain ⟨m, hn, hl⟩ := I.loc
    have hvis : Vis X.env.scope y := (ok.free _ (PySem.mem_of_lookup hfr.1) rfl).elim (fun k => .inr (.inl k)) (fun k => .inr (.inr k))
    obtain ⟨w, r, q⟩ := hl i y av e1 e2 hvis
    refine ⟨w, r, .inr ⟨hfr.2, ?_⟩⟩
    obtain ⟨c, h1, h2⟩ := look hfr.1
    rcases q with ⟨k, _⟩ | ⟨_, c', e', z⟩
    · have k : X.env.scope.names.lookup y = some .local := k
      rcases ok.free _ (PySem.mem_of_lookup hfr.1) rfl with k' | k' <;> rw [show X.env.scope.names.lookup y = _ from k'] at k <;> cases k
    · rw [h2] at e'; cases e'
      exact ⟨c, h1, z.keeps kp⟩
  · have e : cenv.cells.lookup y = some c := e
    rcases mem e with ⟨h1, _⟩ | ⟨_, z⟩
    · obtain ⟨w, z⟩ := I.cell y c h1
      exact ⟨w, z.keeps kp⟩
    · exact ⟨_, z⟩
  · show H cenv.locals = none
    rw [hL]; exact I.hok.fresh (Nat.le_refl _)
  · have e : cenv.cells.lookup y = some c := e
    rcases mem e with ⟨h1, _⟩ | ⟨h1, _⟩
    · exact I.freeC y c h1
    · exact I.hok.fresh (Nat.le_of_succ_le h1)
  · exact absurd (show p ∈ ([] : List (Addr × Obj)) ++ [] from hp) (by simp)

/-- an item appended to a tracked list -/
theorem app_ok {E : Value → Shared → Prop} {D : Addr} {xs : List V} {y : V} {v : Value} {Q : Value → Shared → Prop} (I : Inv X pins σ H s) (hD : H D = some (.lst xs)) (hz : xs.length < sizeLine) (r : RelV y v)
    (h : ∀ s', Inv X pins σ (upd H D (.lst (xs ++ [y]))) s' → Q .none s') : wpAny (model X.prog X.w) X.A (call (.builtin "list.append") [.ref D, v]) Q E s := by
  obtain ⟨hz', its, n, ri, e⟩ := I.hok D _ hD
  have hl := ri.length
  refine append_at (hsz := by rw [List.size_toArray]; omega) e fun h' sb ho' => ?_
  refine h { s with heap := h' } (I.write (t' := s.toks) (by rw [hD]; trivial) (.inl rfl) (fun b u hb q => (sb.2 b hb).trans q) ⟨_, ho'⟩ ⟨by rw [List.length_append]; exact hz, its ++ [v], n + 1, ri.append (.cons r .nil), ?_⟩)
  rw [ho']
  simp

/-- a clause's tests -/
def PTs (X : Cx) (ifs : List Expr) (t : TT) : Prop :=
  ∀ (pins : List (Addr × Obj)) (s : Shared) (σ : St) (H : Hp) (Q : Bool → Hp → Prop), Inv X pins σ H s → t σ H Q →
    wpAny (model X.prog X.w) X.A (forIn ifs true fun c r => if r = true then do let ok ← isTrue c X.env (eval c X.env); pure (ForInStep.yield ok) else pure (ForInStep.yield r)) (TP X pins σ Q) X.xe s
def tYes : TT := fun _ H Q => Q true H
theorem pts_nil : PTs X [] tYes := fun _ _ _ H _ I h => wpAny_tests_nil ⟨H, I, h⟩
end

theorem thnF {α : Type} {t : Sem α} {Q Q' : α → Shared → Prop} {M : Model} {A : Around} {E : Value → Shared → Prop} {s : Shared} (h : wpAny M A t Q (fun _ _ => False) s) (hQ : ∀ a s, Q a s → Q' a s) : wpAny M A t Q' E s := wpAny_mono h hQ fun _ _ z => False.elim z

/-- the loop of a list comprehension's block, the target of any form (codeAny_compLoop_tests asks a target that no tuple goes to; statement and proof follow it, PyProof/CompMap.lean:41-61, with the step letOwnedTupleGo kept) -/
theorem compLoop_any {prog : Program} {w : World} {A : Around} {R : Result → Shared → Prop} {s : Shared} {elt target iter : Expr} {ifs : List Expr} {scope : Scope} {pos : Pos} {it acc : Value} {env : Env} (I : Nat → Shared → Prop)
    (turn : ∀ n s, I n s → wpAny (model prog w) A (pyNext it) (fun r s₁ => match r with
      | none => R (.ok .next) s₁
      | some v => wpAny (model prog w) A (letOwnedTupleGo target it v) (fun _ s₁' => wpAny (model prog w) A (assign target env v) (fun _ s₂ =>
          wpAny (model prog w) A (forIn ifs true fun c r => if r = true then do let ok ← isTrue c env (eval c env); pure (ForInStep.yield ok) else pure (ForInStep.yield r)) (fun ok s₃ =>
            if ok = true then wpAny (model prog w) A (eval elt env) (fun x s₄ =>
              wpAny (model prog w) A (call (.builtin "list.append") [acc, x]) (fun _ s₅ => ∃ m, m < n ∧ I m s₅) (notedBy (model prog w) A env fun e s' => R (.error e) s') s₄) (notedBy (model prog w) A env fun e s' => R (.error e) s') s₃
            else ∃ m, m < n ∧ I m s₃) (notedBy (model prog w) A env fun e s' => R (.error e) s') s₂) (notedBy (model prog w) A env fun e s' => R (.error e) s') s₁') (notedBy (model prog w) A env fun e s' => R (.error e) s') s₁) (notedBy (model prog w) A env fun e s' => R (.error e) s') s)
    (n : Nat) (h : I n s) :
    codeAny (model prog w) A (.compLoop (.ListComp elt [⟨target, iter, ifs, 0⟩] scope pos) 0 it acc env) R s := by
  refine codeAny_loop rfl I (fun n s hI => ?_) n h
  show wpAny _ A ((compTurn (.ListComp elt [⟨target, iter, ifs, 0⟩] scope pos) 0 it acc env).onRaise (fun x => do noteFrame x env; theTreesLotGoes x)) _ _ s
  refine wpAny_noted ?_
  rw [compTurn_list]
  refine wpAny_bind (wpAny_standAt (wpAny_bind (wpAny_mono (turn n s hI) (fun r s₁ h₁ => ?_) fun _ _ h' => h')))
  cases r with
  | none => exact wpAny_pure h₁
  | some v =>
    refine wpAny_bind (wpAny_mono h₁ (fun _ s₁' h₁' => ?_) fun _ _ h' => h')
    refine wpAny_bind (wpAny_mono h₁' (fun _ s₂ h₂ => wpAny_bind (wpAny_mono h₂ (fun ok s₃ h₃ => ?_) fun _ _ h' => h')) fun _ _ h' => h')
    cases ok with
    | false => exact wpAny_pure ⟨rfl, h₃⟩
    | true =>
      exact wpAny_bind (wpAny_bind (wpAny_mono h₃ (fun x s₄ h₄ => wpAny_bind (wpAny_mono h₄ (fun _ s₅ h₅ => wpAny_pure (wpAny_pure ⟨rfl, h₅⟩)) fun _ _ h' => h')) fun _ _ h' => h'))

section
variable {X : Cx}
/-- [elt for target in iter if ..]: D the new list; W by the turn and a measure, Nx what a turn is to reach -/
def tLc (wi : TI) (g : TG) (tt : TT) (te : TE) (vs : List Nat) : TE := fun σ H Q => wi σ H fun J H1 => ∀ D, H1 D = none → ∃ W : Nat → Nat → Hp → Prop, (∃ m, W 0 m (upd H1 D (.lst []))) ∧ ∀ i m H, W i m H →
  (J.stop i H ∧ Q (.ref D) H) ∨ (J.go i H ∧ ∃ Nx : Hp → Prop, (∀ H', Nx H' → ∃ m', m' < m ∧ W (i + 1) m' H') ∧ ∀ x H', J.yld i H x H' → g x (wipe σ vs) H' fun σ2 H2 => wipe σ2 vs = wipe σ vs ∧ tt σ2 H2 fun b H3 =>
    if b = true then te σ2 H3 fun y H4 => ∃ acc, H4 D = some (.lst acc) ∧ acc.length < sizeLine ∧ Nx (upd H4 D (.lst (acc ++ [y]))) else Nx H3)
theorem lc_core {pins : List (Addr × Obj)} {s : Shared} {σ : St} {H : Hp} {Q : VK} {elt tg iter : Expr} {ifs : List Expr} {scope : Scope} {own : List (Str × Nat)} {pos pos' : Pos} {wi : TI} {g : TG} {tt : TT} {te : TE} {use : Option (Value → Sem Unit)} {Qf : Value → Shared → Prop}
    (hc : X.calm = true) (hN : X.N.Nodup) (I : Inv X pins σ H s) (hi : PI X tg iter wi) (ok : BlkOk X.N X.env.scope scope own)
    (hg : ∀ (s : Shared) (H : Hp) (C : Addr) (cl : List (Str × Addr)) (fp : List Addr), PG (X.blk s H scope (compEnvC scope cl C X.env) fp) tg g) (ht : ∀ (s : Shared) (H : Hp) (C : Addr) (cl : List (Str × Addr)) (fp : List Addr), PTs (X.blk s H scope (compEnvC scope cl C X.env) fp) ifs tt)
    (he : ∀ (s : Shared) (H : Hp) (C : Addr) (cl : List (Str × Addr)) (fp : List Addr), PE (X.blk s H scope (compEnvC scope cl C X.env) fp) elt te) (hs : ∀ x, foldedSetIterable iter X.env x = pure x)
    (h : tLc wi g tt te (own.map (·.2)) σ H Q)
    (hRR : ∀ D C s' m H', Inv X pins σ H' s' → Q (.ref D) H' → s'.heap.Ns C m → FpOk X pins H' C → compPost (model X.prog X.w) X.A X.xe use Qf (.ref D) C (.ok .next) s') :
    wpAny (model X.prog X.w) X.A (comprehension (.ListComp elt [⟨tg, iter, ifs, 0⟩] scope pos) scope X.env pos' (newList []) false (eval iter X.env) use) Qf X.xe s := by
  have hfree : ∀ y ∈ scope.names, y.2 = .free → ∃ c, X.env.cells.lookup y.1 = some c := fun y hy e => by
    rcases ok.free y hy e with k | k
    · exact I.ok.has _ (.inl k)
    · exact I.ok.has _ (.inr k)
  refine wpAny_comprehension_free (use := use) rfl hs (closure_ok hfree) ok.kind (fun y hy e => by rw [ok.uniq y hy, e])
    (thn (hi pins s σ H _ I h) fun xv s1 hx => thn hx fun itv s2 h2 => ?_)
  obtain ⟨it, fp, tn, J, H2, e, I2, T, st2, f2, q⟩ := h2
  subst e
  refine wpAny_newObj_type (newEnv_comp ?_) (by show 0 ≤ sizeLine; decide)
  generalize hD : s2.heap.objs.size = D
  have hDn : H2 D = none := I2.hok.fresh (Nat.le_of_eq hD)
  obtain ⟨W, ⟨m0, w0⟩, turn⟩ := q D hDn
  -- the new list
  generalize hs3 : ({ s2 with heap := s2.heap.push { cls := .type "list", data := .seq ([] : List Value).toArray } } : Shared) = s3
  have I3 : Inv X pins σ (upd H2 D (.lst [])) s3 := by
    rw [← hs3]
    refine I2.laid (t' := s2.toks) (fun b o e => Heap.get?_push_of_some _ e) (Nat.le_of_eq hD) ⟨Nat.zero_le _, [], 0, .nil, ?_⟩
    rw [← hD]
    exact Heap.get?_push_size _ rfl
  have h3 : s3.heap = s2.heap.push { cls := .type "list", data := .seq ([] : List Value).toArray } := by rw [← hs3]
  have sz : ∀ b ∈ fp, b < s2.heap.objs.size := fun b hb => by
    obtain ⟨o, e, _⟩ := T.obj _ _ st2 b hb
    exact Heap.lt_size e
  have f3 : ∀ b ∈ fp, FpOk X pins (upd H2 D (.lst [])) b ∧ b < s3.heap.objs.size := fun b hb => by
    have hlt := sz b hb
    refine ⟨⟨?_, (f2 b hb).2⟩, by rw [h3, Heap.size_push]; exact Nat.lt_succ_of_lt hlt⟩
    rw [upd_ne (by rw [← hD]; exact Nat.ne_of_lt hlt)]
    exact (f2 b hb).1
  have st3 : tn 0 s3.heap := T.keep _ _ _ st2 fun b _ o e => by rw [h3]; exact Heap.get?_push_of_some _ e
  have I4 := block_start I3 ok hN f3
  have pg := hg s3 (upd H2 D (.lst [])) s3.heap.objs.size (cellsFrom (s3.heap.objs.size + 1) scope.names (cloFrom X.env.cells scope.names [])) fp
  have pt := ht s3 (upd H2 D (.lst [])) s3.heap.objs.size (cellsFrom (s3.heap.objs.size + 1) scope.names (cloFrom X.env.cells scope.names [])) fp
  have pe := he s3 (upd H2 D (.lst [])) s3.heap.objs.size (cellsFrom (s3.heap.objs.size + 1) scope.names (cloFrom X.env.cells scope.names [])) fp
  show codeAny _ _ (.compStart (.ListComp elt [⟨tg, iter, ifs, 0⟩] scope pos) 0 (.ref it) (.ref D) (compEnvC scope (cellsFrom (s3.heap.objs.size + 1) scope.names (cloFrom X.env.cells scope.names [])) s3.heap.objs.size X.env)) (compPost (model X.prog X.w) X.A X.xe use Qf (.ref D) s3.heap.objs.size) { s3 with heap := pushCells (s3.heap.push { cls := .type "dict", data := .dict #[] }) scope.names }
  have nfp : ∀ b ∈ fp, (upd H2 D (.lst [])) b = none := fun b hb => (f3 b hb).1.1
  generalize hce : compEnvC scope (cellsFrom (s3.heap.objs.size + 1) scope.names (cloFrom X.env.cells scope.names [])) s3.heap.objs.size X.env = ce at I4 pg pt pe ⊢
  have cL : ce.locals = s3.heap.objs.size := by subst hce; rfl
  generalize hH3 : upd H2 D (.lst []) = H3 at I3 I4 pg pt pe w0 nfp f3
  generalize hs4 : ({ s3 with heap := pushCells (s3.heap.push { cls := .type "dict", data := .dict #[] }) scope.names } : Shared) = s4 at I4 ⊢
  have st4 : tn 0 s4.heap := T.keep _ _ _ st3 fun b _ o e => by rw [← hs4]; exact pushCells_keeps _ _ _ _ (Heap.get?_push_of_some _ e)
  have stat : ∀ {σ' : St} {H' : Hp} {s' : Shared}, Inv (X.blk s3 H3 scope ce fp) [] σ' H' s' → (∀ b ∈ fp, H' b = none) → ∀ b ∈ fp, FpOk (X.blk s3 H3 scope ce fp) [] H' b := fun {σ' H' s'} I' hn b hb =>
    ⟨hn b hb, (I'.ok.exf b hb).1, I'.ok.exfs b hb, .inl hb, fun x c e => (I'.ok.exf b hb).2 x c e, fun p hp => absurd (show p ∈ ([] : List (Addr × Obj)) ++ [] from hp) (by simp)⟩
  have loop : codeAny (model X.prog X.w) X.A (.compLoop (.ListComp elt [⟨tg, iter, ifs, 0⟩] scope pos) 0 (.ref it) (.ref D) ce) (compPost (model X.prog X.w) X.A X.xe use Qf (.ref D) s3.heap.objs.size) s4 := by
    refine compLoop_any (fun n s' => ∃ i H', Inv (X.blk s3 H3 scope ce fp) [] (wipe σ (own.map (·.2))) H' s' ∧ tn i s'.heap ∧ (∀ b ∈ fp, H' b = none) ∧ W i n H') ?_ m0 ⟨0, H3, I4, st4, nfp, w0⟩
    rintro n s5 ⟨i, H5, I5, st5, n5, w5⟩
    rcases turn i n H5 w5 with ⟨stop, qq⟩ | ⟨go, Nx, hNx, step⟩
    · have td := T.done (X.blk s3 H3 scope ce fp) rfl rfl rfl hc i [] s5 _ H5 (fun _ _ => False) I5 (stat I5 n5) st5 stop
      refine thnF td fun r s6 ⟨hr, I6⟩ => ?_
      subst hr
      -- back in the def's context
      have I7 : Inv X pins σ H5 s6 := I3.call' (ch := fp) I6.os I6.base I6.hok I6.bare fun b hb => ⟨(f3 b hb).1.2.2.2.1, (f3 b hb).1.2.1, (f3 b hb).1.2.2.2.2.1, (f3 b hb).1.2.2.2.2.2⟩
      have nC : H5 s3.heap.objs.size = none := by
        have z : H5 ce.locals = none := I6.free
        rw [cL] at z
        exact z
      obtain ⟨m, hn, _⟩ := I6.loc
      have hn : s6.heap.Ns ce.locals m := hn
      rw [cL] at hn
      exact hRR D s3.heap.objs.size s6 m H5 I7 qq hn (I3.fpOk (Nat.le_refl _) nC)
    · have ti := T.item (X.blk s3 H3 scope ce fp) rfl rfl rfl hc i [] s5 _ H5 (fun _ _ => False) I5 (stat I5 n5) st5 go
      refine thnF ti fun r s6 ⟨u, hr, h6⟩ => ?_
      subst hr
      refine thnF h6 fun _ s7 ⟨x, H7, I7, r7, y7, st7, n7⟩ => ?_
      have I7' := I7.pinned (stat I7 n7) (T.obj _ _ st7)
      refine thnF (pg _ s7 _ H7 x u _ I7' r7 (step x H7 y7)) fun _ s8 ⟨σ8, H8, I8, hw8, q8⟩ => ?_
      refine thnF (pt _ s8 σ8 H8 _ I8 q8) fun b s9 ⟨H9, I9, q9⟩ => ?_
      -- the turn's end
      have fin : ∀ {s' : Shared} {H' : Hp}, Inv (X.blk s3 H3 scope ce fp) ([] ++ pinsAt fp s7.heap) σ8 H' s' → Nx H' → ∃ m, m < n ∧ ∃ i H', Inv (X.blk s3 H3 scope ce fp) [] (wipe σ (own.map (·.2))) H' s' ∧ tn i s'.heap ∧ (∀ b ∈ fp, H' b = none) ∧ W i m H' := fun {s' H'} I' nx => by
        obtain ⟨m', hm, w'⟩ := hNx H' nx
        have pin' : ∀ b ∈ fp, ∀ o, s7.heap.get? b = some o → s'.heap.get? b = some o ∧ H' b = none := fun b hb o e =>
          let z := I'.pin (b, o) (List.mem_append_right _ (List.mem_append_right _ (mem_pinsAt hb e)))
          ⟨z.1, z.2.1⟩
        have hl : (wipe σ (own.map (·.2))).length = σ8.length := by rw [← hw8, wipe_length]
        refine ⟨m', hm, i + 1, H', (I'.unpinned (pins := [])).weak hl (fun j v e => ?_), T.keep _ _ _ st7 fun b hb o e => (pin' b hb o e).1, fun b hb => ?_, w'⟩
        · rw [← hw8] at e
          exact (wipe_some e).1
        · obtain ⟨o, e, _⟩ := T.obj _ _ st7 b hb
          exact (pin' b hb o e).2
      cases b with
      | false =>
        simp only [Bool.false_eq_true, if_false] at q9 ⊢
        exact fin I9 q9
      | true =>
        simp only [if_true] at q9 ⊢
        refine thnF (pe _ s9 σ8 H9 _ I9 q9) fun z s10 ⟨yv, H10, I10, r10, acc, hD10, hz10, nx⟩ => ?_
        exact app_ok (X := X.blk s3 H3 scope ce fp) I10 hD10 hz10 r10 fun s11 I11 => fin I11 nx
  exact codeAny_compStart_list loop (T.self X.A 0 _ _ _ st4 loop)
/-- as a value -/
theorem pe_lc {elt tg iter : Expr} {ifs : List Expr} {scope : Scope} {own : List (Str × Nat)} {pos : Pos} {wi : TI} {g : TG} {tt : TT} {te : TE} (hc : X.calm = true) (hN : X.N.Nodup) (hi : PI X tg iter wi) (ok : BlkOk X.N X.env.scope scope own)
    (hg : ∀ (s : Shared) (H : Hp) (C : Addr) (cl : List (Str × Addr)) (fp : List Addr), PG (X.blk s H scope (compEnvC scope cl C X.env) fp) tg g) (ht : ∀ (s : Shared) (H : Hp) (C : Addr) (cl : List (Str × Addr)) (fp : List Addr), PTs (X.blk s H scope (compEnvC scope cl C X.env) fp) ifs tt)
    (he : ∀ (s : Shared) (H : Hp) (C : Addr) (cl : List (Str × Addr)) (fp : List Addr), PE (X.blk s H scope (compEnvC scope cl C X.env) fp) elt te) (hs : ∀ x, foldedSetIterable iter X.env x = pure x := by intro _; rfl) :
    PE X (.ListComp elt [⟨tg, iter, ifs, 0⟩] scope pos) (tLc wi g tt te (own.map (·.2))) := by
  intro pins s σ H Q I h
  rw [eval_ListComp]
  refine lc_core hc hN I hi ok hg ht he hs h fun D C s' m H' I' q hn f => ⟨m, hn, fun h'' sb => ?_⟩
  obtain ⟨f0, f1, f2, f3, f4, f5⟩ := f
  exact ⟨.ref D, H', I'.turned (t' := s'.toks) (fun b o hb e => (sb.2 b hb).trans e) f0 f1 f3 f4 f5, rfl, q⟩
/-- name = [..] on one line, the name a local -/
theorem ps_setLc {i : Nat} {y : Str} {py : Pos} {elt tg iter : Expr} {ifs : List Expr} {scope : Scope} {own : List (Str × Nat)} {pos spos : Pos} {wi : TI} {g : TG} {tt : TT} {te : TE} (hc : X.calm = true) (hN : X.N.Nodup) (hy : X.N[i]? = some y) (hyl : X.env.scope.names.lookup y = some .local)
    (hsw : swapsWith (.ListComp elt [⟨tg, iter, ifs, 0⟩] scope pos) (some (.Name y py)) spos.line X.env = pure true) (hi : PI X tg iter wi) (ok : BlkOk X.N X.env.scope scope own)
    (hg : ∀ (s : Shared) (H : Hp) (C : Addr) (cl : List (Str × Addr)) (fp : List Addr), PG (X.blk s H scope (compEnvC scope cl C X.env) fp) tg g) (ht : ∀ (s : Shared) (H : Hp) (C : Addr) (cl : List (Str × Addr)) (fp : List Addr), PTs (X.blk s H scope (compEnvC scope cl C X.env) fp) ifs tt)
    (he : ∀ (s : Shared) (H : Hp) (C : Addr) (cl : List (Str × Addr)) (fp : List Addr), PE (X.blk s H scope (compEnvC scope cl C X.env) fp) elt te) (hs : ∀ x, foldedSetIterable iter X.env x = pure x := by intro _; rfl) :
    PS X (.Assign [.Name y py] (.ListComp elt [⟨tg, iter, ifs, 0⟩] scope pos) spos) (tAsg (tLc wi g tt te (own.map (·.2))) (gName i)) := by
  intro pins s σ H D I h
  rw [exec_Assign_Name_used _ _ _ _ hsw]
  refine wpAny_bind (wpAny_standAt (wpAny_bind ?_))
  show wpAny _ X.A (do let _ ← comprehension (.ListComp elt [⟨tg, iter, ifs, 0⟩] scope pos) scope X.env (firstIterPos [⟨tg, iter, ifs, 0⟩] pos) (newList []) false (eval iter X.env) (some (assign (.Name y py) X.env))) _ _ s
  have h : tLc wi g tt te (own.map (·.2)) σ H (fun x H1 => gName i x σ H1 D.nx) := h
  refine wpAny_bind (thn (lc_core (Qf := fun _ s' => SP X pins D .next s') hc hN I hi ok hg ht he hs h fun L C s' m H' I' q hn f => ?_) fun _ s' hq => wpAny_pure (wpAny_pure hq))
  show wpAny _ _ (assign (.Name y py) X.env (.ref L)) _ _ _
  refine wpAny_assign_Name (store_ok2 (v := V.ref L) I' hN hy (.inl hyl) rfl (fun s2 I2 ⟨a, sb, ha⟩ => ?_) (.inr hyl))
  obtain ⟨f0, f1, f2, f3, f4, f5⟩ := f
  have haC : C ≠ a := by
    rcases ha with z | z
    · rw [z]; exact f1
    · exact fun e => f4 y a z e.symm
  refine ⟨m, hn.sameBut sb haC, fun h3 sb3 => ?_⟩
  exact ⟨_, H', I2.turned (t' := s2.toks) (fun b o hb e => (sb3.2 b hb).trans e) f0 f1 f3 f4 f5, q⟩
theorem sw_true {elt : Expr} {gs : List Comprehension} {scope : Scope} {pos py : Pos} {y : Str} {l : Nat} {env : Env} (hk : env.scope.kind = .function) (hy : env.scope.names.lookup y = some .local) (hl : (py.line == pos.line) = true)
    (ha : (scope.names.any fun (n, k) => n == y && (k == .local || k == .cell)) = false) : swapsWith (.ListComp elt gs scope pos) (some (.Name y py)) l env = pure true := by
  have ky : env.kindOf y = some .local := hy
  have hb : env.blockKind = .function := by unfold Env.blockKind; rw [hk]; rfl
  unfold swapsWith
  simp only [hb, ky, ha, Expr.pos, hl]
  rfl
end

/-- over a range: Pv by the turn and the heap (the new list at D within) -/
theorem lc_range {lo : Int} {n : Nat} {g : TG} {tt : TT} {te : TE} {vs : List Nat} {σ : St} {H1 : Hp} {D : Addr} {Qd : Hp → Prop} (Pv : Nat → Hp → Prop) (h0 : Pv 0 (upd H1 D (.lst [])))
    (hs : ∀ i H, i < n → Pv i H → g (.int (lo + i)) (wipe σ vs) H fun σ2 H2 => wipe σ2 vs = wipe σ vs ∧ tt σ2 H2 fun b H3 =>
      if b = true then te σ2 H3 fun y H4 => ∃ acc, H4 D = some (.lst acc) ∧ acc.length < sizeLine ∧ Pv (i + 1) (upd H4 D (.lst (acc ++ [y]))) else Pv (i + 1) H3) (hd : ∀ H, Pv n H → Qd H) :
    ∃ W : Nat → Nat → Hp → Prop, (∃ m, W 0 m (upd H1 D (.lst []))) ∧ ∀ i m H, W i m H →
      ((Itr lo n).stop i H ∧ Qd H) ∨ ((Itr lo n).go i H ∧ ∃ Nx : Hp → Prop, (∀ H', Nx H' → ∃ m', m' < m ∧ W (i + 1) m' H') ∧ ∀ x H', (Itr lo n).yld i H x H' → g x (wipe σ vs) H' fun σ2 H2 => wipe σ2 vs = wipe σ vs ∧ tt σ2 H2 fun b H3 =>
        if b = true then te σ2 H3 fun y H4 => ∃ acc, H4 D = some (.lst acc) ∧ acc.length < sizeLine ∧ Nx (upd H4 D (.lst (acc ++ [y]))) else Nx H3) := by
  refine ⟨fun i m H => m = n - i ∧ i ≤ n ∧ Pv i H, ⟨n, by simp, Nat.zero_le _, h0⟩, ?_⟩
  rintro i m H ⟨rfl, hi, p⟩
  by_cases hlt : i < n
  · refine .inr ⟨hlt, Pv (i + 1), fun H' p' => ⟨n - (i + 1), by omega, rfl, hlt, p'⟩, fun x H' y => ?_⟩
    obtain ⟨e, y⟩ := y
    subst e y
    exact hs i _ hlt p
  · have e : i = n := by omega
    subst e
    exact .inl ⟨Nat.le_refl _, hd H p⟩
/-- over a list that the block leaves as it is -/
theorem lc_list {K : PySem.W.Frag} {a : Addr} {xs : List V} {g : TG} {tt : TT} {te : TE} {vs : List Nat} {σ : St} {H1 : Hp} {D : Addr} {Qd : Hp → Prop} (Pv : Nat → Hp → Prop) (h0 : Pv 0 (upd H1 D (.lst []))) (hl : ∀ i H, i ≤ xs.length → Pv i H → SqL K H a xs)
    (hs : ∀ i x H, xs[i]? = some x → Pv i H → g x (wipe σ vs) H fun σ2 H2 => wipe σ2 vs = wipe σ vs ∧ tt σ2 H2 fun b H3 =>
      if b = true then te σ2 H3 fun y H4 => ∃ acc, H4 D = some (.lst acc) ∧ acc.length < sizeLine ∧ Pv (i + 1) (upd H4 D (.lst (acc ++ [y]))) else Pv (i + 1) H3) (hd : ∀ H, Pv xs.length H → Qd H) :
    ∃ W : Nat → Nat → Hp → Prop, (∃ m, W 0 m (upd H1 D (.lst []))) ∧ ∀ i m H, W i m H →
      ((Itl K a).stop i H ∧ Qd H) ∨ ((Itl K a).go i H ∧ ∃ Nx : Hp → Prop, (∀ H', Nx H' → ∃ m', m' < m ∧ W (i + 1) m' H') ∧ ∀ x H', (Itl K a).yld i H x H' → g x (wipe σ vs) H' fun σ2 H2 => wipe σ2 vs = wipe σ vs ∧ tt σ2 H2 fun b H3 =>
        if b = true then te σ2 H3 fun y H4 => ∃ acc, H4 D = some (.lst acc) ∧ acc.length < sizeLine ∧ Nx (upd H4 D (.lst (acc ++ [y]))) else Nx H3) := by
  refine ⟨fun i m H => m = xs.length - i ∧ i ≤ xs.length ∧ Pv i H, ⟨xs.length, by simp, Nat.zero_le _, h0⟩, ?_⟩
  rintro i m H ⟨rfl, hi, p⟩
  have q := hl i H hi p
  by_cases hlt : i < xs.length
  · refine .inr ⟨⟨xs, xs[i], q, by simp [hlt]⟩, Pv (i + 1), fun H' p' => ⟨xs.length - (i + 1), by omega, rfl, hlt, p'⟩, fun x H' y => ?_⟩
    obtain ⟨e, y⟩ := y
    subst e
    exact hs i x _ (y xs q) p
  · have e : i = xs.length := by omega
    subst e
    exact .inl ⟨⟨xs, q, Nat.le_refl _⟩, hd H p⟩
def blkC (N : List Str) (sc scope : Scope) (own : List (Str × Nat)) : Bool :=
  (match scope.kind with | .function => true | _ => false) && (scope.names.all fun y => decide (scope.names.lookup y.1 = some y.2)) && (own.all fun p => decide (N[p.2]? = some p.1)) &&
    (scope.names.all fun y => match y.2 with
      | .free => (match sc.names.lookup y.1 with | some .cell => true | some .free => true | _ => false)
      | .local => decide (y.1 ∈ own.map (·.1)) || decide (y.1 ∉ N)
      | .cell => decide (y.1 ∈ own.map (·.1)) || decide (y.1 ∉ N)
      | _ => true)
theorem blkOk_by {N : List Str} {sc scope : Scope} {own : List (Str × Nat)} (h : blkC N sc scope own = true) : BlkOk N sc scope own := by
  unfold blkC at h
  simp only [Bool.and_eq_true, List.all_eq_true, decide_eq_true_eq] at h
  obtain ⟨⟨⟨h1, h2⟩, h3⟩, h4⟩ := h
  refine ⟨?_, h2, h3, fun y hy e => ?_, fun y hy e => ?_⟩
  · split at h1
    · assumption
    · cases h1
  · have q := h4 y hy
    simp only [e] at q
    split at q <;> first | exact .inl (by assumption) | exact .inr (by assumption) | cases q
  · have q := h4 y hy
    rcases e with e | e <;> (simp only [e, Bool.or_eq_true, decide_eq_true_eq] at q; exact q)
end L2

namespace L2
open PySem PySem.Spec PyProof.Rows

section
variable {prog : Program} {w : World} {A : Around} {R : Result → Shared → Prop} {s : Shared} {elt t0 i0 t1 i1 : Expr} {ifs0 ifs1 : List Expr} {scope : Scope} {pos : Pos} {it acc : Value} {env : Env}
end

section
variable {X : Cx}
end
end L2

namespace L2
open PySem PySem.Spec PyProof.Rows

section
variable {κ : Type} [DecidableEq κ]
theorem KV.length {kvs : List (κ × V)} {vs : List (κ × Value)} (r : KV kvs vs) : kvs.length = vs.length := Paired.length r
end


section
variable {P : Program} {w : World} {H : Hp} {h : Heap} {a : Addr}
end

section
variable {X : Cx} {pins : List (Addr × Obj)} {σ : St} {H : Hp} {s : Shared} {a : Addr} {y v : V} {u r : Value} {o : Option V} {A : Around} {E : Value → Shared → Prop}

end

section
variable {X : Cx} {pins : List (Addr × Obj)} {σ : St} {H : Hp} {s : Shared} {a : Addr} {kvs : List (Key × V)} {k : Key} {u : Value} {A : Around} {E : Value → Shared → Prop}
end


section
variable {X : Cx} {o i e value : Expr} {pos pos' tpos : Pos} {td ty tv : TE}
end


section
variable {X : Cx} {pos : Pos}
end

/-- a method call o.m(e) of a built-in, with one argument: what must be seen of the text -/
structure M1 (X : Cx) (o : Expr) (m : Str) (apos : Pos) (e : Expr) (cpos : Pos) : Prop where
  base : attributeBase o m X.env (eval o X.env) = eval o X.env
  few : ((backTo cpos (starEach [e] X.env)).all (fun x => !x.1) && (backToKw cpos (keywordEach [] X.env)).all (fun x => x.1.isSome)
    && decide (([e] : List Expr).length + ([] : List Keyword).length + (if ([] : List Keyword).isEmpty then 0 else 1) < 30)) = true
  line : (apos.endLine == cpos.line) = true
  trees : backTo cpos (starEach [e] X.env) = [(false, eval e X.env)]
structure M2 (X : Cx) (o : Expr) (m : Str) (apos : Pos) (e f : Expr) (cpos : Pos) : Prop where
  base : attributeBase o m X.env (eval o X.env) = eval o X.env
  few : ((backTo cpos (starEach [e, f] X.env)).all (fun x => !x.1) && (backToKw cpos (keywordEach [] X.env)).all (fun x => x.1.isSome)
    && decide (([e, f] : List Expr).length + ([] : List Keyword).length + (if ([] : List Keyword).isEmpty then 0 else 1) < 30)) = true
  line : (apos.endLine == cpos.line) = true
  trees : backTo cpos (starEach [e, f] X.env) = [(false, eval e X.env), (false, eval f X.env)]

section
variable {X : Cx} {pins : List (Addr × Obj)} {σ : St} {H : Hp} {s : Shared} {a : Addr} {y d : V} {u r : Value} {o : Option V} {A : Around} {E : Value → Shared → Prop}
end

section
variable {X : Cx} {o e f : Expr} {apos cpos : Pos} {td ty tx : TE}
end

section
variable {X : Cx} {pins : List (Addr × Obj)} {σ : St} {H : Hp} {s : Shared} {a : Addr} {kvs : List (Key × V)} {A : Around} {E : Value → Shared → Prop}
end


section
variable {X : Cx} {pins : List (Addr × Obj)} {σ : St} {H : Hp} {s : Shared} {a : Addr} {y : V} {u : Value} {A : Around} {E : Value → Shared → Prop}
end
end L2

namespace L2
open PySem PySem.Spec PyProof.Rows

section
variable {prog : Program} {w : World} {A : Around} {E : Value → Shared → Prop}
end

section
variable {X : Cx}
end
end L2

namespace L2
open PySem PySem.Spec PyProof.Rows

section
variable {X : Cx} {pins : List (Addr × Obj)} {σ : St} {H : Hp} {s : Shared} {h' : Heap}
/-- several records of ours have turned -/
theorem Inv.turnedL {t' : Nat} {ch : List Addr} (I : Inv X pins σ H s) (k : ∀ b o, b ∉ ch → s.heap.get? b = some o → h'.get? b = some o) (hf : ∀ b ∈ ch, FpOk X pins H b) : Inv X pins σ H { s with heap := h', toks := t' } := by
  have nit : ∀ b u, H b = some u → b ∉ ch := fun b u e z => by
    have q := (hf b z).1
    rw [q] at e; cases e
  refine I.step (g' := s.gens) (d' := s.drawn) (ch := ch) (fun b hb => ⟨(hf b hb).2.2.2.1, (hf b hb).2.1, (hf b hb).2.2.2.2.1, (hf b hb).2.2.2.2.2⟩) (fun b o _ _ hc e _ => k b o hc e) (fun b o _ _ hc e _ => ⟨o.slots, k b o hc e⟩)
    (fun _ _ _ _ n => n) (fun b o hc e => ⟨o, k b o hc e⟩) (fun _ _ e => e) (fun _ _ _ e => e) (fun b ps e => ⟨#[], by rw [e]; simp⟩) (fun m hm => ?_) (fun b u e => ?_) I.bare
  · obtain ⟨o, es, ep, ho, r⟩ := hm
    exact ⟨o, es, ep, k _ o (fun z => (hf _ z).2.1 rfl) ho, r⟩
  · refine (I.hok b u e).stay (fun c v hc q => k c v ?_ q) (fun _ q => q) fun _ _ q => q
    rcases hc with z | z
    · rw [z]; exact nit b u e
    · exact nit c _ z
/-- .. and one new object is laid -/
theorem Inv.turnedNew {t' : Nat} {ch : List Addr} {T : Addr} {ob : HO} (I : Inv X pins σ H s) (k : ∀ b o, b ∉ ch → s.heap.get? b = some o → h'.get? b = some o) (hf : ∀ b ∈ ch, FpOk X pins H b) (hT : s.heap.objs.size ≤ T)
    (new : ObjOk X.prog X.w (upd H T ob) h' T ob) : Inv X pins σ (upd H T ob) { s with heap := h', toks := t' } := by
  have hn : H T = none := I.hok.fresh hT
  have nit : ∀ b u, H b = some u → b ∉ ch := fun b u e z => by
    have q := (hf b z).1
    rw [q] at e; cases e
  refine I.step (g' := s.gens) (d' := s.drawn) (ch := ch) (fun b hb => ⟨(hf b hb).2.2.2.1, (hf b hb).2.1, (hf b hb).2.2.2.2.1, (hf b hb).2.2.2.2.2⟩) (fun b o _ _ hc e _ => k b o hc e) (fun b o _ _ hc e _ => ⟨o.slots, k b o hc e⟩)
    (fun b o _ e n => ?_) (fun b o hc e => ⟨o, k b o hc e⟩) (fun b xs e => ?_) (fun b o u e => ?_) (fun b ps e => ⟨#[], ?_⟩) (fun m hm => ?_) (fun b u e => ?_) I.bare
  · rw [upd_ne (Nat.ne_of_lt (Nat.lt_of_lt_of_le (Heap.lt_size e) hT))]; exact n
  · rw [upd_ne (ne_of_none e hn)]; exact e
  · rw [upd_ne (ne_of_none e hn)]; exact e
  · rw [upd_ne (ne_of_none e hn), e]; simp
  · obtain ⟨o, es, ep, ho, r⟩ := hm
    exact ⟨o, es, ep, k _ o (fun z => (hf _ z).2.1 rfl) ho, r⟩
  · by_cases hb : b = T
    · subst hb
      rw [upd_same] at e
      cases e
      exact new
    · rw [upd_ne hb] at e
      refine (I.hok b u e).stay (fun c v hc q => k c v ?_ q) (fun c q => by rw [upd_ne (ne_of_none q hn)]; exact q) fun c xs q => by rw [upd_ne (ne_of_none q hn)]; exact q
      rcases hc with z | z
      · rw [z]; exact nit b u e
      · exact nit c _ z

end
section
variable {X : Cx}
theorem pi_one {tg : Expr} {pins : List (Addr × Obj)} {σ : St} {H : Hp} {s : Shared} {R : It → Hp → Prop} {J : It} {tn : Nat → Heap → Prop} {tk : Nat} (I : Inv X pins σ H s) (o : Obj)
    (T : Turn X.prog X.w X.K tg J [s.heap.objs.size] s.heap.objs.size tn) (st : tn 0 (s.heap.push o)) (q : R J H) : PIE X pins σ tg R (.ref s.heap.objs.size) { s with heap := s.heap.push o, toks := tk } := by
  refine ⟨s.heap.objs.size, [s.heap.objs.size], tn, J, H, rfl, I.kept fun b ob e => Heap.get?_push_of_some _ e, T, st, fun b hb => ?_, q⟩
  have e : b = s.heap.objs.size := by simpa using hb
  subst e
  exact I.fpOk (Nat.le_refl _) (I.hok.fresh (Nat.le_refl _))
end

/-- lo, lo + c, .. (n of them) -/
def Itc (lo c : Int) (n : Nat) : It := ⟨fun i _ => i < n, fun i H x H' => H' = H ∧ x = .int (lo + (i : Nat) * c), fun i _ => n ≤ i⟩
theorem turn_rangeC {P : Program} {w : World} {K : PySem.W.Frag} {tg : Expr} (it : Addr) (lo c : Int) (n : Nat) : Turn P w K tg (Itc lo c n) [it] it (fun i h => IsRangeIter h it (lo + (i : Nat) * c) ((n : Int) - (i : Nat)) c) where
  mem := by simp
  obj := fun i h st b hb => by
    have e : b = it := by simpa using hb
    subst e
    exact ⟨_, st, fun v z => nomatch z⟩
  keep := fun i h h' st k => k it (by simp) _ st
  item := by
    intro X hP hw hK hc i pins s σ H E I hf st hg
    subst hP hw hK
    obtain ⟨f0, f1, f2, f3, f4, f5⟩ := hf it (by simp)
    have W := Walks.range (prog := X.prog) (w := X.w) (I.ok.hd hc) it lo c n
    refine W.item i s _ _ hg st fun v h' tk hv st' kk => ?_
    obtain ⟨t, rfl⟩ := hv
    have I1 : Inv X pins σ H { s with heap := h', toks := tk } := I.turned (fun b o hb e => kk b o (by simpa using hb) e) f0 f1 f3 f4 f5
    exact ⟨_, rfl, go_of (s := { s with heap := h', toks := tk }) (n := "range_iterator") st' rfl rfl (by decide) ⟨.int (lo + (i : Nat) * c), H, I1, ⟨t, rfl⟩, ⟨rfl, rfl⟩, st', fun b hb => (hf b hb).1⟩⟩
  done := by
    intro X hP hw hK hc i pins s σ H E I hf st hg
    subst hP hw hK
    obtain ⟨f0, f1, f2, f3, f4, f5⟩ := hf it (by simp)
    exact wpAny_pyNext_range_end (I.ok.hd hc) st (by have : n ≤ i := hg; omega) fun h' eb => ⟨rfl, I.turned (t' := s.toks) (fun b o hb e => eb b o hb e) f0 f1 f3 f4 f5⟩
  self := fun A i s Q E st h => wpAny_pyIter_rangeiter st h
/-- range(i, j, c): small bounds, n items -/
def RgC (i j c : Int) (n : Nat) : Prop := c ≠ 0 ∧ c.natAbs < 1073741824 ∧ Builtin.Range.small i j c = true ∧ Builtin.Range.rangeSize i j c = n
def iRng3 (ta : TA) : TI := fun σ H R => ta σ H fun vs H1 => ∃ (i j c : Int) (n : Nat), vs = [.int i, .int j, .int c] ∧ RgC i j c n ∧ R (Itc i c n) H1
section
variable {X : Cx} {tg : Expr}
theorem pi_range3 {a b c : Expr} {ta : TA} {p pos : Pos} (hg : Gl X "range") (hm : X.mg "range" = none) (ha : PA X [a, b, c] ta)
    (hs : starEach [a, b, c] X.env = (false, eval a X.env) :: starEach [b, c] X.env := by rfl) (hpl : (backTo pos (starEach [b, c] X.env)).any (·.1) = false := by rfl) :
    PI X tg (.Call (.Name "range" p) [a, b, c] [] pos) (iRng3 ta) := by
  intro pins s σ H R I h
  refine Call_ (ld_blt I hg hm boot_range (PyProof.Rows.callWith_type1 (thn (ha pos pins s σ H _ I h) fun us s1 ⟨vs, H1, I1, r1, q1⟩ => ?_) hs hpl))
  obtain ⟨i, j, k, n, e, ⟨c0, c1, c2, c3⟩, q⟩ := q1
  subst e
  cases r1 with
  | cons r rr =>
    cases rr with
    | cons r' rr =>
      cases rr with
      | cons r'' rr =>
        cases rr
        obtain ⟨t, rfl⟩ := r
        obtain ⟨t', rfl⟩ := r'
        obtain ⟨t'', rfl⟩ := r''
        refine call_range_3 c0 ?_ (.inl (PyProof.noPylong_small c1))
        refine wpAny_pyIter_range (IsRange.new ..) c2 ?_
        have I2 : Inv X pins σ H1 { s1 with heap := s1.heap.push { cls := .type "range", data := .fields #[.int i t, .int j t', .int k t''] } } := I1.kept (t' := s1.toks) fun b o e => Heap.get?_push_of_some _ e
        refine pi_one (tk := s1.toks) I2 _ (turn_rangeC _ i k n) ?_ q
        have e1 : i + ((0 : Nat) : Int) * k = i := by simp
        have e2 : (n : Int) - ((0 : Nat) : Int) = Builtin.Range.rangeSize i j k := by rw [c3]; simp
        show IsRangeIter _ _ (i + ((0 : Nat) : Int) * k) ((n : Int) - ((0 : Nat) : Int)) k
        rw [e1, e2]
        exact Heap.get?_push_size _ rfl
end
/-- the turns of a step range, for the for loop -/
theorem for_rangeC {lo c : Int} {n : Nat} {g : TG} {tb : TS} {D : Ends} {σ : St} {H : Hp} (Pv : Nat → St → Hp → Prop) (h0 : Pv 0 σ H)
    (hs : ∀ i σ H, i < n → Pv i σ H → g (.int (lo + (i : Nat) * c)) σ H fun σ2 H2 => tb { D with nx := Pv (i + 1), ct := Pv (i + 1), bk := D.nx } σ2 H2) (hd : ∀ σ H, Pv n σ H → D.nx σ H) :
    ∃ W : Nat → Nat → St → Hp → Prop, (∃ m, W 0 m σ H) ∧ ∀ i m σ H, W i m σ H →
      ((Itc lo c n).stop i H ∧ D.nx σ H) ∨ ((Itc lo c n).go i H ∧ ∃ N : St → Hp → Prop, (∀ σ' H', N σ' H' → ∃ m', m' < m ∧ W (i + 1) m' σ' H') ∧ ∀ x H', (Itc lo c n).yld i H x H' → g x σ H' fun σ2 H2 => tb { D with nx := N, ct := N, bk := D.nx } σ2 H2) := by
  refine ⟨fun i m σ H => m = n - i ∧ i ≤ n ∧ Pv i σ H, ⟨n, by simp, Nat.zero_le _, h0⟩, ?_⟩
  rintro i m σ H ⟨rfl, hi, p⟩
  by_cases hlt : i < n
  · refine .inr ⟨hlt, Pv (i + 1), fun σ' H' p' => ⟨n - (i + 1), by omega, rfl, hlt, p'⟩, fun x H' y => ?_⟩
    obtain ⟨e, y⟩ := y
    subst e y
    exact hs i σ _ hlt p
  · have e : i = n := by omega
    subst e
    exact .inl ⟨Nat.le_refl _, hd σ H p⟩

section
variable {X : Cx} {tg : Expr}
end

section
variable {prog : Program} {w : World} {A : Around} {E : Value → Shared → Prop} {s : Shared}
end

section
variable {X : Cx} {pins : List (Addr × Obj)} {σ : St} {H : Hp} {s : Shared} {d : Addr} {o : Obj}
end

section
variable {P : Program} {w : World} {K : PySem.W.Frag} {tg : Expr} {d : Addr} {o : Obj} {es : Array DictEntry} {ep : Nat}
end

section
variable {X : Cx} {tg e : Expr} {td : TE} {apos cpos : Pos}
end

/-- the list at a as it stands at each turn, each item in a new pair -/
def Ite (K : PySem.W.Frag) (a : Addr) : It :=
  ⟨fun i H => ∃ (xs : List V) (x : V), SqL K H a xs ∧ xs[i]? = some x, fun i H v H' => ∃ T x, v = .ref T ∧ H T = none ∧ H' = upd H T (.tup [.int (i : Nat), x]) ∧ ∀ xs, SqL K H a xs → xs[i]? = some x, fun i H => ∃ xs : List V, SqL K H a xs ∧ xs.length ≤ i⟩
theorem turn_enum {P : Program} {w : World} {K : PySem.W.Frag} {elts : List Expr} {kk : Nat} {tpos : Pos} (a e it : Addr) :
    Turn P w K (.Tuple elts kk tpos) (Ite K a) [e, it] e (fun i h => (∃ old, IsEnum h e it ((i : Nat) : Int) old) ∧ h.IsListIter it a i ∧ e ≠ it) where
  mem := by simp
  obj := fun i h st b hb => by
    obtain ⟨⟨old, he⟩, ⟨o, ho, hc, hd⟩, _⟩ := st
    have e' : b = e ∨ b = it := by simpa using hb
    rcases e' with z | z
    · rw [z]; exact ⟨_, he, fun v q => nomatch q⟩
    · rw [z]; exact ⟨o, ho, fun v q => by rw [hd] at q; cases q⟩
  keep := fun i h h' st k => let ⟨⟨old, he⟩, hi, hne⟩ := st; ⟨⟨old, k e (by simp) _ he⟩, hi.at fun o q => k it (by simp) o q, hne⟩
  item := by
    intro X hP hw hK hc i pins s σ H E I hf st hg
    subst hP hw hK
    obtain ⟨⟨old, he⟩, hit, hne⟩ := st
    obtain ⟨xs, x, hq, hx⟩ := hg
    obtain ⟨its, rv, p, hz⟩ := I.list hq
    obtain ⟨u, hu, ru⟩ := rv.get hx
    have hel : e < s.heap.objs.size := Heap.lt_size he
    have hil : it < s.heap.objs.size := by obtain ⟨_, q, _⟩ := hit; exact Heap.lt_size q
    refine wpAny_pyNext_enum_item he hit p.isList (x := u) (by simpa using hu) hne fun h' ho hit' hT hsz hk => ?_
    refine ⟨_, rfl, wpAny_letOwnedTupleGo_enum (s := { s with heap := h', toks := s.toks + 1 }) ho fun h'' he' sb => ?_⟩
    have hT2 : h''.get? s.heap.objs.size = some { cls := .type "tuple", data := .seq #[.int i s.toks, u] } := (sb.2 _ (Nat.ne_of_gt hel)).trans hT
    have new : ObjOk X.prog X.w (upd H s.heap.objs.size (.tup [.int (i : Nat), x])) h'' s.heap.objs.size (.tup [.int (i : Nat), x]) :=
      ⟨by show 2 ≤ sizeLine; decide, [.int i s.toks, u], .cons ⟨_, rfl⟩ (.cons ru .nil), ⟨_, hT2, rfl, _, rfl⟩⟩
    have I1 : Inv X pins σ (upd H s.heap.objs.size (.tup [.int (i : Nat), x])) { s with heap := h'', toks := s.toks + 1 } :=
      I.turnedNew (ch := [e, it]) (fun b ob hb q => (sb.2 b (fun z => hb (by simp [z]))).trans (hk b ob (fun z => hb (by simp [z])) (fun z => hb (by simp [z])) q)) hf (Nat.le_refl _) new
    refine ⟨.ref s.heap.objs.size, _, I1, rfl, ⟨_, x, rfl, I.hok.fresh (Nat.le_refl _), rfl, fun ys hy => by rw [I.list_inj hy hq]; exact hx⟩, ⟨⟨u, ?_⟩, hit'.at fun o q => (sb.2 it (Ne.symm hne)).trans q, hne⟩, fun b hb => ?_⟩
    · have e1 : ((i + 1 : Nat) : Int) = (i : Int) + 1 := by omega
      rw [e1]; exact he'
    · have hb' : b < s.heap.objs.size := by
        have e' : b = e ∨ b = it := by simpa using hb
        rcases e' with z | z
        · rw [z]; exact hel
        · rw [z]; exact hil
      rw [upd_ne (Nat.ne_of_lt hb')]
      exact (hf b hb).1
  done := by
    intro X hP hw hK hc i pins s σ H E I hf st hg
    subst hP hw hK
    obtain ⟨⟨old, he⟩, hit, hne⟩ := st
    obtain ⟨xs, hq, hx⟩ := hg
    obtain ⟨its, rv, p, hz⟩ := I.list hq
    obtain ⟨f0, f1, f2, f3, f4, f5⟩ := hf it (by simp)
    have hl := rv.length
    exact wpAny_pyNext_enum_end (I.ok.hd hc) he hit p.isList (by simp; omega) fun h' eb => ⟨rfl, I.turned (t' := s.toks) (fun b o hb q => eb b o hb q) f0 f1 f3 f4 f5⟩
  self := fun A i s Q E st h => let ⟨⟨_, he⟩, _⟩ := st; wpAny_pyIter_enum he h
def iEnum (K : PySem.W.Frag) (ta : TA) : TI := fun σ H R => ta σ H fun vs H1 => ∃ a xs, vs = [.ref a] ∧ SqL K H1 a xs ∧ R (Ite K a) H1
theorem pi_enum {X : Cx} {e : Expr} {ta : TA} {p pos tpos : Pos} {elts : List Expr} {kk : Nat} (hg : Gl X "enumerate") (hm : X.mg "enumerate" = none) (ha : PA X [e] ta) (hs : starEach [e] X.env = [(false, eval e X.env)] := by rfl) :
    PI X (.Tuple elts kk tpos) (.Call (.Name "enumerate" p) [e] [] pos) (iEnum X.K ta) := by
  intro pins s σ H R I h
  refine Call_ (ld_blt I hg hm boot_enumerate (PyProof.Rows.callWith_type1 (thn (ha pos pins s σ H _ I h) fun us s1 ⟨vs, H1, I1, r1, q1⟩ => ?_) hs rfl))
  obtain ⟨a, xs, ex, hq, q⟩ := q1
  subst ex
  cases r1 with
  | cons r rr =>
    cases rr
    cases r
    obtain ⟨its, rv, p', hz⟩ := I1.list hq
    refine call_enumerate_list p'.isList fun h' he hit hsz hk => wpAny_pyIter_enum he ?_
    have I2 : Inv X pins σ H1 { s1 with heap := h' } := I1.kept (t' := s1.toks) hk
    refine ⟨s1.heap.objs.size + 1, [s1.heap.objs.size + 1, s1.heap.objs.size], _, _, H1, rfl, I2, turn_enum a (s1.heap.objs.size + 1) s1.heap.objs.size, ⟨⟨.none, he⟩, hit, Nat.succ_ne_self _⟩, fun b hb => ?_, q⟩
    have e' : b = s1.heap.objs.size + 1 ∨ b = s1.heap.objs.size := by simpa using hb
    have hle : s1.heap.objs.size ≤ b := by
      rcases e' with z | z
      · rw [z]; exact Nat.le_add_right _ _
      · rw [z]; exact Nat.le_refl _
    exact I1.fpOk hle (I1.hok.fresh hle)
theorem boot_zip5 : bootBuiltins "zip" = some (.type "zip") := by decide +kernel
/-- the lists at a and b as they stand at each turn, the items in new pairs -/
def Itz (K : PySem.W.Frag) (a b : Addr) : It :=
  ⟨fun i H => ∃ (xs ys : List V) (x y : V), SqL K H a xs ∧ SqL K H b ys ∧ xs[i]? = some x ∧ ys[i]? = some y,
    fun i H v H' => ∃ T x y, v = .ref T ∧ H T = none ∧ H' = upd H T (.tup [x, y]) ∧ (∀ xs, SqL K H a xs → xs[i]? = some x) ∧ ∀ ys, SqL K H b ys → ys[i]? = some y,
    fun i H => ∃ xs ys : List V, SqL K H a xs ∧ SqL K H b ys ∧ (xs.length ≤ i ∨ ys.length ≤ i)⟩
theorem turn_zip {P : Program} {w : World} {K : PySem.W.Frag} {elts : List Expr} {kk : Nat} {tpos : Pos} {a b z TI TO i1 i2 : Addr} (D : ZipApart z TI TO i1 i2 a b) :
    Turn P w K (.Tuple elts kk tpos) (Itz K a b) [z, TI, TO, i1, i2] z (fun i h => IsZip h z TI TO .none ∧ IsPair h TI (.ref i1) (.ref i2) ∧ (∃ x y, IsPair h TO x y) ∧ h.IsListIter i1 a i ∧ h.IsListIter i2 b i) where
  mem := by simp
  obj := fun i h st c hc => by
    obtain ⟨hz, hTI, ⟨x, y, hTO⟩, ⟨o1, e1, _, d1⟩, ⟨o2, e2, _, d2⟩⟩ := st
    have e' : c = z ∨ c = TI ∨ c = TO ∨ c = i1 ∨ c = i2 := by simpa using hc
    rcases e' with q | q | q | q | q
    · rw [q]; exact ⟨_, hz, fun v q => nomatch q⟩
    · rw [q]; exact ⟨_, hTI, fun v q => nomatch q⟩
    · rw [q]; exact ⟨_, hTO, fun v q => nomatch q⟩
    · rw [q]; exact ⟨o1, e1, fun v q => by rw [d1] at q; cases q⟩
    · rw [q]; exact ⟨o2, e2, fun v q => by rw [d2] at q; cases q⟩
  keep := fun i h h' st k => by
    obtain ⟨hz, hTI, ⟨x, y, hTO⟩, h1, h2⟩ := st
    exact ⟨k z (by simp) _ hz, k TI (by simp) _ hTI, ⟨x, y, k TO (by simp) _ hTO⟩, h1.at fun o q => k i1 (by simp) o q, h2.at fun o q => k i2 (by simp) o q⟩
  item := by
    intro X hP hw hK hc i pins s σ H E I hf st hg
    subst hP hw hK
    obtain ⟨hz, hTI, ⟨x0, y0, hTO⟩, h1, h2⟩ := st
    obtain ⟨xs, ys, x, y, hqx, hqy, hx, hy⟩ := hg
    obtain ⟨its, rv, p, _⟩ := I.list hqx
    obtain ⟨its2, rv2, p2, _⟩ := I.list hqy
    obtain ⟨u, hu, ru⟩ := rv.get hx
    obtain ⟨u2, hu2, ru2⟩ := rv2.get hy
    have hzl : z < s.heap.objs.size := Heap.lt_size hz
    refine wpAny_pyNext_zip_item D hz hTI hTO h1 h2 p.isList p2.isList (x := u) (y := u2) (by simpa using hu) (by simpa using hu2) fun h' z' TO' h1' h2' hT hsz hk => ?_
    refine ⟨_, rfl, wpAny_letOwnedTupleGo_zip (s := { s with heap := h' }) z' fun h'' z'' sb => ?_⟩
    have hT2 : h''.get? s.heap.objs.size = some { cls := .type "tuple", data := .seq #[u, u2] } := (sb.2 _ (Nat.ne_of_gt hzl)).trans hT
    have new : ObjOk X.prog X.w (upd H s.heap.objs.size (.tup [x, y])) h'' s.heap.objs.size (.tup [x, y]) :=
      ⟨by show 2 ≤ sizeLine; decide, [u, u2], .cons ru (.cons ru2 .nil), ⟨_, hT2, rfl, _, rfl⟩⟩
    have I1 : Inv X pins σ (upd H s.heap.objs.size (.tup [x, y])) { s with heap := h'' } :=
      I.turnedNew (t' := s.toks) (ch := [z, TI, TO, i1, i2]) (fun c o hb q => (sb.2 c (fun q' => hb (by simp [q']))).trans (hk c o (fun q' => hb (by simp [q'])) (fun q' => hb (by simp [q'])) (fun q' => hb (by simp [q'])) (fun q' => hb (by simp [q'])) q)) hf (Nat.le_refl _) new
    refine ⟨.ref s.heap.objs.size, _, I1, rfl, ⟨_, x, y, rfl, I.hok.fresh (Nat.le_refl _), rfl, fun l hl => by rw [I.list_inj hl hqx]; exact hx, fun l hl => by rw [I.list_inj hl hqy]; exact hy⟩, ⟨z'', ?_, ⟨u, u2, ?_⟩, ?_, ?_⟩, fun c hcm => ?_⟩
    · exact (sb.2 _ D.TIz).trans (hk _ _ D.TIz D.TITO D.TIi1 D.TIi2 hTI)
    · exact (sb.2 _ D.TOz).trans TO'
    · exact h1'.at fun o q => (sb.2 _ D.i1z).trans q
    · exact h2'.at fun o q => (sb.2 _ D.i2z).trans q
    · have hlt : c < s.heap.objs.size := by
        have e' : c = z ∨ c = TI ∨ c = TO ∨ c = i1 ∨ c = i2 := by simpa using hcm
        rcases e' with q | q | q | q | q
        · rw [q]; exact hzl
        · rw [q]; exact Heap.lt_size hTI
        · rw [q]; exact Heap.lt_size hTO
        · rw [q]; obtain ⟨_, e1, _⟩ := h1; exact Heap.lt_size e1
        · rw [q]; obtain ⟨_, e2, _⟩ := h2; exact Heap.lt_size e2
      rw [upd_ne (Nat.ne_of_lt hlt)]
      exact (hf c hcm).1
  done := by
    intro X hP hw hK hc i pins s σ H E I hf st hg
    subst hP hw hK
    obtain ⟨hz, hTI, ⟨x0, y0, hTO⟩, h1, h2⟩ := st
    obtain ⟨xs, ys, hqx, hqy, hend⟩ := hg
    obtain ⟨its, rv, p, _⟩ := I.list hqx
    obtain ⟨its2, rv2, p2, _⟩ := I.list hqy
    have l1 := rv.length
    have l2 := rv2.length
    have he : its.toArray[i]? = none ∨ its2.toArray[i]? = none := by
      rcases hend with q | q
      · exact .inl (by simp; omega)
      · exact .inr (by simp; omega)
    exact wpAny_pyNext_zip_end (I.ok.hd hc) D hz hTI hTO h1 h2 p.isList p2.isList he fun h' hk => ⟨rfl, I.turnedL (t' := s.toks) (ch := [z, TI, TO, i1, i2]) (fun c o hb q =>
      hk c o (fun q' => hb (by simp [q'])) (fun q' => hb (by simp [q'])) (fun q' => hb (by simp [q'])) (fun q' => hb (by simp [q'])) q) hf⟩
  self := fun A i s Q E st h => wpAny_pyIter_zip st.1 h
def iZip (K : PySem.W.Frag) (ta : TA) : TI := fun σ H R => ta σ H fun vs H1 => ∃ a b xs ys, vs = [.ref a, .ref b] ∧ SqL K H1 a xs ∧ SqL K H1 b ys ∧ R (Itz K a b) H1
theorem pi_zip {X : Cx} {e e2 : Expr} {ta : TA} {p pos tpos : Pos} {elts : List Expr} {kk : Nat} (hg : Gl X "zip") (hm : X.mg "zip" = none) (ha : PA X [e, e2] ta)
    (hs : starEach [e, e2] X.env = (false, eval e X.env) :: starEach [e2] X.env := by rfl) (hpl : (backTo pos (starEach [e2] X.env)).any (·.1) = false := by rfl) :
    PI X (.Tuple elts kk tpos) (.Call (.Name "zip" p) [e, e2] [] pos) (iZip X.K ta) := by
  intro pins s σ H R I h
  refine Call_ (ld_blt I hg hm boot_zip5 (PyProof.Rows.callWith_type1 (thn (ha pos pins s σ H _ I h) fun us s1 ⟨vs, H1, I1, r1, q1⟩ => ?_) hs hpl))
  obtain ⟨a, b, xs, ys, ex, hqx, hqy, q⟩ := q1
  subst ex
  cases r1 with
  | cons r rr =>
    cases rr with
    | cons r' rr =>
      cases rr
      cases r
      cases r'
      obtain ⟨its, rv, p1, _⟩ := I1.list hqx
      obtain ⟨its2, rv2, p2, _⟩ := I1.list hqy
      have la : a < s1.heap.objs.size := p1.lt
      have lb : b < s1.heap.objs.size := p2.lt
      refine call_zip_2 p1.isList p2.isList fun h' hz hTI hTO h1 h2 hsz hk => wpAny_pyIter_zip hz ?_
      have I2 : Inv X pins σ H1 { s1 with heap := h' } := I1.kept (t' := s1.toks) hk
      refine ⟨s1.heap.objs.size + 4, [s1.heap.objs.size + 4, s1.heap.objs.size + 2, s1.heap.objs.size + 3, s1.heap.objs.size, s1.heap.objs.size + 1], _, _, H1, rfl, I2, turn_zip (PySem.W.ktu_apart s1.heap.objs.size a b la lb), ⟨hz, hTI, ⟨_, _, hTO⟩, h1, h2⟩, fun c hcm => ?_, q⟩
      have e' : c = s1.heap.objs.size + 4 ∨ c = s1.heap.objs.size + 2 ∨ c = s1.heap.objs.size + 3 ∨ c = s1.heap.objs.size ∨ c = s1.heap.objs.size + 1 := by simpa using hcm
      have hle : s1.heap.objs.size ≤ c := by
        rcases e' with z | z | z | z | z
        · rw [z]; exact Nat.le_add_right _ _
        · rw [z]; exact Nat.le_add_right _ _
        · rw [z]; exact Nat.le_add_right _ _
        · rw [z]; exact Nat.le_refl _
        · rw [z]; exact Nat.le_add_right _ _
      exact I1.fpOk hle (I1.hok.fresh hle)
end L2

section 
namespace Bits
open PySem PyProof.Rows

theorem nat_and_mul_pow (k : Nat) : ∀ a b : Nat, a < 2 ^ k → a &&& (b * 2 ^ k) = 0 := by
  induction k with
  | zero =>
    intro a b h
    have h0 : a = 0 := by
      rw [Nat.pow_zero] at h
      omega
    subst h0
    simp
  | succ k ih =>
    intro a b h
    have hm : (b * 2 ^ (k + 1)) = (b * 2 ^ k) * 2 := by rw [Nat.pow_succ, Nat.mul_assoc]
    have hlt : a / 2 < 2 ^ k := by
      rw [Nat.pow_succ] at h
      generalize 2 ^ k = m at h ⊢
      omega
    have i := ih (a / 2) b hlt
    rw [hm]
    generalize b * 2 ^ k = B at i ⊢
    have e : (a &&& (B * 2)) / 2 = a / 2 &&& (B * 2) / 2 := Nat.and_div_two
    have e2 : (B * 2) / 2 = B := by omega
    have o := @Nat.and_mod_two_eq_one a (B * 2)
    rw [e2, i] at e
    omega

theorem natCast_mul_pow (m k : Nat) : (m : Int) * 2 ^ k = ((m * 2 ^ k : Nat) : Int) := by
  rw [two_pow_cast]
  first
    | exact (Int.natCast_mul _ _).symm
    | simp

/-- low bits a, high part b: (b << k) | a -/
theorem bitOr_join {a b : Int} {k : Nat} (h0 : 0 ≤ a) (h1 : a < 2 ^ k) (hb : 0 ≤ b) : Builtin.bitOr a (b * 2 ^ k) = a + b * 2 ^ k := by
  obtain ⟨n, rfl⟩ := Int.eq_ofNat_of_zero_le h0
  obtain ⟨m, rfl⟩ := Int.eq_ofNat_of_zero_le hb
  have hn : n < 2 ^ k := by
    rw [two_pow_cast] at h1
    omega
  have e : Builtin.bitAnd (n : Int) ((m * 2 ^ k : Nat) : Int) = 0 := by
    rw [bitAnd_pp (by omega) (by omega), Int.toNat_natCast, Int.toNat_natCast, nat_and_mul_pow k n m hn] <;> rfl
  rw [natCast_mul_pow, bitOr_and, e]
  omega
theorem nat_xor_add_and (m : Nat) : ∀ n : Nat, (m ^^^ n) + 2 * (m &&& n) = m + n := by
  induction m using Nat.strongRecOn with
  | _ m ih =>
    intro n
    by_cases h0 : m = 0
    · subst h0
      simp
    · have ih' := ih (m / 2) (by omega) (n / 2)
      rw [← Nat.xor_div_two, ← Nat.and_div_two] at ih'
      have o1 := @Nat.xor_mod_two_eq_one m n
      have a1 := @Nat.and_mod_two_eq_one m n
      omega

theorem bitXor_pp {x y : Int} (hx : 0 ≤ x) (hy : 0 ≤ y) : Builtin.bitXor x y = ((x.toNat ^^^ y.toNat : Nat) : Int) := by
  have e := nat_xor_add_and x.toNat y.toNat
  rw [bitXor_and, bitAnd_pp hx hy]
  omega
theorem bitOr_pp {x y : Int} (hx : 0 ≤ x) (hy : 0 ≤ y) : Builtin.bitOr x y = ((x.toNat ||| y.toNat : Nat) : Int) := by
  have e := nat_or_add_and x.toNat y.toNat
  rw [bitOr_and, bitAnd_pp hx hy]
  omega
end Bits
end 

section 
namespace TL
open PySem PySem.Builtin PySem.Builtin.Str PySem.StrLaws

abbrev tl (x : Str) : List Nat := x.cps.toList
/-- S stands at the head of l -/
def pre (S l : List Nat) : Bool := l.take S.length == S
/-- what stands before the first S, and behind it -/
def par (S : List Nat) : List Nat → List Nat → Option (List Nat × List Nat)
  | _, [] => none
  | acc, c :: r => if pre S (c :: r) = true then some (acc, (c :: r).drop S.length) else par S (acc ++ [c]) r

end TL
end 

namespace L2
open PySem PySem.Spec PyProof.Rows

section
variable {X : Cx} {pins : List (Addr × Obj)} {σ : St} {H : Hp} {s : Shared} {Q : VK}
end

section
variable {X : Cx}

end

section
variable {X : Cx} {o e : Expr} {to te : TE}
end
end L2

namespace L2
open PySem PySem.Spec PyProof.Rows

section
variable {X : Cx}
end

end L2

namespace Att
open PySem PySem.W PySem.Calls PyProof.Rows

theorem ints_of_wellAll {P : Params} {h : Heap} : ∀ (ns : List Int) (vs : List Value), WellAll P h vs (ns.map WData.int) → IntsAre vs ns := by
  intro ns
  induction ns with
  | nil =>
    intro vs w
    rw [List.map_nil] at w
    cases w
    exact .nil
  | cons n ns ih =>
    intro vs w
    rw [List.map_cons] at w
    cases w with
    | cons a b =>
      cases a
      exact .cons _ _ (ih _ b)

section
variable {prog : Program} {w : World} {A : Around} {E : Value → Shared → Prop} {s : Shared} {K : Frag}

end
end Att

namespace L2
open PySem PySem.Spec PyProof.Rows

theorem vals_ints : ∀ {vs : List Value} {ns : List Int}, IntsAre vs ns → Vals (ns.map V.int) vs
  | _, _, .nil => .nil
  | _, _, .cons n t h => .cons ⟨t, rfl⟩ (vals_ints h)

/-- nothing is tracked but the script, known to the object (or it is an object of the module) -/
def Only (H : Hp) : Prop := ∀ b, H b = none ∨ ∃ o xs, H b = some (.frz o (.lst xs))

end L2

namespace L2
open PySem PySem.Spec PyProof.Rows

end L2


namespace L2
open PySem PySem.Spec PyProof.Rows

/-- the j-th statement of a class's body -/
def inClass (s : Stmt) (j : Nat) : Stmt := match s with
  | .ClassDef _ _ _ body _ _ _ _ _ _ _ => body.getD j (.Pass ⟨0, 0, 0, 0⟩)
  | _ => .Pass ⟨0, 0, 0, 0⟩
def defArgs (s : Stmt) : Arguments := match s with
  | .FunctionDef _ a _ _ _ _ _ _ _ _ => a
  | _ => { posonlyargs := [], args := [], vararg := none, kwonlyargs := [], kw_defaults := [], kwarg := none, defaults := [] }
def defBody (s : Stmt) : List Stmt := match s with
  | .FunctionDef _ _ b _ _ _ _ _ _ _ => b
  | _ => []
def defScope (s : Stmt) : Scope := match s with
  | .FunctionDef _ _ _ _ _ _ sc _ _ _ => sc
  | _ => { kind := .function, names := [], isGenerator := false, isCoroutine := false }

abbrev CX0 : CXT := fun _ _ _ _ _ _ => False
abbrev E0 : XK := fun _ _ _ => False
theorem pass0 {X : Cx} : Passes CX0 X E0 := fun _ _ _ _ _ _ _ h => h.elim

structure Fun (K : PySem.W.Frag) (x qual : Str) (st : Stmt) (f : Addr) (fd : FuncData) : Prop where
  ex : ∃ (oc : Value) (od : Option Addr) (kV doc pm : Value) (an : Option Addr) (cdv ct : Value) (osl : Array (Option Value)),
    fd = PySem.W.fnOf x qual (defArgs st) (defBody st) (defScope st) .none kV doc pm an cdv ct ∧ K.lookup f = some ⟨oc, od, .func fd, osl⟩ ∧ PySem.W.codeIn K cdv qual = true
  kp : PySem.W.keepIn K (.ref f) = true
section
variable {P : Program} {w : World} {K : PySem.W.Frag} {mg : Str → Option Value} {base : Heap}
/-- THE RULE for a def: its body as a term of rules, and the reading of that term -/
theorem Fun.ok {x qual : Str} {st : Stmt} {f : Addr} {fd : FuncData} {N ps : List Str} {k : Nat} {sp : Sp} (F : Fun K x qual st f fd) (S : FnScope N ps (defScope st)) (len : ∀ vs H Q E, sp vs H Q E → vs.length = ps.length)
    (hbody : ∀ (cdv : Value) (A : Around) (outer : List Env) (s : Shared) (H : Hp) (vs : List V) (Q : VK) (E : XK), Room k (A.deeper (envOfC qual (defScope st) s.heap.objs.size f cdv)) → sp vs H Q E →
      ∃ t, PSs (cxOf CX0 P w K mg base N qual (defScope st) f cdv A outer s H E).nox (defBody st) t ∧ t { nx := fun _ H' => Q .non H', rt := Q } (start N vs) H) : FnOk P w K mg base CX0 (k + 1) f fd ps sp := by
  obtain ⟨oc, od, kV, doc, pm, an, cdv, ct, osl, rfl, lk, hcd⟩ := F.ex
  refine fn_of lk hcd S len fun A outer s H vs Q E hr hsp => ?_
  obtain ⟨t, h, q⟩ := hbody cdv A outer s H vs Q E hr hsp
  exact ⟨t, h.nox, q⟩
/-- how its arguments bind (no defaults): h is «fun _ _ _ _ _ _ us hl => match us, hl with | [_, _], _ => rfl», one _ a parameter -/
theorem Fun.binds {x qual : Str} {st : Stmt} {f : Addr} {fd : FuncData} {ps : List Str} (F : Fun K x qual st f fd)
    (h : ∀ (kV doc pm : Value) (an : Option Addr) (cdv ct : Value) (us : List Value), us.length = ps.length → bindArgs (PySem.W.fnOf x qual (defArgs st) (defBody st) (defScope st) .none kV doc pm an cdv ct) ⟨us, []⟩ = pure (ps.zip us)) : Binds K fd ps [] := by
  obtain ⟨oc, od, kV, doc, pm, an, cdv, ct, osl, rfl, lk, hcd⟩ := F.ex
  exact .all (h kV doc pm an cdv ct)
theorem fun_mk {x qual : Str} {st : Stmt} {f : Addr} {oc : Value} {od an : Option Addr} {osl : Array (Option Value)} {kV doc pm cdv ct : Value} (l : K.lookup f = some ⟨oc, od, .func (PySem.W.fnOf x qual (defArgs st) (defBody st) (defScope st) .none kV doc pm an cdv ct), osl⟩)
    (c : PySem.W.codeIn K cdv qual = true) (k : PySem.W.keepIn K (.ref f) = true) : Fun K x qual st f (PySem.W.fnOf x qual (defArgs st) (defBody st) (defScope st) .none kV doc pm an cdv ct) := ⟨⟨oc, od, kV, doc, pm, an, cdv, ct, osl, rfl, l, c⟩, k⟩
end
section
variable {X : Cx}
theorem pv (i : Nat) {x : Str} {pos : Pos} (hN : X.N[i]? = some x := by rfl) (hv : Vis X.env.scope x := by first | exact Or.inl rfl | exact Or.inr (Or.inl rfl) | exact Or.inr (Or.inr rfl)) (hd : (x == ("__debug__" : Str)) = false := by decide)
    (hcd : (x == ("__classdict__" : Str)) = false := by decide) : PE X (.Name x pos) (tVar i) := pe_var hN hv hd hcd
end

theorem iteF {A B : Prop} (h : B) : if false = true then A else B := by
  rw [if_neg Bool.false_ne_true]
  exact h
theorem iteT {A B : Prop} (h : A) : if true = true then A else B := by
  rw [if_pos rfl]
  exact h
theorem ite2 {c A B : Prop} [Decidable c] (h1 : c → A) (h2 : ¬ c → B) : if c then A else B := by
  by_cases h : c
  · rw [if_pos h]
    exact h1 h
  · rw [if_neg h]
    exact h2 h
/-- all that was tracked is as it was -/
def Same (H H' : Hp) : Prop := ∀ b o, H b = some o → H' b = some o
theorem Same.refl (H : Hp) : Same H H := fun _ _ h => h
theorem Same.trans {H H1 H2 : Hp} (a : Same H H1) (b : Same H1 H2) : Same H H2 := fun c o h => b c o (a c o h)
theorem Same.free {H H' : Hp} (e : Same H H') {l : Addr} (h : H' l = Option.none) : H l = Option.none := by
  cases q : H l with
  | none => rfl
  | some o =>
    rw [e l o q] at h
    cases h
theorem Same.seq {K : PySem.W.Frag} {H H' : Hp} {a : Addr} {xs : List V} (e : Same H H') (h : SqL K H a xs) : SqL K H' a xs := by
  rcases h with (h | ⟨o, h⟩) | h
  · exact .inl (.inl (e _ _ h))
  · exact .inl (.inr ⟨o, e _ _ h⟩)
  · exact .inr h

section
variable {κ : Type} [DecidableEq κ]
end
theorem at_of {xs : List V} {z : Int} {j : Nat} {v : V} (e : z = (j : Int)) (h : xs[j]? = some v) : atI xs z = some v := by
  rw [e]
  exact atI_nat h
/-- a new instance and its __init__ leave all that was tracked as it was -/
theorem Same.made {H H1 : Hp} {x dx C : Addr} (nx : H x = Option.none) (nd : H dx = Option.none) (k : ∀ b o, (upd (upd H dx (.own x)) x (.ins C dx [])) b = some o → b ≠ x → H1 b = some o) : Same H H1 := fun b o e =>
  k b o (by rw [upd_ne (ne_of_none e nx), upd_ne (ne_of_none e nd)]; exact e) (ne_of_none e nx)
end L2

set_option Elab.async false
set_option linter.all false
set_option maxRecDepth 100000
namespace TW
open PySem PySem.Spec PyProof.Rows L2

/-- what is handed in: a whole number, a list of whole numbers -/
inductive Arg where
  | int (i : Int)
  | nums (l : List Int)
def Arg.data : Arg → PySem.W.WData
  | .int i => .int i
  | .nums l => .list (l.map .int)
/-- how it lies in the heap -/
def ArgV (h : Heap) : Arg → Value → V → Prop
  | .int i, u, v => (∃ t, u = Value.int i t) ∧ v = .int i
  | .nums l, u, v => ∃ (a : Addr) (vs : List Value), u = Value.ref a ∧ v = .ref a ∧ h.get? a = some { cls := .type "list", data := .seq vs.toArray } ∧ IntsAre vs l
inductive ArgsV (h : Heap) : List Arg → List Value → List V → Prop
  | nil : ArgsV h [] [] []
  | cons {x xs u us v vs} : ArgV h x u v → ArgsV h xs us vs → ArgsV h (x :: xs) (u :: us) (v :: vs)
theorem argsV_of {P : Params} {h : Heap} : ∀ (xs : List Arg) (us : List Value), PySem.W.WellAll P h us (xs.map Arg.data) → ∃ vs, ArgsV h xs us vs
  | [], us, w => by
    rw [List.map_nil] at w
    cases w
    exact ⟨[], .nil⟩
  | x :: xs, us, w => by
    rw [List.map_cons] at w
    cases w with
    | cons a b =>
      obtain ⟨vs, hv⟩ := argsV_of xs _ b
      cases x with
      | int i =>
        have a : PySem.W.Well P h _ (PySem.W.WData.int i) := a
        cases a
        exact ⟨.int i :: vs, .cons ⟨⟨_, rfl⟩, rfl⟩ hv⟩
      | nums l =>
        have a : PySem.W.Well P h _ (PySem.W.WData.list (l.map .int)) := a
        cases a with
        | list ho hall => exact ⟨.ref _ :: vs, .cons ⟨_, _, rfl, rfl, ho, Att.ints_of_wellAll l _ hall⟩ hv⟩
theorem ArgsV.vals {h : Heap} : ∀ {xs : List Arg} {us : List Value} {vs : List V}, ArgsV h xs us vs → Vals vs us
  | _, _, _, .nil => .nil
  | _, _, _, .cons (x := .int i) a b => .cons (by obtain ⟨h1, rfl⟩ := a; exact h1) b.vals
  | _, _, _, .cons (x := .nums l) a b => .cons (by obtain ⟨p, _, h1, rfl, _⟩ := a; exact h1) b.vals
theorem ArgsV.length {h : Heap} : ∀ {xs : List Arg} {us : List Value} {vs : List V}, ArgsV h xs us vs → us.length = xs.length ∧ vs.length = xs.length
  | _, _, _, .nil => ⟨rfl, rfl⟩
  | _, _, _, .cons a b => ⟨congrArg (· + 1) b.length.1, congrArg (· + 1) b.length.2⟩
/-- the same over the abstract heap -/
def ArgH (K : PySem.W.Frag) (H : Hp) : Arg → V → Prop
  | .int i, v => v = .int i
  | .nums l, v => ∃ a, v = .ref a ∧ SqL K H a (l.map V.int)
inductive ArgsH (K : PySem.W.Frag) (H : Hp) : List Arg → List V → Prop
  | nil : ArgsH K H [] []
  | cons {x xs v vs} : ArgH K H x v → ArgsH K H xs vs → ArgsH K H (x :: xs) (v :: vs)
theorem intsAre_inj : ∀ {vs : List Value} {ns ms : List Int}, IntsAre vs ns → IntsAre vs ms → ns = ms
  | _, _, _, .nil, h => by cases h; rfl
  | _, _, _, .cons n t h, k => by
    cases k with
    | cons m u k => rw [intsAre_inj h k]
/-- the lists among what is handed in -/
def listsOf {h : Heap} : List Arg → List V → List (Addr × List Int)
  | .nums l :: xs, .ref a :: vs => (a, l) :: listsOf (h := h) xs vs
  | _ :: xs, _ :: vs => listsOf (h := h) xs vs
  | _, _ => []
theorem listsOf_ok {h : Heap} : ∀ {xs : List Arg} {us : List Value} {vs : List V}, ArgsV h xs us vs → ∀ p ∈ listsOf (h := h) xs vs, ∃ ws, h.get? p.1 = some { cls := .type "list", data := .seq ws.toArray } ∧ IntsAre ws p.2 ∧ Arg.nums p.2 ∈ xs
  | _, _, _, .nil, p, hp => by cases hp
  | _, _, _, .cons (x := .int i) a b, p, hp => by
    obtain ⟨_, rfl⟩ := a
    obtain ⟨ws, h1, h2, h3⟩ := listsOf_ok b p hp
    exact ⟨ws, h1, h2, List.mem_cons_of_mem _ h3⟩
  | _, _, _, .cons (x := .nums l) a b, p, hp => by
    obtain ⟨q, ws, _, rfl, h1, h2⟩ := a
    rcases List.mem_cons.mp (show p ∈ (q, l) :: listsOf (h := h) _ _ from hp) with e | hp
    · subst e
      exact ⟨ws, h1, h2, List.mem_cons_self⟩
    · obtain ⟨ws, h1, h2, h3⟩ := listsOf_ok b p hp
      exact ⟨ws, h1, h2, List.mem_cons_of_mem _ h3⟩
theorem argsH_of {K : PySem.W.Frag} {h : Heap} {H : Hp} : ∀ {xs : List Arg} {us : List Value} {vs : List V}, ArgsV h xs us vs → (∀ p ∈ listsOf (h := h) xs vs, SqL K H p.1 (p.2.map V.int)) → ArgsH K H xs vs
  | _, _, _, .nil, _ => .nil
  | _, _, _, .cons (x := .int i) a b, hs => .cons a.2 (argsH_of b (by obtain ⟨_, rfl⟩ := a; exact hs))
  | _, _, _, .cons (x := .nums l) a b, hs => by
    obtain ⟨q, ws, _, rfl, h1, h2⟩ := a
    exact .cons ⟨q, rfl, hs (q, l) List.mem_cons_self⟩ (argsH_of b fun p hp => hs p (List.mem_cons_of_mem _ hp))
/-- what is tracked at the entry: the lists that are none of the module's own -/
def H0 (K : PySem.W.Frag) (h : Heap) (L : List (Addr × List Int)) : Hp := fun b => if (K.lookup b).isNone = true then (match L.find? (fun p => decide (p.1 = b)) with
  | some p => (match h.get? b with
    | some o => some (.frz o (.lst (p.2.map V.int)))
    | none => none)
  | none => none) else none
theorem H0_frz {K : PySem.W.Frag} {h : Heap} {L : List (Addr × List Int)} {b : Addr} {u : HO} (e : H0 K h L b = some u) : ∃ p ∈ L, p.1 = b ∧ ∃ o, h.get? b = some o ∧ u = .frz o (.lst (p.2.map V.int)) ∧ K.lookup b = none := by
  unfold H0 at e
  split at e
  · rename_i hk
    split at e
    · rename_i p hp
      split at e
      · rename_i o ho
        have e' := Option.some.inj e
        subst e'
        exact ⟨p, List.mem_of_find?_eq_some hp, by simpa using List.find?_some hp, o, ho, rfl, by simpa using hk⟩
      · cases e
    · cases e
  · cases e
theorem H0_at {K : PySem.W.Frag} {h : Heap} {L : List (Addr × List Int)} (hL : ∀ p ∈ L, ∃ ws, h.get? p.1 = some { cls := .type "list", data := .seq ws.toArray } ∧ IntsAre ws p.2) {p : Addr × List Int} (hp : p ∈ L) (hk : K.lookup p.1 = none) :
    ∃ o, H0 K h L p.1 = some (.frz o (.lst (p.2.map V.int))) := by
  cases e : L.find? (fun q => decide (q.1 = p.1)) with
  | none => exact absurd (List.find?_eq_none.mp e p hp) (by simp)
  | some q =>
    have hq := List.mem_of_find?_eq_some e
    have hqp : q.1 = p.1 := by simpa using List.find?_some e
    obtain ⟨ws, g1, i1⟩ := hL p hp
    obtain ⟨ws', g2, i2⟩ := hL q hq
    rw [hqp, g1] at g2
    have ew : ws = ws' := by
      have := Option.some.inj g2
      injection this with _ _ z _
      injection z with z _
      have z2 := congrArg Array.toList z
      simpa using z2
    subst ew
    have el := intsAre_inj i1 i2
    refine ⟨{ cls := .type "list", data := .seq ws.toArray }, ?_⟩
    unfold H0
    rw [if_pos (by rw [hk]; rfl), e]
    dsimp only
    rw [g1, el]
theorem spec_call {P : Program} {w : World} {K : PySem.W.Frag} {mg mb : Str → Option Value} {CX : CXT} {k : Nat} {fa : Addr} {fd : FuncData} {ps : List Str} {sp : Sp} {s₁ : Shared} {xs : List Arg} {us : List Value} {vs : List V} {ans : List Int}
    (KX : K.In s₁.heap) (hns : s₁.heap.Ns mainGlobals mg) (hb : s₁.heap.Ns builtinsNs mb) (hbb : ∀ x : Str, x ≠ "__name__" → mb x = bootBuiltins x) (hlim : s₁.heap.NoLimit) (hg : s₁.gens = #[])
    (hA : ArgsV s₁.heap xs us vs) (hl : ∀ l, Arg.nums l ∈ xs → l.length ≤ sizeLine) (hr : Room k callerA)
    (F : ∀ base : Heap, K.In base → base.Ns mainGlobals mg → FnOk P w K mg base CX k fa fd ps sp) (hbind : ∀ s : Shared, BindsTo s fd ⟨us, []⟩ (ps.zip us))
    (hsp : ∀ H : Hp, Only H → ArgsH K H xs vs → sp vs H (fun v H' => ∃ p, v = .ref p ∧ SqL K H' p (ans.map V.int)) fun _ _ _ => False)
    (hCX : ∀ H e s', CX [] H s₁ (fun _ _ _ => False) e s' → False) :
    codeAny (model P w) callerA (.call (.ref fa) ⟨us, []⟩) (fun r s' => ∃ p o ws n, r = .ok (.ret (.ref p)) ∧ s'.heap.get? p = some o ∧ o.cls = .type "list" ∧ o.data = .seq ws n ∧ IntsAre ws.toList ans ∧ OldK s₁.heap s'.heap ∧ s'.os = s₁.os ∧ AllBare s'.gens) s₁ := by
  have hL := listsOf_ok hA
  generalize hLe : listsOf (h := s₁.heap) xs vs = L at hL
  have hL2 : ∀ p ∈ L, ∃ ws, s₁.heap.get? p.1 = some { cls := .type "list", data := .seq ws.toArray } ∧ IntsAre ws p.2 := fun p hp => let ⟨ws, a, b, _⟩ := hL p hp; ⟨ws, a, b⟩
  have hOnly : Only (H0 K s₁.heap L) := fun b => by
    cases q : H0 K s₁.heap L b with
    | none => exact .inl rfl
    | some u =>
      obtain ⟨p, _, _, o, _, rfl, _⟩ := H0_frz q
      exact .inr ⟨o, _, rfl⟩
  have hok : HOk P w (H0 K s₁.heap L) s₁.heap := fun b u e => by
    obtain ⟨p, hp, rfl, o, ho, rfl, _⟩ := H0_frz e
    obtain ⟨ws, g, i, m⟩ := hL p hp
    have rv := vals_ints i
    refine ⟨ho, by rw [List.length_map]; exact hl _ m, ws, 0, rv, g⟩
  have hArgs : ArgsH K (H0 K s₁.heap L) xs vs := argsH_of hA fun p hp => by
    rw [hLe] at hp
    obtain ⟨ws, g, i, m⟩ := hL p hp
    cases hk : K.lookup p.1 with
    | none =>
      obtain ⟨o, e⟩ := H0_at hL2 hp hk
      exact .inl (.inr ⟨o, e⟩)
    | some o =>
      have e := KX p.1 o hk
      rw [g] at e
      cases e
      exact .inr ⟨_, ws.toArray, _, hk, rfl, rfl, rfl, by rw [List.size_toArray, i.length]; exact hl _ m, by simpa using vals_ints i⟩
  generalize hH : H0 K s₁.heap L = H at hOnly hok hArgs
  have base_of : ∀ {b : Addr} {o : Obj}, s₁.heap.get? b = some o → H b = none → (hidT s₁.heap H).get? b = some o := fun e n => hidT_get e n
  have noA : ∀ {b : Addr} {o : Obj} {es : Array DictEntry} {ep : Nat}, s₁.heap.get? b = some o → o.data = .dict es ep → H b = none := fun {b o es ep} e d => by
    cases q : H b with
    | none => rfl
    | some u =>
      rw [← hH] at q
      obtain ⟨p, hp, rfl, o', ho, rfl, _⟩ := H0_frz q
      obtain ⟨ws, g, _⟩ := hL p hp
      rw [g] at e; cases e
      have d' : Data.seq ws.toArray _ = Data.dict es ep := d
      cases d'
  have nsK : ∀ {b : Addr} {m : Str → Option Value}, s₁.heap.Ns b m → (hidT s₁.heap H).Ns b m := fun {b m} ⟨o, es, ep, e, d, r⟩ => ⟨o, es, ep, base_of e (noA e d), d, r⟩
  have hKb : K.In (hidT s₁.heap H) := fun b o e => base_of (KX b o e) (by
    cases q : H b with
    | none => rfl
    | some u =>
      rw [← hH] at q
      obtain ⟨p, hp, rfl, o', ho, rfl, hn⟩ := H0_frz q
      rw [hn] at e; cases e)
  have hM : Mod K mg (hidT s₁.heap H) := ⟨hKb, nsK hns, ⟨mb, nsK hb, hbb⟩, let ⟨mc, h1, h2⟩ := hlim; ⟨mc, nsK h1, h2⟩⟩
  have e0 : Env0 P w K mg (hidT s₁.heap H) callerA [] s₁ H := ⟨rfl, hM, fun b o e => of_hidT e, Nat.le_of_eq (hidT_size _ _), trivial, fun b hb => absurd (show b ∈ ([] : List Addr) from hb) (by simp), hok, .of_eq hg⟩
  refine codeAny_mono ((F _ hKb (nsK hns)).run callerA [] s₁ H ⟨us, []⟩ us vs _ _ hr e0 (hbind s₁) hA.vals (hsp H hOnly hArgs)) fun r s' h => ?_
  cases r with
  | error e => exact (hCX H e s' h).elim
  | ok fl =>
    cases fl with
    | next => exact False.elim h
    | brk => exact False.elim h
    | cont => exact False.elim h
    | ret u =>
      obtain ⟨v, H', os, bare, un, hok', r', p, rfl, hq⟩ := h
      obtain rfl : u = Value.ref p := r'
      have hOld : OldK s₁.heap s'.heap := OldK.of_keep fun b o e => by
        cases q : H b with
        | none => exact un.keep b o e q (by intro z; exact absurd (show b ∈ ([] : List Addr) from z) (by simp)) (by simp)
        | some u =>
          rcases hOnly b with z | ⟨ob, xs, z⟩
          · rw [q] at z; cases z
          · have z2 := un.frzs b ob _ z
            obtain ⟨e1, _⟩ := hok b _ z
            obtain ⟨e2, _⟩ := hok' b _ z2
            rw [e] at e1; cases e1
            exact e2
      rcases hq with hq | ⟨o, its, n, hk, hc, hd, hda, _, hvs⟩
      · obtain ⟨_, its, n, rv, g⟩ := hq.ok hok'
        exact ⟨p, _, its.toArray, n, rfl, g, rfl, rfl, by simpa using intsAre_of rv, hOld, os, bare⟩
      · have g := KX p o hk
        have hne : H p = none := by
          cases q : H p with
          | none => rfl
          | some u =>
            rw [← hH] at q
            obtain ⟨_, _, rfl, _, _, _, hn⟩ := H0_frz q
            rw [hn] at hk; cases hk
        have g' := un.keep p o g hne (by intro z; exact absurd (show p ∈ ([] : List Addr) from z) (by simp)) (by simp)
        exact ⟨p, o, its, n, rfl, g', hc, hda, intsAre_of hvs, hOld, os, bare⟩
theorem reads_ints {R : PySem.W.WRecords} {cl : Str → Option Addr} {h : Heap} : ∀ {vs : List Value} {ns : List Int}, IntsAre vs ns → PySem.W.ReadsAllW R cl h vs (ns.map .int) []
  | _, _, .nil => .nil
  | _, _, .cons n t k => .cons (as := []) (bs := []) (.int n t) (reads_ints k)
/-- the goal that k_headS leaves (case hc), from the def's promise -/
theorem walk_spec {r : PySem.W.OpenSpec} {k : Nat} {q : Program} {loose : List Str} {XP : (Str → Option Value) → Heap → Prop} {YP : World → Heap → Prop} {d : DefRec} {K : Params → PySem.W.Frag} {CX : CXT} {sp : PySem.W.Frag → Sp} {ps : List Str}
    (hdf : d.params.defaults = []) (hr : Room k callerA)
    (hY : ∀ (w : World) (h : Heap), YP w h → (K w.params).In h)
    (F : ∀ (w : World) (mg : Str → Option Value) (fa : Addr) (h : Heap), (K w.params).In h → h.Ns mainGlobals mg → mg d.name = some (.ref fa) →
      ∃ fd : FuncData, (∀ (s : Shared) (us : List Value), us.length = ps.length → BindsTo s fd ⟨us, []⟩ (ps.zip us)) ∧
        ∀ base : Heap, (K w.params).In base → base.Ns mainGlobals mg → FnOk r.prog w (K w.params) mg base CX k fa fd ps (sp (K w.params)))
    (hreq : ∀ args : List PySem.W.WData, r.pre args = true → ∃ (xs : List Arg) (ans : List Int), args = xs.map Arg.data ∧ xs.length = ps.length ∧ (∀ l, Arg.nums l ∈ xs → l.length ≤ sizeLine) ∧ r.post args (.list (ans.map .int)) = true ∧
      ∀ (K : PySem.W.Frag) (H : Hp) (vs : List V), Only H → ArgsH K H xs vs → sp K vs H (fun v H' => ∃ p, v = .ref p ∧ SqL K H' p (ans.map V.int)) fun _ _ _ => False)
    (hCX : ∀ (H : Hp) (s : Shared) (e : Value) (s' : Shared), CX [] H s (fun _ _ _ => False) e s' → False) :
    PySem.W.WalkOS q loose XP YP r d [] (fun f vs => PySem.call f vs) := by
  intro w s₀ s₁ mg mb G Y fa o pm cd doc dV kV ho hd hcd hD hmg hg args vals as hpre hlay hrd hwl hlo
  have KX := hY w _ Y
  obtain ⟨xs, ans, rfl, hxl, hlen, hpost, hsp⟩ := hreq args hpre
  obtain ⟨vs, hA⟩ := argsV_of xs vals hwl
  obtain ⟨fd, hb, hF⟩ := F w mg fa _ KX G.T.g hmg
  refine PySem.W.enter_call (codeAny_mono (spec_call KX G.T.g G.T.b G.T.builtins G.T.nolimit hg hA hlen hr hF (fun s => hb s vals (by rw [hA.length.1, hxl])) (fun H hO hH => hsp (K w.params) H vs hO hH) fun H e s' => hCX H s₁ e s') fun res s' hq => ?_)
  obtain ⟨p, o, ws, n, rfl, g, hc, hda, hi, h2, h3, h4⟩ := hq
  exact ⟨.inl ⟨.ref p, .list (ans.map .int), [p], rfl, fun _ => rfl, .list g hc hda (reads_ints hi), hpost, fun z => absurd z Bool.false_ne_true⟩, h2, h3, h4⟩
end TW

set_option Elab.async false
set_option linter.all false
set_option maxRecDepth 100000
namespace TW
open PySem PySem.Spec PyProof.Rows L2

/-- every c-th item from place i on -/
def stepV {α : Type} (xs : List α) (i c : Nat) : List α := (List.range ((xs.length - i + c - 1) / c)).filterMap fun m => xs[i + m * c]?
theorem count_toNat (n i c : Nat) (hc : 0 < c) : (if ((min i n : Nat) : Int) < (n : Int) then ((n : Int) - ((min i n : Nat) : Int) + (c : Int) - 1) / (c : Int) else 0).toNat = (n - i + c - 1) / c := by
  by_cases h : i < n
  · rw [Nat.min_eq_left (by omega), if_pos (by omega)]
    have e : (n : Int) - (i : Int) + (c : Int) - 1 = ((n - i + c - 1 : Nat) : Int) := by omega
    rw [e, ← Int.natCast_ediv, Int.toNat_natCast]
  · rw [Nat.min_eq_right (by omega), if_neg (by omega), show n - i = 0 by omega, Nat.div_eq_of_lt (by omega)]
    rfl
theorem bounds_step (n i c : Nat) (hc : 0 < c) : sliceBounds (some (i : Int)) none (some (c : Int)) n = (((min i n : Nat) : Int), (n : Int), (c : Int)) := by
  have h1 : (c : Int) > 0 := by omega
  have h2 : ¬ ((i : Int) < 0) := by omega
  simp only [sliceBounds, Option.getD_some, h1, if_true, h2, if_false]
  refine Prod.ext ?_ rfl
  show max 0 (min (i : Int) (n : Int)) = ((min i n : Nat) : Int)
  omega
theorem range_step (n i c : Nat) (hc : 0 < c) : sliceRange ((min i n : Nat) : Int) (n : Int) (c : Int) = (List.range ((n - i + c - 1) / c)).map fun m => i + m * c := by
  have h1 : (c : Int) > 0 := by omega
  unfold sliceRange
  simp only [h1, if_true]
  rw [count_toNat n i c hc]
  refine List.map_congr_left fun m hm => ?_
  have hm : m < (n - i + c - 1) / c := by simpa using hm
  have hi : i < n := by
    rcases Nat.lt_or_ge i n with q | q
    · exact q
    · rw [show n - i = 0 by omega, Nat.div_eq_of_lt (by omega)] at hm
      exact absurd hm (Nat.not_lt_zero _)
  rw [Nat.min_eq_left (by omega), Int.mul_comm, ← Int.natCast_mul, ← Int.natCast_add, Int.toNat_natCast]
theorem slicePick_step (its : List Value) (i c : Nat) (hc : 0 < c) : slicePick its.toArray (some (i : Int)) none (some (c : Int)) = (stepV its i c).toArray := by
  unfold slicePick stepV
  rw [List.size_toArray, bounds_step its.length i c hc]
  dsimp only
  rw [range_step its.length i c hc, List.filterMap_map]
  refine congrArg List.toArray (congrFun (congrArg List.filterMap ?_) _)
  funext m
  simp
theorem vals_pick {xs : List V} {us : List Value} (r : Vals xs us) : ∀ ix : List Nat, Vals (ix.filterMap fun m => xs[m]?) (ix.filterMap fun m => us[m]?)
  | [] => .nil
  | m :: ix => by
    rw [List.filterMap_cons, List.filterMap_cons]
    cases e : xs[m]? with
    | none =>
      rw [r.none_of e]
      exact vals_pick r ix
    | some x =>
      obtain ⟨u, hu, ru⟩ := r.get e
      rw [hu]
      exact .cons ru (vals_pick r ix)
theorem vals_step {xs : List V} {us : List Value} (r : Vals xs us) (i c : Nat) : Vals (stepV xs i c) (stepV us i c) := by
  unfold stepV
  rw [r.length]
  have e1 : (List.range ((us.length - i + c - 1) / c)).filterMap (fun m => xs[i + m * c]?) = ((List.range ((us.length - i + c - 1) / c)).map fun m => i + m * c).filterMap fun k => xs[k]? := by rw [List.filterMap_map]; rfl
  have e2 : (List.range ((us.length - i + c - 1) / c)).filterMap (fun m => us[i + m * c]?) = ((List.range ((us.length - i + c - 1) / c)).map fun m => i + m * c).filterMap fun k => us[k]? := by rw [List.filterMap_map]; rfl
  rw [e1, e2]
  exact vals_pick r _
theorem stepV_length_le {α : Type} (xs : List α) (i c : Nat) (hc : 0 < c) : (stepV xs i c).length ≤ xs.length := by
  refine Nat.le_trans (List.length_filterMap_le _ _) ?_
  rw [List.length_range]
  rcases Nat.eq_zero_or_pos (xs.length - i) with z | z
  · rw [z, Nat.div_eq_of_lt (by omega)]; omega
  · have : (xs.length - i + c - 1) / c ≤ xs.length - i := by
      rw [Nat.div_le_iff_le_mul_add_pred hc]
      have : xs.length - i ≤ c * (xs.length - i) := Nat.le_mul_of_pos_left _ hc
      omega
    omega
section
variable {X : Cx} {e l st : Expr} {te tl ts : TE} {pos p2 : Pos}
/-- a[i::c] of a list: a new list -/
def tStep (K : PySem.W.Frag) (te tl ts : TE) : TE := fun σ H Q => te σ H fun x H1 => tl σ H1 fun y H2 => ts σ H2 fun z H3 =>
  ∃ (a : Addr) (xs : List V) (i c : Nat), x = .ref a ∧ y = .int i ∧ z = .int c ∧ 0 < c ∧ SqL K H3 a xs ∧ ∀ p, H3 p = none → Q (.ref p) (upd H3 p (.lst (stepV xs i c)))
theorem pe_step (he : PE X e te) (hl : PE X l tl) (hs : PE X st ts) : PE X (.Subscript e (.Slice (some l) none (some st) p2) pos) (tStep X.K te tl ts) := by
  intro pins s σ H Q I h
  refine Subscript_ (thn (he pins s σ H _ I h) fun v s1 ⟨x, H1, I1, r1, q1⟩ => ?_)
  refine wpAny_Slice ?_
  rw [evalPart_some, evalPart_none, evalPart_some]
  refine thn (hl pins s1 σ H1 _ I1 q1) fun vl s2 ⟨y, H2, I2, r2, q2⟩ => wpAny_pure (thn (hs pins s2 σ H2 _ I2 q2) fun vs s3 ⟨z, H3, I3, r3, q3⟩ => ?_)
  obtain ⟨a, xs, i, c, rfl, rfl, rfl, hc, hx, q⟩ := q3
  obtain ⟨t2, rfl⟩ := r2
  obtain ⟨t3, rfl⟩ := r3
  cases r1
  generalize hs4 : ({ s3 with heap := s3.heap.push { cls := .type "slice", data := .fields #[.int (i : Int) t2, .none, .int (c : Int) t3] } } : Shared) = s4
  have I4 : Inv X pins σ H3 s4 := by rw [← hs4]; exact I3.kept (t' := s3.toks) fun b ob q => Heap.get?_push_of_some _ q
  have hsl : s4.heap.IsSliceOf s3.heap.objs.size (.int (i : Int) t2) .none (.int (c : Int) t3) := by rw [← hs4]; exact Heap.IsSliceOf.new ..
  obtain ⟨its, r, ht, hz⟩ := I4.list hx
  have hlen := r.length
  have hg : wpAny (model X.prog X.w) X.A (getItem (.ref a) (.ref s3.heap.objs.size)) (EP X pins σ Q) X.xe s4 := by
    refine wpAny_getItem_list_slice ht.isList hsl (.int _ _) .none (.int _ _) (by intro z; have := Option.some.inj z; omega) ?_ (by rw [List.size_toArray] <;> omega)
    rw [slicePick_step its i c hc]
    refine ⟨.ref s4.heap.objs.size, _, I4.laid (t' := s4.toks) (o := .lst (stepV xs i c)) (fun b ob q => Heap.get?_push_of_some _ q) (Nat.le_refl _) ?_, rfl, q _ (I4.hok.fresh (Nat.le_refl _))⟩
    exact ⟨Nat.le_trans (stepV_length_le xs i c hc) hz, _, 0, vals_step r i c, Heap.get?_push_size _ rfl⟩
  show wpAny (model X.prog X.w) X.A (subscriptTail e (.Slice (some l) none (some st) p2) (.ref a) (.ref s3.heap.objs.size)) (EP X pins σ Q) X.xe s4
  exact tail_any (ops := [.ref a, .ref s3.heap.objs.size]) ht.isList.typeIs slot_list_getitem.lookup hg (by with_unfolding_all rfl)
end
section
variable {prog : Program} {w : World} {A : Around} {E : Value → Shared → Prop} {s : Shared}
end
section
variable {X : Cx} {o l u st : Expr} {to tl tu ts : TE} {pos p2 : Pos}
end
end TW

set_option Elab.async false
set_option linter.all false
set_option maxRecDepth 100000
namespace TW
open PySem PyProof.Rows
theorem zipTypeCall3 (a b c : Value) : checkTypeCall "zip" ⟨[a, b, c], []⟩ = pure () := by kernel_rfl
theorem zipNewCall3 (a b c : Value) : checkBuiltinCall "zip.__new__" ⟨[.type "zip", a, b, c], []⟩ = pure () := by kernel_rfl
theorem objInit4 (a b c d : Value) : argsOk "object.__init__" ⟨[a, b, c, d], []⟩ := by
  unfold argsOk; rw [signature?_of (id := "object.__init__") (n := ['_', '_', 't', 'i', 'n', 'i', '_', '_']) (o := ['t', 'c', 'e', 'j', 'b', 'o']) (by kernel_rfl) F.owner_object]; kernel_rfl
abbrev IsTrip (h : Heap) (T : Addr) (a b c : Value) : Prop := h.get? T = some { cls := .type "tuple", data := .seq #[a, b, c] }
section
variable {prog : Program} {w : World} {A : Around} {E : Value → Shared → Prop} {s : Shared}
theorem updTrip {T : Addr} {a b c x : Value} {k : Nat} {Q : Unit → Shared → Prop} (g : IsTrip s.heap T a b c)
    (h : ∀ h', h'.get? T = some { cls := .type "tuple", data := .seq ((#[a, b, c] : Array Value).setIfInBounds k x) } → Heap.SameBut T s.heap h' → Q () { s with heap := h' }) :
    wpAny (model prog w) A (updateSeq T fun l => l.setIfInBounds k x) Q E s := by
  refine wpAny_updateSeq g rfl (h _ ?_ (Heap.SameBut.update ..))
  rw [Heap.get?_update_self _ g rfl]
  simp [Obj.mapSeq]
/-- five addresses and three lists: who is not whom -/
structure Apart3 (z TI TO i1 i2 i3 l1 l2 l3 : Addr) : Prop where
  it : ∀ i ∈ [i1, i2, i3], i ≠ z ∧ i ≠ TO ∧ i ≠ TI
  ti : TI ≠ z ∧ TI ≠ TO
  to_ : TO ≠ z
  ab : i1 ≠ i2 ∧ i1 ≠ i3 ∧ i2 ≠ i3
  ls : ∀ l ∈ [l1, l2, l3], l ≠ z ∧ l ≠ TO ∧ l ≠ i1 ∧ l ≠ i2 ∧ l ≠ i3
theorem Apart3.n1 {z TI TO i1 i2 i3 l1 l2 l3 : Addr} (D : Apart3 z TI TO i1 i2 i3 l1 l2 l3) : i1 ≠ z ∧ i1 ≠ TO ∧ i1 ≠ TI := D.it i1 (by simp)
theorem Apart3.n2 {z TI TO i1 i2 i3 l1 l2 l3 : Addr} (D : Apart3 z TI TO i1 i2 i3 l1 l2 l3) : i2 ≠ z ∧ i2 ≠ TO ∧ i2 ≠ TI := D.it i2 (by simp)
theorem Apart3.n3 {z TI TO i1 i2 i3 l1 l2 l3 : Addr} (D : Apart3 z TI TO i1 i2 i3 l1 l2 l3) : i3 ≠ z ∧ i3 ≠ TO ∧ i3 ≠ TI := D.it i3 (by simp)
theorem Apart3.m1 {z TI TO i1 i2 i3 l1 l2 l3 : Addr} (D : Apart3 z TI TO i1 i2 i3 l1 l2 l3) : l1 ≠ z ∧ l1 ≠ TO ∧ l1 ≠ i1 ∧ l1 ≠ i2 ∧ l1 ≠ i3 := D.ls l1 (by simp)
theorem Apart3.m2 {z TI TO i1 i2 i3 l1 l2 l3 : Addr} (D : Apart3 z TI TO i1 i2 i3 l1 l2 l3) : l2 ≠ z ∧ l2 ≠ TO ∧ l2 ≠ i1 ∧ l2 ≠ i2 ∧ l2 ≠ i3 := D.ls l2 (by simp)
theorem Apart3.m3 {z TI TO i1 i2 i3 l1 l2 l3 : Addr} (D : Apart3 z TI TO i1 i2 i3 l1 l2 l3) : l3 ≠ z ∧ l3 ≠ TO ∧ l3 ≠ i1 ∧ l3 ≠ i2 ∧ l3 ≠ i3 := D.ls l3 (by simp)
/-- all but the zip's own four stay -/
def KeepZ (z TO i1 i2 i3 : Addr) (h h' : Heap) : Prop := ∀ p ob, p ≠ z → p ≠ TO → p ≠ i1 → p ≠ i2 → p ≠ i3 → h.get? p = some ob → h'.get? p = some ob
theorem zip3_next {z TI TO i1 i2 i3 l1 l2 l3 : Addr} {k : Nat} {xs ys zs : Array Value} {x y u a b c : Value} {Q : Value → Shared → Prop} (D : Apart3 z TI TO i1 i2 i3 l1 l2 l3)
    (gz : IsZip s.heap z TI TO .none) (gI : IsTrip s.heap TI (.ref i1) (.ref i2) (.ref i3)) (gO : IsTrip s.heap TO a b c)
    (h1 : s.heap.IsListIter i1 l1 k) (h2 : s.heap.IsListIter i2 l2 k) (h3 : s.heap.IsListIter i3 l3 k) (hl1 : s.heap.IsList l1 xs) (hl2 : s.heap.IsList l2 ys) (hl3 : s.heap.IsList l3 zs)
    (hx : xs[k]? = some x) (hy : ys[k]? = some y) (hu : zs[k]? = some u)
    (fin : ∀ h', IsZip h' z TI TO (rawInt s.heap.objs.size) → IsTrip h' TO x y u → h'.IsListIter i1 l1 (k + 1) → h'.IsListIter i2 l2 (k + 1) → h'.IsListIter i3 l3 (k + 1) → IsTrip h' s.heap.objs.size x y u → h'.objs.size = s.heap.objs.size + 1 →
      KeepZ z TO i1 i2 i3 s.heap h' → Q (.ref s.heap.objs.size) { s with heap := h' }) :
    wpAny (model prog w) A (Builtin.«zip.__next__» ⟨[.ref z], []⟩) (fun r s' => ∃ v, r = .done (.ret v) ∧ Q v s') E s := by
  obtain ⟨n1z, n1O, n1I⟩ := D.n1
  obtain ⟨n2z, n2O, n2I⟩ := D.n2
  obtain ⟨n3z, n3O, n3I⟩ := D.n3
  obtain ⟨n12, n13, n23⟩ := D.ab
  obtain ⟨m1z, m1O, m11, m12, m13⟩ := D.m1
  obtain ⟨m2z, m2O, m21, m22, m23⟩ := D.m2
  obtain ⟨m3z, m3O, m31, m32, m33⟩ := D.m3
  have nOz := D.to_
  show wpAny _ _ (field (.ref z) 2 >>= _) _ _ s
  refine wpAny_bind (wpAny_field gz rfl (x := .bool false) rfl ?_)
  show wpAny _ _ (field (.ref z) 3 >>= _) _ _ s
  refine wpAny_bind (wpAny_field gz rfl (x := .ref TI) rfl ?_)
  refine wpAny_bind (wpAny_seqItems gI rfl ?_)
  show wpAny _ _ (Builtin.SmallTypes.ownedTupleIsFree (.ref z) >>= _) _ _ s
  refine wpAny_bind ?_
  unfold Builtin.SmallTypes.ownedTupleIsFree
  refine wpAny_bind (wpAny_field gz rfl (x := .none) rfl (wpAny_pure ?_))
  simp only [if_true]
  refine wpAny_bind (wpAny_rule (wpAny_bind (wpAny_field gz rfl (x := .ref TO) rfl ?_)))
  refine wpAny_bind (wpAny_setField_rec gz (by simp) fun hA gA sA => ?_)
  replace gA : IsZip hA z TI TO .ellipsis := gA
  refine wpAny_bind ?_
  simp only [List.zipIdx_cons, List.zipIdx_nil, List.forIn_cons, List.forIn_nil]
  -- the first
  refine wpAny_bind (wpAny_bind (wpAny_onRaise ?_))
  show wpAny _ _ (Builtin.SmallTypes.nextOf (.ref i1) >>= _) _ _ _
  refine wpAny_bind (wpAny_nextOf_list_item (h1.extBut sA.extBut n1z) (hl1.extBut sA.extBut m1z) hx fun hB iB sB => wpAny_pure ?_)
  have oB : IsTrip hB TO a b c := sB.extBut _ _ (Ne.symm n1O) (sA.extBut _ _ nOz gO)
  refine wpAny_bind (wpAny_seqItems oB rfl (wpAny_bind (updTrip oB fun hC oC sC => ?_)))
  replace oC : IsTrip hC TO x b c := oC
  refine wpAny_bind (wpAny_letGo (wpAny_pure ?_))
  -- the second
  refine wpAny_bind (wpAny_bind (wpAny_onRaise ?_))
  show wpAny _ _ (Builtin.SmallTypes.nextOf (.ref i2) >>= _) _ _ _
  refine wpAny_bind (wpAny_nextOf_list_item (((h2.extBut sA.extBut n2z).extBut sB.extBut (Ne.symm n12)).extBut sC.extBut n2O)
    (((hl2.extBut sA.extBut m2z).extBut sB.extBut m21).extBut sC.extBut m2O) hy fun hD iD sD => wpAny_pure ?_)
  have oD : IsTrip hD TO x b c := sD.extBut _ _ (Ne.symm n2O) oC
  refine wpAny_bind (wpAny_seqItems oD rfl (wpAny_bind (updTrip oD fun hE oE sE => ?_)))
  replace oE : IsTrip hE TO x y c := oE
  refine wpAny_bind (wpAny_letGo (wpAny_pure ?_))
  -- the third
  refine wpAny_bind (wpAny_bind (wpAny_onRaise ?_))
  show wpAny _ _ (Builtin.SmallTypes.nextOf (.ref i3) >>= _) _ _ _
  refine wpAny_bind (wpAny_nextOf_list_item (((((h3.extBut sA.extBut n3z).extBut sB.extBut (Ne.symm n13)).extBut sC.extBut n3O).extBut sD.extBut (Ne.symm n23)).extBut sE.extBut n3O)
    (((((hl3.extBut sA.extBut m3z).extBut sB.extBut m31).extBut sC.extBut m3O).extBut sD.extBut m32).extBut sE.extBut m3O) hu fun hF iF sF => wpAny_pure ?_)
  have oF : IsTrip hF TO x y c := sF.extBut _ _ (Ne.symm n3O) oE
  refine wpAny_bind (wpAny_seqItems oF rfl (wpAny_bind (updTrip oF fun hG oG sG => ?_)))
  replace oG : IsTrip hG TO x y u := oG
  refine wpAny_bind (wpAny_letGo (wpAny_pure (wpAny_pure ?_)))
  -- the new tuple
  refine wpAny_bind (wpAny_seqItems oG rfl (wpAny_bind (wpAny_newTuple ?_)))
  have sz : hG.objs.size = s.heap.objs.size := by rw [sG.1, sF.1, sE.1, sD.1, sC.1, sB.1, sA.1]
  have gG : IsZip hG z TI TO .ellipsis := sG.extBut _ _ (Ne.symm nOz) (sF.extBut _ _ (Ne.symm n3z) (sE.extBut _ _ (Ne.symm nOz) (sD.extBut _ _ (Ne.symm n2z) (sC.extBut _ _ (Ne.symm nOz) (sB.extBut _ _ (Ne.symm n1z) gA)))))
  have kG : KeepZ z TO i1 i2 i3 s.heap hG := fun p ob p1 p2 p3 p4 p5 q =>
    sG.extBut _ _ p2 (sF.extBut _ _ p5 (sE.extBut _ _ p2 (sD.extBut _ _ p4 (sC.extBut _ _ p2 (sB.extBut _ _ p3 (sA.extBut _ _ p1 q))))))
  have j1 : hG.IsListIter i1 l1 (k + 1) := ((((iB.extBut sC.extBut n1O).extBut sD.extBut n12).extBut sE.extBut n1O).extBut sF.extBut n13).extBut sG.extBut n1O
  have j2 : hG.IsListIter i2 l2 (k + 1) := ((iD.extBut sE.extBut n2O).extBut sF.extBut n23).extBut sG.extBut n2O
  have j3 : hG.IsListIter i3 l3 (k + 1) := iF.extBut sG.extBut n3O
  have zlt : z < hG.objs.size := Heap.lt_size gG
  show wpAny _ _ (Builtin.SmallTypes.ownedTupleHandOut (.ref z) (.ref hG.objs.size) >>= _) _ _ _
  refine wpAny_bind ?_
  unfold Builtin.SmallTypes.ownedTupleHandOut
  have gP : IsZip (hG.push { cls := .type "tuple", data := .seq #[x, y, u] }) z TI TO .ellipsis := Heap.get?_push_of_some _ gG
  refine wpAny_bind (wpAny_setField_rec gP (by simp) fun hR gR sR => ?_)
  replace gR : IsZip hR z TI TO (rawInt hG.objs.size) := gR
  refine wpAny_setField_rec gR (by simp) fun hS gS sS => ?_
  replace gS : IsZip hS z TI TO (rawInt hG.objs.size) := gS
  have up : ∀ p ob, p ≠ z → hG.get? p = some ob → hS.get? p = some ob := fun p ob p1 q => sS.extBut _ _ p1 (sR.extBut _ _ p1 (Heap.get?_push_of_some _ q))
  have tS : IsTrip hS hG.objs.size x y u := sS.extBut _ _ (Nat.ne_of_gt zlt) (sR.extBut _ _ (Nat.ne_of_gt zlt) (Heap.get?_push_size _ rfl))
  have zS : hS.objs.size = hG.objs.size + 1 := by rw [sS.1, sR.1, Heap.size_push]
  rw [sz] at gS tS zS
  refine wpAny_pure ⟨_, rfl, ?_⟩
  show Q (.ref hG.objs.size) _
  rw [sz]
  exact fin hS gS (up _ _ nOz oG) (j1.at fun ob q => up _ ob n1z q) (j2.at fun ob q => up _ ob n2z q) (j3.at fun ob q => up _ ob n3z q) tS zS fun p ob p1 p2 p3 p4 p5 q => up p ob p1 (kG p ob p1 p2 p3 p4 p5 q)
theorem zip3_stop {z TI TO i1 i2 i3 l1 l2 l3 : Addr} {k : Nat} {xs ys zs : Array Value} {a b c : Value} {Q : Fin → Shared → Prop} (calm : A.handled = none) (D : Apart3 z TI TO i1 i2 i3 l1 l2 l3)
    (gz : IsZip s.heap z TI TO .none) (gI : IsTrip s.heap TI (.ref i1) (.ref i2) (.ref i3)) (gO : IsTrip s.heap TO a b c)
    (h1 : s.heap.IsListIter i1 l1 k) (h2 : s.heap.IsListIter i2 l2 k) (h3 : s.heap.IsListIter i3 l3 k) (hl1 : s.heap.IsList l1 xs) (hl2 : s.heap.IsList l2 ys) (hl3 : s.heap.IsList l3 zs)
    (ends : xs[k]? = none ∨ ys[k]? = none ∨ zs[k]? = none)
    (fin : ∀ h' e, KeepZ z TO i1 i2 i3 s.heap h' → (∃ ob, h'.get? e = some ob ∧ ob.cls = .type "StopIteration") → E (.ref e) { s with heap := h' }) :
    wpAny (model prog w) A (Builtin.«zip.__next__» ⟨[.ref z], []⟩) Q E s := by
  obtain ⟨n1z, n1O, n1I⟩ := D.n1
  obtain ⟨n2z, n2O, n2I⟩ := D.n2
  obtain ⟨n3z, n3O, n3I⟩ := D.n3
  obtain ⟨n12, n13, n23⟩ := D.ab
  obtain ⟨m1z, m1O, m11, m12, m13⟩ := D.m1
  obtain ⟨m2z, m2O, m21, m22, m23⟩ := D.m2
  obtain ⟨m3z, m3O, m31, m32, m33⟩ := D.m3
  have nOz := D.to_
  have noz : ∀ {h : Heap} {e : Addr} {ob : Obj}, IsZip h z TI TO .ellipsis → h.get? e = some ob → ob.cls = .type "StopIteration" → e ≠ z := fun {h e ob} g q qc he => by
    subst he
    rw [g] at q
    cases q
    simp at qc
  show wpAny _ _ (field (.ref z) 2 >>= _) _ _ s
  refine wpAny_bind (wpAny_field gz rfl (x := .bool false) rfl ?_)
  show wpAny _ _ (field (.ref z) 3 >>= _) _ _ s
  refine wpAny_bind (wpAny_field gz rfl (x := .ref TI) rfl ?_)
  refine wpAny_bind (wpAny_seqItems gI rfl ?_)
  show wpAny _ _ (Builtin.SmallTypes.ownedTupleIsFree (.ref z) >>= _) _ _ s
  refine wpAny_bind ?_
  unfold Builtin.SmallTypes.ownedTupleIsFree
  refine wpAny_bind (wpAny_field gz rfl (x := .none) rfl (wpAny_pure ?_))
  simp only [if_true]
  refine wpAny_bind (wpAny_rule (wpAny_bind (wpAny_field gz rfl (x := .ref TO) rfl ?_)))
  refine wpAny_bind (wpAny_setField_rec gz (by simp) fun hA gA sA => ?_)
  replace gA : IsZip hA z TI TO .ellipsis := gA
  refine wpAny_bind ?_
  simp only [List.zipIdx_cons, List.zipIdx_nil, List.forIn_cons, List.forIn_nil]
  refine wpAny_bind (wpAny_bind (wpAny_onRaise ?_))
  show wpAny _ _ (Builtin.SmallTypes.nextOf (.ref i1) >>= _) _ _ _
  cases hx : xs[k]? with
  | none =>
    refine wpAny_bind (wpAny_nextOf_list_end calm (h1.extBut sA.extBut n1z) (hl1.extBut sA.extBut m1z) hx fun hB e sB ⟨ob, qe, qc⟩ => ?_)
    have gB : IsZip hB z TI TO .ellipsis := sB _ _ (Ne.symm n1z) gA
    exact wpAny_setField_rec gB (by simp) fun hC _ sC => fin hC e (fun p o p1 p2 p3 p4 p5 q => sC.extBut _ _ p1 (sB _ _ p3 (sA.extBut _ _ p1 q))) ⟨ob, sC.extBut _ _ (noz gB qe qc) qe, qc⟩
  | some x =>
    refine wpAny_bind (wpAny_nextOf_list_item (h1.extBut sA.extBut n1z) (hl1.extBut sA.extBut m1z) hx fun hB iB sB => wpAny_pure ?_)
    have oB : IsTrip hB TO a b c := sB.extBut _ _ (Ne.symm n1O) (sA.extBut _ _ nOz gO)
    refine wpAny_bind (wpAny_seqItems oB rfl (wpAny_bind (updTrip oB fun hC oC sC => ?_)))
    replace oC : IsTrip hC TO x b c := oC
    refine wpAny_bind (wpAny_letGo (wpAny_pure ?_))
    refine wpAny_bind (wpAny_bind (wpAny_onRaise ?_))
    show wpAny _ _ (Builtin.SmallTypes.nextOf (.ref i2) >>= _) _ _ _
    have t2 := ((h2.extBut sA.extBut n2z).extBut sB.extBut (Ne.symm n12)).extBut sC.extBut n2O
    have u2 := ((hl2.extBut sA.extBut m2z).extBut sB.extBut m21).extBut sC.extBut m2O
    have gC : IsZip hC z TI TO .ellipsis := sC.extBut _ _ (Ne.symm nOz) (sB.extBut _ _ (Ne.symm n1z) gA)
    cases hy : ys[k]? with
    | none =>
      refine wpAny_bind (wpAny_nextOf_list_end calm t2 u2 hy fun hD e sD ⟨ob, qe, qc⟩ => ?_)
      have gD : IsZip hD z TI TO .ellipsis := sD _ _ (Ne.symm n2z) gC
      exact wpAny_setField_rec gD (by simp) fun hE _ sE => fin hE e (fun p o p1 p2 p3 p4 p5 q => sE.extBut _ _ p1 (sD _ _ p4 (sC.extBut _ _ p2 (sB.extBut _ _ p3 (sA.extBut _ _ p1 q))))) ⟨ob, sE.extBut _ _ (noz gD qe qc) qe, qc⟩
    | some y =>
      have hu : zs[k]? = none := by
        rcases ends with q | q | q
        · rw [hx] at q; cases q
        · rw [hy] at q; cases q
        · exact q
      refine wpAny_bind (wpAny_nextOf_list_item t2 u2 hy fun hD iD sD => wpAny_pure ?_)
      have oD : IsTrip hD TO x b c := sD.extBut _ _ (Ne.symm n2O) oC
      refine wpAny_bind (wpAny_seqItems oD rfl (wpAny_bind (updTrip oD fun hE oE sE => ?_)))
      refine wpAny_bind (wpAny_letGo (wpAny_pure ?_))
      refine wpAny_bind (wpAny_bind (wpAny_onRaise ?_))
      show wpAny _ _ (Builtin.SmallTypes.nextOf (.ref i3) >>= _) _ _ _
      have gE : IsZip hE z TI TO .ellipsis := sE.extBut _ _ (Ne.symm nOz) (sD.extBut _ _ (Ne.symm n2z) gC)
      refine wpAny_bind (wpAny_nextOf_list_end calm (((((h3.extBut sA.extBut n3z).extBut sB.extBut (Ne.symm n13)).extBut sC.extBut n3O).extBut sD.extBut (Ne.symm n23)).extBut sE.extBut n3O)
        (((((hl3.extBut sA.extBut m3z).extBut sB.extBut m31).extBut sC.extBut m3O).extBut sD.extBut m32).extBut sE.extBut m3O) hu fun hF e sF ⟨ob, qe, qc⟩ => ?_)
      have gF : IsZip hF z TI TO .ellipsis := sF _ _ (Ne.symm n3z) gE
      exact wpAny_setField_rec gF (by simp) fun hG _ sG => fin hG e (fun p o p1 p2 p3 p4 p5 q => sG.extBut _ _ p1 (sF _ _ p5 (sE.extBut _ _ p2 (sD.extBut _ _ p4 (sC.extBut _ _ p2 (sB.extBut _ _ p3 (sA.extBut _ _ p1 q))))))) ⟨ob, sG.extBut _ _ (noz gF qe qc) qe, qc⟩
theorem pyNext_zip3 {z TI TO i1 i2 i3 l1 l2 l3 : Addr} {k : Nat} {xs ys zs : Array Value} {x y u a b c : Value} {Q : Option Value → Shared → Prop} (D : Apart3 z TI TO i1 i2 i3 l1 l2 l3)
    (gz : IsZip s.heap z TI TO .none) (gI : IsTrip s.heap TI (.ref i1) (.ref i2) (.ref i3)) (gO : IsTrip s.heap TO a b c)
    (h1 : s.heap.IsListIter i1 l1 k) (h2 : s.heap.IsListIter i2 l2 k) (h3 : s.heap.IsListIter i3 l3 k) (hl1 : s.heap.IsList l1 xs) (hl2 : s.heap.IsList l2 ys) (hl3 : s.heap.IsList l3 zs)
    (hx : xs[k]? = some x) (hy : ys[k]? = some y) (hu : zs[k]? = some u)
    (fin : ∀ h', IsZip h' z TI TO (rawInt s.heap.objs.size) → IsTrip h' TO x y u → h'.IsListIter i1 l1 (k + 1) → h'.IsListIter i2 l2 (k + 1) → h'.IsListIter i3 l3 (k + 1) → IsTrip h' s.heap.objs.size x y u → h'.objs.size = s.heap.objs.size + 1 →
      KeepZ z TO i1 i2 i3 s.heap h' → Q (some (.ref s.heap.objs.size)) { s with heap := h' }) : wpAny (model prog w) A (pyNext (.ref z)) Q E s := by
  have ty : s.TypeIs (.ref z) "zip" := ⟨_, gz, rfl⟩
  unfold pyNext
  refine wpAny_bind (wpAny_attempt (wpAny_callSpecial?_slot (name := Str.ofString "__next__") ty F.slot_zip_next (wpAny_call_entry F.slot_zip_next ty F.entry_zip_next ?_ (F.args_zip_next_1 _))))
  exact zip3_next D gz gI gO h1 h2 h3 hl1 hl2 hl3 hx hy hu fun h' b1 b2 b3 b4 b5 b6 b7 b8 => wpAny_pure (fin h' b1 b2 b3 b4 b5 b6 b7 b8)
theorem pyNext_zip3_end {z TI TO i1 i2 i3 l1 l2 l3 : Addr} {k : Nat} {xs ys zs : Array Value} {a b c : Value} {Q : Option Value → Shared → Prop} (calm : A.handled = none) (D : Apart3 z TI TO i1 i2 i3 l1 l2 l3)
    (gz : IsZip s.heap z TI TO .none) (gI : IsTrip s.heap TI (.ref i1) (.ref i2) (.ref i3)) (gO : IsTrip s.heap TO a b c)
    (h1 : s.heap.IsListIter i1 l1 k) (h2 : s.heap.IsListIter i2 l2 k) (h3 : s.heap.IsListIter i3 l3 k) (hl1 : s.heap.IsList l1 xs) (hl2 : s.heap.IsList l2 ys) (hl3 : s.heap.IsList l3 zs)
    (ends : xs[k]? = none ∨ ys[k]? = none ∨ zs[k]? = none)
    (fin : ∀ h', KeepZ z TO i1 i2 i3 s.heap h' → Q none { s with heap := h' }) : wpAny (model prog w) A (pyNext (.ref z)) Q E s := by
  have ty : s.TypeIs (.ref z) "zip" := ⟨_, gz, rfl⟩
  unfold pyNext
  refine wpAny_bind (wpAny_attempt (wpAny_callSpecial?_slot (name := Str.ofString "__next__") ty F.slot_zip_next (wpAny_call_entry F.slot_zip_next ty F.entry_zip_next ?_ (F.args_zip_next_1 _))))
  refine zip3_stop calm D gz gI gO h1 h2 h3 hl1 hl2 hl3 ends fun h' e kz ⟨ob, qe, qc⟩ => ?_
  refine wpAny_bind (wpAny_isInstance (T := "StopIteration") (b := true) ⟨ob, qe, qc⟩ isSubtype_stop (wpAny_pure (fin _ kz)))
abbrev zA (h : Heap) (l : Addr) : Heap := h.push { cls := .type "list_iterator", data := .fields #[.ref l, .int 0 0] }
abbrev zT (h : Heap) (l1 l2 l3 : Addr) : Heap := (zA (zA (zA h l1) l2) l3).push { cls := .type "tuple", data := .seq #[.ref h.objs.size, .ref (zA h l1).objs.size, .ref (zA (zA h l1) l2).objs.size] }
abbrev zN (h : Heap) (l1 l2 l3 : Addr) : Heap := (zT h l1 l2 l3).push { cls := .type "tuple", data := .seq #[.none, .none, .none] }
abbrev zZ (h : Heap) (l1 l2 l3 : Addr) : Heap := (zN h l1 l2 l3).push { cls := .type "zip", data := .fields #[.none, .bool false, .bool false, .ref (zA (zA (zA h l1) l2) l3).objs.size, .ref (zT h l1 l2 l3).objs.size] }
theorem meets_zip3 (l1 l2 l3 : Addr) (xs ys zs : Array Value) :
    Meets (Builtin.«zip.__new__» ⟨[.type "zip", .ref l1, .ref l2, .ref l3], []⟩) (fun _ R s => s.heap.IsList l1 xs ∧ s.heap.IsList l2 ys ∧ s.heap.IsList l3 zs ∧
      R (.ok (.ret (.ref (zN s.heap l1 l2 l3).objs.size))) { s with heap := zZ s.heap l1 l2 l3 }) :=
  .of_wp fun prog w A R s h => by
    obtain ⟨hp, g, d, tk, os⟩ := s; obtain ⟨hl1, hl2, hl3, h⟩ := h
    have hsub := sub_zip
    have q1 : Heap.IsList (Shared.heap ⟨hp, g, d, tk, os⟩) l1 xs := hl1
    have q2 : Heap.IsList (Shared.heap ⟨hp.push { cls := .type "list_iterator", data := .fields #[.ref l1, .int 0 0] }, g, d, tk, os⟩) l2 ys := Heap.IsList.push hl2 _
    have q3 : Heap.IsList (Shared.heap ⟨(hp.push { cls := .type "list_iterator", data := .fields #[.ref l1, .int 0 0] }).push { cls := .type "list_iterator", data := .fields #[.ref l2, .int 0 0] }, g, d, tk, os⟩) l3 zs := Heap.IsList.push (Heap.IsList.push hl3 _) _
    wp_walk using wpAny_pyIter_list q1, wpAny_pyIter_list q2, wpAny_pyIter_list q3
    exact ⟨_, rfl, h⟩
theorem call_zip3 {l1 l2 l3 : Addr} {xs ys zs : Array Value} {Q : Value → Shared → Prop} (hl1 : s.heap.IsList l1 xs) (hl2 : s.heap.IsList l2 ys) (hl3 : s.heap.IsList l3 zs)
    (h : ∀ h', IsZip h' (s.heap.objs.size + 5) (s.heap.objs.size + 3) (s.heap.objs.size + 4) .none → IsTrip h' (s.heap.objs.size + 3) (.ref s.heap.objs.size) (.ref (s.heap.objs.size + 1)) (.ref (s.heap.objs.size + 2)) →
      IsTrip h' (s.heap.objs.size + 4) .none .none .none → h'.IsListIter s.heap.objs.size l1 0 → h'.IsListIter (s.heap.objs.size + 1) l2 0 → h'.IsListIter (s.heap.objs.size + 2) l3 0 →
      (∀ p ob, s.heap.get? p = some ob → h'.get? p = some ob) → Q (.ref (s.heap.objs.size + 5)) { s with heap := h' }) :
    wpAny (model prog w) A (call (.type "zip") [.ref l1, .ref l2, .ref l3]) Q E s := by
  refine callType_new F.called_zip (by decide) (zipTypeCall3 _ _ _) (zipNewCall3 _ _ _) (fun obj => objInit4 obj _ _ _) F.entry_zip_new (meets_zip3 l1 l2 l3 xs ys zs) ⟨hl1, hl2, hl3, ?_⟩
  have z1 : (zA s.heap l1).objs.size = s.heap.objs.size + 1 := Heap.size_push ..
  have z2 : (zA (zA s.heap l1) l2).objs.size = s.heap.objs.size + 2 := by rw [Heap.size_push, z1]
  have z3 : (zA (zA (zA s.heap l1) l2) l3).objs.size = s.heap.objs.size + 3 := by rw [Heap.size_push, z2]
  have z4 : (zT s.heap l1 l2 l3).objs.size = s.heap.objs.size + 4 := by rw [Heap.size_push, z3]
  have z5 : (zN s.heap l1 l2 l3).objs.size = s.heap.objs.size + 5 := by rw [Heap.size_push, z4]
  have g6 : (zZ s.heap l1 l2 l3).get? (zN s.heap l1 l2 l3).objs.size = some _ := Heap.get?_push_size _ rfl
  have g5 : (zZ s.heap l1 l2 l3).get? (zT s.heap l1 l2 l3).objs.size = some _ := Heap.get?_push_of_some _ (Heap.get?_push_size _ rfl)
  have g4 : (zZ s.heap l1 l2 l3).get? (zA (zA (zA s.heap l1) l2) l3).objs.size = some _ := Heap.get?_push_of_some _ (Heap.get?_push_of_some _ (Heap.get?_push_size _ rfl))
  have g3 : (zZ s.heap l1 l2 l3).get? (zA (zA s.heap l1) l2).objs.size = some _ := Heap.get?_push_of_some _ (Heap.get?_push_of_some _ (Heap.get?_push_of_some _ (Heap.get?_push_size _ rfl)))
  have g2 : (zZ s.heap l1 l2 l3).get? (zA s.heap l1).objs.size = some _ := Heap.get?_push_of_some _ (Heap.get?_push_of_some _ (Heap.get?_push_of_some _ (Heap.get?_push_of_some _ (Heap.get?_push_size _ rfl))))
  have g1 : (zZ s.heap l1 l2 l3).get? s.heap.objs.size = some _ := Heap.get?_push_of_some _ (Heap.get?_push_of_some _ (Heap.get?_push_of_some _ (Heap.get?_push_of_some _ (Heap.get?_push_of_some _ (Heap.get?_push_size _ rfl)))))
  show _ ∧ _
  rw [z3, z4, z5] at g6
  rw [z1, z2, z3] at g4
  rw [z4] at g5
  rw [z2] at g3
  rw [z1] at g2
  rw [z5]
  exact ⟨⟨_, g6, rfl⟩, h _ g6 g4 g5 ⟨_, g1, rfl, rfl⟩ ⟨_, g2, rfl, rfl⟩ ⟨_, g3, rfl, rfl⟩ fun p ob q =>
    Heap.get?_push_of_some _ (Heap.get?_push_of_some _ (Heap.get?_push_of_some _ (Heap.get?_push_of_some _ (Heap.get?_push_of_some _ (Heap.get?_push_of_some _ q)))))⟩
end
end TW

set_option Elab.async false
set_option linter.all false
set_option maxRecDepth 100000
namespace TW
open PySem PySem.Spec PyProof.Rows L2
def Itz3 (K : PySem.W.Frag) (a b c : Addr) : It :=
  ⟨fun i H => ∃ (xs ys zs : List V) (x y z : V), SqL K H a xs ∧ SqL K H b ys ∧ SqL K H c zs ∧ xs[i]? = some x ∧ ys[i]? = some y ∧ zs[i]? = some z,
    fun i H v H' => ∃ T x y z, v = .ref T ∧ H T = none ∧ H' = upd H T (.tup [x, y, z]) ∧ (∀ xs, SqL K H a xs → xs[i]? = some x) ∧ (∀ ys, SqL K H b ys → ys[i]? = some y) ∧ ∀ zs, SqL K H c zs → zs[i]? = some z,
    fun i H => ∃ xs ys zs : List V, SqL K H a xs ∧ SqL K H b ys ∧ SqL K H c zs ∧ (xs.length ≤ i ∨ ys.length ≤ i ∨ zs.length ≤ i)⟩
theorem turn_zip3 {P : Program} {w : World} {K : PySem.W.Frag} {elts : List Expr} {kk : Nat} {tpos : Pos} {a b c z TI TO i1 i2 i3 : Addr} (D : Apart3 z TI TO i1 i2 i3 a b c) :
    Turn P w K (.Tuple elts kk tpos) (Itz3 K a b c) [z, TI, TO, i1, i2, i3] z
      (fun i h => IsZip h z TI TO .none ∧ IsTrip h TI (.ref i1) (.ref i2) (.ref i3) ∧ (∃ x y u, IsTrip h TO x y u) ∧ h.IsListIter i1 a i ∧ h.IsListIter i2 b i ∧ h.IsListIter i3 c i) where
  mem := by simp
  obj := fun i h st p hp => by
    obtain ⟨gz, gI, ⟨x, y, u, gO⟩, ⟨o1, e1, _, d1⟩, ⟨o2, e2, _, d2⟩, ⟨o3, e3, _, d3⟩⟩ := st
    have e' : p = z ∨ p = TI ∨ p = TO ∨ p = i1 ∨ p = i2 ∨ p = i3 := by simpa using hp
    rcases e' with q | q | q | q | q | q
    · rw [q]; exact ⟨_, gz, fun v q => nomatch q⟩
    · rw [q]; exact ⟨_, gI, fun v q => nomatch q⟩
    · rw [q]; exact ⟨_, gO, fun v q => nomatch q⟩
    · rw [q]; exact ⟨o1, e1, fun v q => by rw [d1] at q; cases q⟩
    · rw [q]; exact ⟨o2, e2, fun v q => by rw [d2] at q; cases q⟩
    · rw [q]; exact ⟨o3, e3, fun v q => by rw [d3] at q; cases q⟩
  keep := fun i h h' st k => by
    obtain ⟨gz, gI, ⟨x, y, u, gO⟩, h1, h2, h3⟩ := st
    exact ⟨k z (by simp) _ gz, k TI (by simp) _ gI, ⟨x, y, u, k TO (by simp) _ gO⟩, h1.at fun o q => k i1 (by simp) o q, h2.at fun o q => k i2 (by simp) o q, h3.at fun o q => k i3 (by simp) o q⟩
  item := by
    intro X hP hw hK hc i pins s σ H E I hf st hg
    subst hP hw hK
    obtain ⟨gz, gI, ⟨x0, y0, u0, gO⟩, h1, h2, h3⟩ := st
    obtain ⟨xs, ys, zs, x, y, u, hqx, hqy, hqz, hx, hy, hu⟩ := hg
    obtain ⟨its, rv, p1, _⟩ := I.list hqx
    obtain ⟨its2, rv2, p2, _⟩ := I.list hqy
    obtain ⟨its3, rv3, p3, _⟩ := I.list hqz
    obtain ⟨w1, hw1, ru1⟩ := rv.get hx
    obtain ⟨w2, hw2, ru2⟩ := rv2.get hy
    obtain ⟨w3, hw3, ru3⟩ := rv3.get hu
    have hzl : z < s.heap.objs.size := Heap.lt_size gz
    refine pyNext_zip3 D gz gI gO h1 h2 h3 p1.isList p2.isList p3.isList (x := w1) (y := w2) (u := w3) (by simpa using hw1) (by simpa using hw2) (by simpa using hw3) fun h' z' TO' h1' h2' h3' hT hsz hk => ?_
    refine ⟨_, rfl, wpAny_letOwnedTupleGo_zip (s := { s with heap := h' }) z' fun h'' z'' sb => ?_⟩
    have hT2 : h''.get? s.heap.objs.size = some { cls := .type "tuple", data := .seq #[w1, w2, w3] } := (sb.2 _ (Nat.ne_of_gt hzl)).trans hT
    have new : ObjOk X.prog X.w (upd H s.heap.objs.size (.tup [x, y, u])) h'' s.heap.objs.size (.tup [x, y, u]) :=
      ⟨by show 3 ≤ sizeLine; decide, [w1, w2, w3], .cons ru1 (.cons ru2 (.cons ru3 .nil)), ⟨_, hT2, rfl, _, rfl⟩⟩
    have I1 : Inv X pins σ (upd H s.heap.objs.size (.tup [x, y, u])) { s with heap := h'' } :=
      I.turnedNew (t' := s.toks) (ch := [z, TI, TO, i1, i2, i3]) (fun p o hb q => (sb.2 p (fun q' => hb (by simp [q']))).trans (hk p o (fun q' => hb (by simp [q'])) (fun q' => hb (by simp [q'])) (fun q' => hb (by simp [q'])) (fun q' => hb (by simp [q'])) (fun q' => hb (by simp [q'])) q)) hf (Nat.le_refl _) new
    obtain ⟨tIz, tIO⟩ := D.ti
    have tOz := D.to_
    obtain ⟨n1z, n1O, n1I⟩ := D.n1
    obtain ⟨n2z, n2O, n2I⟩ := D.n2
    obtain ⟨n3z, n3O, n3I⟩ := D.n3
    refine ⟨.ref s.heap.objs.size, _, I1, rfl, ⟨_, x, y, u, rfl, I.hok.fresh (Nat.le_refl _), rfl, fun l hl => by rw [I.list_inj hl hqx]; exact hx, fun l hl => by rw [I.list_inj hl hqy]; exact hy, fun l hl => by rw [I.list_inj hl hqz]; exact hu⟩, ⟨z'', ?_, ⟨w1, w2, w3, ?_⟩, ?_, ?_, ?_⟩, fun p hpm => ?_⟩
    · exact (sb.2 _ tIz).trans (hk _ _ tIz tIO (Ne.symm n1I) (Ne.symm n2I) (Ne.symm n3I) gI)
    · exact (sb.2 _ tOz).trans TO'
    · exact h1'.at fun o q => (sb.2 _ n1z).trans q
    · exact h2'.at fun o q => (sb.2 _ n2z).trans q
    · exact h3'.at fun o q => (sb.2 _ n3z).trans q
    · have hlt : p < s.heap.objs.size := by
        have e' : p = z ∨ p = TI ∨ p = TO ∨ p = i1 ∨ p = i2 ∨ p = i3 := by simpa using hpm
        rcases e' with q | q | q | q | q | q
        · rw [q]; exact hzl
        · rw [q]; exact Heap.lt_size gI
        · rw [q]; exact Heap.lt_size gO
        · rw [q]; obtain ⟨_, e1, _⟩ := h1; exact Heap.lt_size e1
        · rw [q]; obtain ⟨_, e2, _⟩ := h2; exact Heap.lt_size e2
        · rw [q]; obtain ⟨_, e3, _⟩ := h3; exact Heap.lt_size e3
      rw [upd_ne (Nat.ne_of_lt hlt)]
      exact (hf p hpm).1
  done := by
    intro X hP hw hK hc i pins s σ H E I hf st hg
    subst hP hw hK
    obtain ⟨gz, gI, ⟨x0, y0, u0, gO⟩, h1, h2, h3⟩ := st
    obtain ⟨xs, ys, zs, hqx, hqy, hqz, hend⟩ := hg
    obtain ⟨its, rv, p1, _⟩ := I.list hqx
    obtain ⟨its2, rv2, p2, _⟩ := I.list hqy
    obtain ⟨its3, rv3, p3, _⟩ := I.list hqz
    have l1 := rv.length
    have l2 := rv2.length
    have l3 := rv3.length
    have he : its.toArray[i]? = none ∨ its2.toArray[i]? = none ∨ its3.toArray[i]? = none := by
      rcases hend with q | q | q
      · exact .inl (by simp; omega)
      · exact .inr (.inl (by simp; omega))
      · exact .inr (.inr (by simp; omega))
    exact pyNext_zip3_end (I.ok.hd hc) D gz gI gO h1 h2 h3 p1.isList p2.isList p3.isList he fun h' hk => ⟨rfl, I.turnedL (t' := s.toks) (ch := [z, TI, TO, i1, i2, i3]) (fun p o hb q =>
      hk p o (fun q' => hb (by simp [q'])) (fun q' => hb (by simp [q'])) (fun q' => hb (by simp [q'])) (fun q' => hb (by simp [q'])) (fun q' => hb (by simp [q'])) q) hf⟩
  self := fun A i s Q E st h => wpAny_pyIter_zip st.1 h
def iZip3 (K : PySem.W.Frag) (ta : TA) : TI := fun σ H R => ta σ H fun vs H1 => ∃ a b c xs ys zs, vs = [.ref a, .ref b, .ref c] ∧ SqL K H1 a xs ∧ SqL K H1 b ys ∧ SqL K H1 c zs ∧ R (Itz3 K a b c) H1
theorem pi_zip3 {X : Cx} {e e2 e3 : Expr} {ta : TA} {p pos tpos : Pos} {elts : List Expr} {kk : Nat} (hg : Gl X "zip") (hm : X.mg "zip" = none) (ha : PA X [e, e2, e3] ta)
    (hs : starEach [e, e2, e3] X.env = (false, eval e X.env) :: starEach [e2, e3] X.env := by rfl) (hpl : (backTo pos (starEach [e2, e3] X.env)).any (·.1) = false := by rfl) :
    PI X (.Tuple elts kk tpos) (.Call (.Name "zip" p) [e, e2, e3] [] pos) (iZip3 X.K ta) := by
  intro pins s σ H R I h
  refine Call_ (ld_blt I hg hm boot_zip5 (PyProof.Rows.callWith_type1 (thn (ha pos pins s σ H _ I h) fun us s1 ⟨vs, H1, I1, r1, q1⟩ => ?_) hs hpl))
  obtain ⟨a, b, c, xs, ys, zs, ex, hqx, hqy, hqz, q⟩ := q1
  subst ex
  obtain ⟨u1, u2, u3, rfl, r, r', r''⟩ : ∃ u1 u2 u3, us = [u1, u2, u3] ∧ RelV (.ref a) u1 ∧ RelV (.ref b) u2 ∧ RelV (.ref c) u3 := by
    cases r1 with
    | cons r rr =>
      cases rr with
      | cons r' rr =>
        cases rr with
        | cons r'' rr =>
          cases rr
          exact ⟨_, _, _, rfl, r, r', r''⟩
  cases r
  cases r'
  cases r''
  obtain ⟨its, rv, p1, _⟩ := I1.list hqx
  obtain ⟨its2, rv2, p2, _⟩ := I1.list hqy
  obtain ⟨its3, rv3, p3, _⟩ := I1.list hqz
  have la : a < s1.heap.objs.size := p1.lt
  have lb : b < s1.heap.objs.size := p2.lt
  have lc : c < s1.heap.objs.size := p3.lt
  refine call_zip3 p1.isList p2.isList p3.isList fun h' hz hTI hTO h1 h2 h3 hk => wpAny_pyIter_zip hz ?_
  have I2 : Inv X pins σ H1 { s1 with heap := h' } := I1.kept (t' := s1.toks) hk
  have D : Apart3 (s1.heap.objs.size + 5) (s1.heap.objs.size + 3) (s1.heap.objs.size + 4) s1.heap.objs.size (s1.heap.objs.size + 1) (s1.heap.objs.size + 2) a b c := by
    generalize s1.heap.objs.size = n at *
    have hA : ∀ l : Addr, l < n → l ≠ n + 5 ∧ l ≠ n + 4 ∧ l ≠ n ∧ l ≠ n + 1 ∧ l ≠ n + 2 := fun l hl =>
      ⟨Nat.ne_of_lt (Nat.lt_of_lt_of_le hl (Nat.le_add_right n 5)), Nat.ne_of_lt (Nat.lt_of_lt_of_le hl (Nat.le_add_right n 4)), Nat.ne_of_lt hl, Nat.ne_of_lt (Nat.lt_of_lt_of_le hl (Nat.le_add_right n 1)), Nat.ne_of_lt (Nat.lt_of_lt_of_le hl (Nat.le_add_right n 2))⟩
    refine ⟨fun i hi => ?_, ⟨?_, ?_⟩, ?_, ⟨?_, ?_, ?_⟩, fun l hl => ?_⟩
    · have e' : i = n ∨ i = n + 1 ∨ i = n + 2 := by simpa using hi
      rcases e' with q | q | q
      · subst q; exact ⟨Nat.ne_of_lt (Nat.lt_add_of_pos_right (by decide)), Nat.ne_of_lt (Nat.lt_add_of_pos_right (by decide)), Nat.ne_of_lt (Nat.lt_add_of_pos_right (by decide))⟩
      · subst q; exact ⟨Nat.ne_of_lt (Nat.add_lt_add_left (by decide) n), Nat.ne_of_lt (Nat.add_lt_add_left (by decide) n), Nat.ne_of_lt (Nat.add_lt_add_left (by decide) n)⟩
      · subst q; exact ⟨Nat.ne_of_lt (Nat.add_lt_add_left (by decide) n), Nat.ne_of_lt (Nat.add_lt_add_left (by decide) n), Nat.ne_of_lt (Nat.add_lt_add_left (by decide) n)⟩
    · exact Nat.ne_of_lt (Nat.add_lt_add_left (by decide) n)
    · exact Nat.ne_of_lt (Nat.add_lt_add_left (by decide) n)
    · exact Nat.ne_of_lt (Nat.add_lt_add_left (by decide) n)
    · exact Nat.ne_of_lt (Nat.lt_add_of_pos_right (by decide))
    · exact Nat.ne_of_lt (Nat.lt_add_of_pos_right (by decide))
    · exact Nat.ne_of_lt (Nat.add_lt_add_left (by decide) n)
    · have e' : l = a ∨ l = b ∨ l = c := by simpa using hl
      rcases e' with q | q | q
      · subst q; exact hA _ la
      · subst q; exact hA _ lb
      · subst q; exact hA _ lc
  refine ⟨s1.heap.objs.size + 5, [s1.heap.objs.size + 5, s1.heap.objs.size + 3, s1.heap.objs.size + 4, s1.heap.objs.size, s1.heap.objs.size + 1, s1.heap.objs.size + 2], _, _, H1, rfl, I2, turn_zip3 D, ⟨hz, hTI, ⟨_, _, _, hTO⟩, h1, h2, h3⟩, fun p hpm => ?_, q⟩
  have e' : p = s1.heap.objs.size + 5 ∨ p = s1.heap.objs.size + 3 ∨ p = s1.heap.objs.size + 4 ∨ p = s1.heap.objs.size ∨ p = s1.heap.objs.size + 1 ∨ p = s1.heap.objs.size + 2 := by simpa using hpm
  have hle : s1.heap.objs.size ≤ p := by
    rcases e' with z | z | z | z | z | z
    · rw [z]; exact Nat.le_add_right _ _
    · rw [z]; exact Nat.le_add_right _ _
    · rw [z]; exact Nat.le_add_right _ _
    · rw [z]; exact Nat.le_refl _
    · rw [z]; exact Nat.le_add_right _ _
    · rw [z]; exact Nat.le_add_right _ _
  exact I1.fpOk hle (I1.hok.fresh hle)
end TW

set_option Elab.async false
set_option linter.all false
set_option maxRecDepth 100000
namespace TW
open PySem PySem.Spec PyProof.Rows L2
section
variable {X : Cx}
def rIn (g : Int → Int → Int) : V → V → Hp → VK → Prop := fun x y H Q => ∃ i j, x = .int i ∧ y = .int j ∧ Q (.int (g i j)) H
theorem in_and : InOp X .BitAnd (rIn Builtin.bitAnd) := by
  rintro pins s σ H x y u v Q I rx ry ⟨i, j, rfl, rfl, q⟩
  obtain ⟨t, rfl⟩ := (show ∃ t, u = Value.int i t from rx)
  obtain ⟨t', rfl⟩ := (show ∃ t', v = Value.int j t' from ry)
  exact PyProof.Rows.iand_int ⟨.int (Builtin.bitAnd i j), H, I.tok _, ⟨_, rfl⟩, q⟩
theorem in_fdiv : InOp X .FloorDiv (fun x y H Q => ∃ i j, x = .int i ∧ y = .int j ∧ CDiv i j ∧ Q (.int (i / j)) H) := by
  rintro pins s σ H x y u v Q I rx ry ⟨i, j, rfl, rfl, hc, q⟩
  obtain ⟨t, rfl⟩ := (show ∃ t, u = Value.int i t from rx)
  obtain ⟨t', rfl⟩ := (show ∃ t', v = Value.int j t' from ry)
  refine PyProof.Rows.ifloordiv_int (by have := hc.1; omega) ?_ (.inl (PyProof.noPylong_small (by have := hc.1; have := hc.2; omega)))
  rw [Int.fdiv_eq_ediv_of_nonneg _ (by have := hc.1; omega)]
  exact ⟨.int (i / j), H, I.tok _, ⟨_, rfl⟩, q⟩
theorem ip_or : PIp X .BitOr (rIn Builtin.bitOr) := by
  intro pins s σ H x y v u Q I rx ry h
  obtain ⟨i, j, rfl, rfl, q⟩ := h
  obtain ⟨t, rfl⟩ := (show ∃ t, v = Value.int i t from rx)
  obtain ⟨t', rfl⟩ := (show ∃ t', u = Value.int j t' from ry)
  exact PyProof.Rows.ior_int ⟨.int (Builtin.bitOr i j), H, I.tok _, ⟨_, rfl⟩, q⟩
end
/-- all but what stands at D is as it was -/
def SameX (D : Addr) (H H' : Hp) : Prop := ∀ b o, b ≠ D → H b = some o → H' b = some o
theorem SameX.of {D : Addr} {H H' : Hp} (h : Same H H') : SameX D H H' := fun b o _ e => h b o e
theorem SameX.upd {D : Addr} {H : Hp} {o : HO} : SameX D H (upd H D o) := fun b u n e => by rw [upd_ne n]; exact e
theorem same_upd {H : Hp} {p : Addr} {o : HO} (h : H p = none) : Same H (upd H p o) := fun b u e => by rw [upd_ne (ne_of_none e h)]; exact e
/-- what holds before turn i -/
structure AtTurn (D : Addr) (H1 : Hp) (R : Nat → V → Hp → Prop) (i : Nat) (H : Hp) : Prop where
  same : Same H1 H
  acc : ∃ acc : List V, H D = some (.lst acc) ∧ acc.length = i ∧ ∀ j v, acc[j]? = some v → R j v H
theorem AtTurn.start {D : Addr} {H1 : Hp} {R : Nat → V → Hp → Prop} (h : H1 D = none) : AtTurn D H1 R 0 (upd H1 D (.lst [])) :=
  ⟨same_upd h, [], upd_same, rfl, fun j v e => by simp at e⟩
theorem AtTurn.next {D : Addr} {H1 H H4 : Hp} {R : Nat → V → Hp → Prop} {i : Nat} {y : V} (hD : H1 D = none) (stay : ∀ i v H H', R i v H → SameX D H H' → R i v H') (A : AtTurn D H1 R i H) (s : Same H H4) (hn : i < sizeLine) (hy : R i y H4) :
    ∃ acc, H4 D = some (.lst acc) ∧ acc.length < sizeLine ∧ AtTurn D H1 R (i + 1) (upd H4 D (.lst (acc ++ [y]))) := by
  obtain ⟨s1, acc, h1, h2, h3⟩ := A
  refine ⟨acc, s _ _ h1, by omega, fun b o e => ?_, acc ++ [y], upd_same, by rw [List.length_append, h2]; rfl, fun j v e => ?_⟩
  · rw [upd_ne (ne_of_none e hD)]; exact s _ _ (s1 _ _ e)
  · refine stay j v H4 _ ?_ SameX.upd
    by_cases hj : j < acc.length
    · rw [List.getElem?_append_left hj] at e
      exact stay j v H H4 (h3 j v e) (SameX.of s)
    · rw [List.getElem?_append_right (by omega)] at e
      have e0 : j - acc.length = 0 := by
        rcases Nat.eq_zero_or_pos (j - acc.length) with z | z
        · exact z
        · rw [List.getElem?_eq_none (by simp; omega)] at e; cases e
      rw [e0] at e
      have ev : y = v := Option.some.inj e
      have ej : j = i := by omega
      rw [← ev, ej]
      exact hy
/-- a list of numbers -/
def isInts (f : Nat → Int) : Nat → V → Hp → Prop := fun i v _ => v = .int (f i)
theorem ints_acc {acc : List V} {f : Nat → Int} {n : Nat} (hl : acc.length = n) (h : ∀ (j : Nat) (v : V), acc[j]? = some v → v = V.int (f j)) : acc = ((List.range n).map f).map V.int := by
  apply List.ext_getElem?
  intro j
  by_cases hj : j < acc.length
  · rw [List.getElem?_eq_getElem hj, h j _ (List.getElem?_eq_getElem hj)]
    have : j < n := by omega
    simp [this]
  · rw [List.getElem?_eq_none (by omega), List.getElem?_eq_none (by simp; omega)]
/-- over a zip of two lists -/
theorem lc_zip {K : PySem.W.Frag} {a b : Addr} {xs ys : List V} {g : TG} {tt : TT} {te : TE} {vs : List Nat} {σ : L2.St} {H1 : Hp} {D : Addr} {Qd : Hp → Prop} (Pv : Nat → Hp → Prop) (h0 : Pv 0 (upd H1 D (.lst []))) (hl : ∀ i H, Pv i H → SqL K H a xs ∧ SqL K H b ys)
    (hs : ∀ i x y T H, xs[i]? = some x → ys[i]? = some y → H T = none → Pv i H → g (.ref T) (wipe σ vs) (upd H T (.tup [x, y])) fun σ2 H2 => wipe σ2 vs = wipe σ vs ∧ tt σ2 H2 fun b H3 =>
      if b = true then te σ2 H3 fun y H4 => ∃ acc, H4 D = some (.lst acc) ∧ acc.length < sizeLine ∧ Pv (i + 1) (upd H4 D (.lst (acc ++ [y]))) else Pv (i + 1) H3) (hd : ∀ H, Pv (min xs.length ys.length) H → Qd H) :
    ∃ W : Nat → Nat → Hp → Prop, (∃ m, W 0 m (upd H1 D (.lst []))) ∧ ∀ i m H, W i m H →
      ((Itz K a b).stop i H ∧ Qd H) ∨ ((Itz K a b).go i H ∧ ∃ Nx : Hp → Prop, (∀ H', Nx H' → ∃ m', m' < m ∧ W (i + 1) m' H') ∧ ∀ x H', (Itz K a b).yld i H x H' → g x (wipe σ vs) H' fun σ2 H2 => wipe σ2 vs = wipe σ vs ∧ tt σ2 H2 fun b H3 =>
        if b = true then te σ2 H3 fun y H4 => ∃ acc, H4 D = some (.lst acc) ∧ acc.length < sizeLine ∧ Nx (upd H4 D (.lst (acc ++ [y]))) else Nx H3) := by
  refine ⟨fun i m H => m = min xs.length ys.length - i ∧ i ≤ min xs.length ys.length ∧ Pv i H, ⟨min xs.length ys.length, by simp, Nat.zero_le _, h0⟩, ?_⟩
  rintro i m H ⟨rfl, hi, p⟩
  obtain ⟨q1, q2⟩ := hl i H p
  by_cases hlt : i < min xs.length ys.length
  · have hx : i < xs.length := by omega
    have hy : i < ys.length := by omega
    refine .inr ⟨⟨xs, ys, xs[i], ys[i], q1, q2, by simp [hx], by simp [hy]⟩, Pv (i + 1), fun H' p' => ⟨min xs.length ys.length - (i + 1), by omega, rfl, hlt, p'⟩, fun x H' y => ?_⟩
    obtain ⟨T, x1, y1, rfl, hT, rfl, e1, e2⟩ := y
    exact hs i x1 y1 T H (e1 xs q1) (e2 ys q2) hT p
  · have e : i = min xs.length ys.length := by omega
    subst e
    exact .inl ⟨⟨xs, ys, q1, q2, by omega⟩, hd H p⟩
/-- over a zip of three lists -/
theorem lc_zip3 {K : PySem.W.Frag} {a b c : Addr} {xs ys zs : List V} {g : TG} {tt : TT} {te : TE} {vs : List Nat} {σ : L2.St} {H1 : Hp} {D : Addr} {Qd : Hp → Prop} (Pv : Nat → Hp → Prop) (h0 : Pv 0 (upd H1 D (.lst []))) (hl : ∀ i H, Pv i H → SqL K H a xs ∧ SqL K H b ys ∧ SqL K H c zs)
    (hs : ∀ i x y z T H, xs[i]? = some x → ys[i]? = some y → zs[i]? = some z → H T = none → Pv i H → g (.ref T) (wipe σ vs) (upd H T (.tup [x, y, z])) fun σ2 H2 => wipe σ2 vs = wipe σ vs ∧ tt σ2 H2 fun b H3 =>
      if b = true then te σ2 H3 fun y H4 => ∃ acc, H4 D = some (.lst acc) ∧ acc.length < sizeLine ∧ Pv (i + 1) (upd H4 D (.lst (acc ++ [y]))) else Pv (i + 1) H3) (hd : ∀ H, Pv (min xs.length (min ys.length zs.length)) H → Qd H) :
    ∃ W : Nat → Nat → Hp → Prop, (∃ m, W 0 m (upd H1 D (.lst []))) ∧ ∀ i m H, W i m H →
      ((Itz3 K a b c).stop i H ∧ Qd H) ∨ ((Itz3 K a b c).go i H ∧ ∃ Nx : Hp → Prop, (∀ H', Nx H' → ∃ m', m' < m ∧ W (i + 1) m' H') ∧ ∀ x H', (Itz3 K a b c).yld i H x H' → g x (wipe σ vs) H' fun σ2 H2 => wipe σ2 vs = wipe σ vs ∧ tt σ2 H2 fun b H3 =>
        if b = true then te σ2 H3 fun y H4 => ∃ acc, H4 D = some (.lst acc) ∧ acc.length < sizeLine ∧ Nx (upd H4 D (.lst (acc ++ [y]))) else Nx H3) := by
  refine ⟨fun i m H => m = min xs.length (min ys.length zs.length) - i ∧ i ≤ min xs.length (min ys.length zs.length) ∧ Pv i H, ⟨min xs.length (min ys.length zs.length), by simp, Nat.zero_le _, h0⟩, ?_⟩
  rintro i m H ⟨rfl, hi, p⟩
  obtain ⟨q1, q2, q3⟩ := hl i H p
  by_cases hlt : i < min xs.length (min ys.length zs.length)
  · have hx : i < xs.length := by omega
    have hy : i < ys.length := by omega
    have hz : i < zs.length := by omega
    refine .inr ⟨⟨xs, ys, zs, xs[i], ys[i], zs[i], q1, q2, q3, by simp [hx], by simp [hy], by simp [hz]⟩, Pv (i + 1), fun H' p' => ⟨min xs.length (min ys.length zs.length) - (i + 1), by omega, rfl, hlt, p'⟩, fun x H' y => ?_⟩
    obtain ⟨T, x1, y1, z1, rfl, hT, rfl, e1, e2, e3⟩ := y
    exact hs i x1 y1 z1 T H (e1 xs q1) (e2 ys q2) (e3 zs q3) hT p
  · have e : i = min xs.length (min ys.length zs.length) := by omega
    subst e
    exact .inl ⟨⟨xs, ys, zs, q1, q2, q3, by omega⟩, hd H p⟩
end TW

set_option Elab.async false
set_option linter.all false
set_option maxRecDepth 100000
namespace TW
open PySem PySem.Spec PyProof.Rows L2
theorem argsMinD (a d : Value) : argsOk "min" ⟨[a], [(Str.ofString "default", d)]⟩ := by unfold argsOk; kernel_rfl
theorem argsMaxD (a d : Value) : argsOk "max" ⟨[a], [(Str.ofString "default", d)]⟩ := by unfold argsOk; kernel_rfl
theorem nmMin : (toString "min" ++ toString ".loop" : String) = "min.loop" := by decide
theorem nmMax : (toString "max" ++ toString ".loop" : String) = "max.loop" := by decide
section
variable {prog : Program} {w : World} {A : Around} {R : Result → Shared → Prop} {I S : Addr} {fp wr : List Addr} {n : Nat} {P : Nat → Value → Prop} {St : Nat → Heap → Prop} {d : Value}
theorem minTurns (W : Walks prog w A.in1 I fp wr n P St) (bt : Nat → Nat → Bool) (hcmp : CmpOf prog w A.in1 .Lt P bt) (nS : S ∉ fp) :
    ∀ (k j : Nat) (s : Shared) (vb : Value) (c : Nat), n - (j + 1) = k → j + 1 ≤ n → St (j + 1) s.heap → P (argBest bt j) vb → s.heap.get? S = some { cls := .type "list", dict := none, data := .seq #[vb, vb] c, slots := #[] } →
    (∀ v h' tk, P (argBest bt (n - 1)) v → (∀ b o, b ∉ wr → b ≠ S → s.heap.get? b = some o → h'.get? b = some o) → R (.ok (.ret v)) { s with heap := h', toks := tk }) →
    codeAny (model prog w) A (.builtin "min.loop" ⟨[.ref I, .none, .ref S], [(Str.ofString "default", d)]⟩) R s := by
  have nW : S ∉ wr := fun h => nS (W.sub _ h)
  intro k
  induction k with
  | zero =>
    intro j s vb c hk hj st pb gS fin
    have en : j + 1 = n := by omega
    refine codeAny_builtin PySem.F.entry_min_loop ?_; rw [Around.under_plainId PySem.F.plain_min_loop _]
    show wpAny _ A.in1 (seqItems? (.ref S) >>= _) _ _ s; refine wpAny_bind (wpAny_seqItems gS rfl ?_)
    show wpAny _ A.in1 (tryCatch (pyNext (.ref I)) _ >>= _) _ _ s; refine wpAny_bind (wpAny_tryCatch (W.done s _ _ (en ▸ st) fun h1 t1 k1 => ?_))
    show wpAny _ A.in1 (updateSeq S (fun _ => #[]) >>= _) _ _ _; refine wpAny_bind ?_
    refine wpAny_updateSeq (k1 S _ nW gS) rfl (wpAny_bind (wpAny_letGo (wpAny_pure ?_)))
    exact fin vb _ t1 (by rw [← en]; exact pb) fun b o bw bS e => (Heap.get?_update_other _ _ (Ne.symm bS)).trans (k1 b o bw e)
  | succ k ih =>
    intro j s vb c hk hj st pb gS fin
    have lt : j + 1 < n := by omega
    refine codeAny_builtin PySem.F.entry_min_loop ?_; rw [Around.under_plainId PySem.F.plain_min_loop _]
    show wpAny _ A.in1 (seqItems? (.ref S) >>= _) _ _ s; refine wpAny_bind (wpAny_seqItems gS rfl ?_)
    show wpAny _ A.in1 (tryCatch (pyNext (.ref I)) _ >>= _) _ _ s; refine wpAny_bind (wpAny_tryCatch (W.item (j + 1) s _ _ lt st fun v h1 t1 pv st1 k1 => ?_))
    have gS1 := k1 S _ nW gS
    show wpAny _ A.in1 (tryCatch (holding [v, v] (richCompare .Lt v vb >>= _)) _ >>= _) _ _ _; refine wpAny_bind (wpAny_tryCatch (wpAny_holding (wpAny_bind (hcmp (j + 1) (argBest bt j) v vb _ _ _ pv pb ?_))))
    refine wpAny_bind (wpAny_holding (wpAny_truthy_bool ?_)); refine wpAny_bind (wpAny_letGo (wpAny_pure ?_))
    cases hb : bt (j + 1) (argBest bt j) with
    | true =>
      simp only [if_true]
      refine wpAny_bind (wpAny_updateSeq gS1 rfl (wpAny_bind (wpAny_letGo ?_))); rw [nmMin]
      refine wpAny_pure ⟨plainId_quiet PySem.F.plain_min_loop _, ih (j + 1) _ v _ (by omega) lt (W.frame _ _ _ st1 fun b bf o e => (Heap.get?_update_other _ _ (fun q : S = b => nS (by rw [q]; exact bf))).trans e) (by simp only [argBest, hb, if_true]; exact pv) (Heap.get?_update_self _ gS1 rfl) fun v2 h2 t2 p2 k2 => ?_⟩
      exact fin v2 h2 t2 p2 fun b o bw bS e => k2 b o bw bS ((Heap.get?_update_other _ _ (Ne.symm bS)).trans (k1 b o bw e))
    | false =>
      simp only [Bool.false_eq_true, if_false]
      refine wpAny_bind (wpAny_letGo ?_); rw [nmMin]
      refine wpAny_pure ⟨plainId_quiet PySem.F.plain_min_loop _, ih (j + 1) _ vb c (by omega) lt st1 (by simp only [argBest, hb, Bool.false_eq_true, if_false]; exact pb) gS1 fun v2 h2 t2 p2 k2 => fin v2 h2 t2 p2 fun b o bw bS e => k2 b o bw bS (k1 b o bw e)⟩
theorem minFirst (W : Walks prog w A.in1 I fp wr n P St) (bt : Nat → Nat → Bool) (hcmp : CmpOf prog w A.in1 .Lt P bt) (nS : S ∉ fp) {s : Shared} {c : Nat} (st : St 0 s.heap)
    (gS : s.heap.get? S = some { cls := .type "list", dict := none, data := .seq #[] c, slots := #[] })
    (fin0 : n = 0 → ∀ h' tk, (∀ b o, b ∉ wr → b ≠ S → s.heap.get? b = some o → h'.get? b = some o) → R (.ok (.ret d)) { s with heap := h', toks := tk })
    (fin : 0 < n → ∀ v h' tk, P (argBest bt (n - 1)) v → (∀ b o, b ∉ wr → b ≠ S → s.heap.get? b = some o → h'.get? b = some o) → R (.ok (.ret v)) { s with heap := h', toks := tk }) :
    codeAny (model prog w) A (.builtin "min.loop" ⟨[.ref I, .none, .ref S], [(Str.ofString "default", d)]⟩) R s := by
  have nW : S ∉ wr := fun h => nS (W.sub _ h)
  refine codeAny_builtin PySem.F.entry_min_loop ?_; rw [Around.under_plainId PySem.F.plain_min_loop _]
  show wpAny _ A.in1 (seqItems? (.ref S) >>= _) _ _ s; refine wpAny_bind (wpAny_seqItems gS rfl ?_)
  show wpAny _ A.in1 (tryCatch (pyNext (.ref I)) _ >>= _) _ _ s
  rcases Nat.eq_zero_or_pos n with z | z
  · refine wpAny_bind (wpAny_tryCatch (W.done s _ _ (z ▸ st) fun h1 t1 k1 => ?_))
    show wpAny _ A.in1 (rule _ >>= _) _ _ _
    exact wpAny_bind (wpAny_rule (wpAny_pure (fin0 z h1 t1 fun b o bw _ e => k1 b o bw e)))
  · refine wpAny_bind (wpAny_tryCatch (W.item 0 s _ _ z st fun v h1 t1 pv st1 k1 => ?_))
    have gS1 := k1 S _ nW gS
    show wpAny _ A.in1 (updateSeq S (fun _ => #[v, v]) >>= _) _ _ _
    refine wpAny_bind (wpAny_updateSeq gS1 rfl ?_); rw [nmMin]
    refine wpAny_pure ⟨plainId_quiet PySem.F.plain_min_loop _, minTurns W bt hcmp nS _ 0 _ v _ rfl z (W.frame _ _ _ st1 fun b bf o e => (Heap.get?_update_other _ _ (fun q : S = b => nS (by rw [q]; exact bf))).trans e) pv (Heap.get?_update_self _ gS1 rfl) fun v2 h2 t2 p2 k2 => ?_⟩
    exact fin z v2 h2 t2 p2 fun b o bw bS e => k2 b o bw bS ((Heap.get?_update_other _ _ (Ne.symm bS)).trans (k1 b o bw e))
theorem maxTurns (W : Walks prog w A.in1 I fp wr n P St) (bt : Nat → Nat → Bool) (hcmp : CmpOf prog w A.in1 .Gt P bt) (nS : S ∉ fp) :
    ∀ (k j : Nat) (s : Shared) (vb : Value) (c : Nat), n - (j + 1) = k → j + 1 ≤ n → St (j + 1) s.heap → P (argBest bt j) vb → s.heap.get? S = some { cls := .type "list", dict := none, data := .seq #[vb, vb] c, slots := #[] } →
    (∀ v h' tk, P (argBest bt (n - 1)) v → (∀ b o, b ∉ wr → b ≠ S → s.heap.get? b = some o → h'.get? b = some o) → R (.ok (.ret v)) { s with heap := h', toks := tk }) →
    codeAny (model prog w) A (.builtin "max.loop" ⟨[.ref I, .none, .ref S], [(Str.ofString "default", d)]⟩) R s := by
  have nW : S ∉ wr := fun h => nS (W.sub _ h)
  intro k
  induction k with
  | zero =>
    intro j s vb c hk hj st pb gS fin
    have en : j + 1 = n := by omega
    refine codeAny_builtin PySem.F.entry_max_loop ?_; rw [Around.under_plainId PySem.F.plain_max_loop _]
    show wpAny _ A.in1 (seqItems? (.ref S) >>= _) _ _ s; refine wpAny_bind (wpAny_seqItems gS rfl ?_)
    show wpAny _ A.in1 (tryCatch (pyNext (.ref I)) _ >>= _) _ _ s; refine wpAny_bind (wpAny_tryCatch (W.done s _ _ (en ▸ st) fun h1 t1 k1 => ?_))
    show wpAny _ A.in1 (updateSeq S (fun _ => #[]) >>= _) _ _ _; refine wpAny_bind ?_
    refine wpAny_updateSeq (k1 S _ nW gS) rfl (wpAny_bind (wpAny_letGo (wpAny_pure ?_)))
    exact fin vb _ t1 (by rw [← en]; exact pb) fun b o bw bS e => (Heap.get?_update_other _ _ (Ne.symm bS)).trans (k1 b o bw e)
  | succ k ih =>
    intro j s vb c hk hj st pb gS fin
    have lt : j + 1 < n := by omega
    refine codeAny_builtin PySem.F.entry_max_loop ?_; rw [Around.under_plainId PySem.F.plain_max_loop _]
    show wpAny _ A.in1 (seqItems? (.ref S) >>= _) _ _ s; refine wpAny_bind (wpAny_seqItems gS rfl ?_)
    show wpAny _ A.in1 (tryCatch (pyNext (.ref I)) _ >>= _) _ _ s; refine wpAny_bind (wpAny_tryCatch (W.item (j + 1) s _ _ lt st fun v h1 t1 pv st1 k1 => ?_))
    have gS1 := k1 S _ nW gS
    show wpAny _ A.in1 (tryCatch (holding [v, v] (richCompare .Gt v vb >>= _)) _ >>= _) _ _ _; refine wpAny_bind (wpAny_tryCatch (wpAny_holding (wpAny_bind (hcmp (j + 1) (argBest bt j) v vb _ _ _ pv pb ?_))))
    refine wpAny_bind (wpAny_holding (wpAny_truthy_bool ?_)); refine wpAny_bind (wpAny_letGo (wpAny_pure ?_))
    cases hb : bt (j + 1) (argBest bt j) with
    | true =>
      simp only [if_true]
      refine wpAny_bind (wpAny_updateSeq gS1 rfl (wpAny_bind (wpAny_letGo ?_))); rw [nmMax]
      refine wpAny_pure ⟨plainId_quiet PySem.F.plain_max_loop _, ih (j + 1) _ v _ (by omega) lt (W.frame _ _ _ st1 fun b bf o e => (Heap.get?_update_other _ _ (fun q : S = b => nS (by rw [q]; exact bf))).trans e) (by simp only [argBest, hb, if_true]; exact pv) (Heap.get?_update_self _ gS1 rfl) fun v2 h2 t2 p2 k2 => ?_⟩
      exact fin v2 h2 t2 p2 fun b o bw bS e => k2 b o bw bS ((Heap.get?_update_other _ _ (Ne.symm bS)).trans (k1 b o bw e))
    | false =>
      simp only [Bool.false_eq_true, if_false]
      refine wpAny_bind (wpAny_letGo ?_); rw [nmMax]
      refine wpAny_pure ⟨plainId_quiet PySem.F.plain_max_loop _, ih (j + 1) _ vb c (by omega) lt st1 (by simp only [argBest, hb, Bool.false_eq_true, if_false]; exact pb) gS1 fun v2 h2 t2 p2 k2 => fin v2 h2 t2 p2 fun b o bw bS e => k2 b o bw bS (k1 b o bw e)⟩
theorem maxFirst (W : Walks prog w A.in1 I fp wr n P St) (bt : Nat → Nat → Bool) (hcmp : CmpOf prog w A.in1 .Gt P bt) (nS : S ∉ fp) {s : Shared} {c : Nat} (st : St 0 s.heap)
    (gS : s.heap.get? S = some { cls := .type "list", dict := none, data := .seq #[] c, slots := #[] })
    (fin0 : n = 0 → ∀ h' tk, (∀ b o, b ∉ wr → b ≠ S → s.heap.get? b = some o → h'.get? b = some o) → R (.ok (.ret d)) { s with heap := h', toks := tk })
    (fin : 0 < n → ∀ v h' tk, P (argBest bt (n - 1)) v → (∀ b o, b ∉ wr → b ≠ S → s.heap.get? b = some o → h'.get? b = some o) → R (.ok (.ret v)) { s with heap := h', toks := tk }) :
    codeAny (model prog w) A (.builtin "max.loop" ⟨[.ref I, .none, .ref S], [(Str.ofString "default", d)]⟩) R s := by
  have nW : S ∉ wr := fun h => nS (W.sub _ h)
  refine codeAny_builtin PySem.F.entry_max_loop ?_; rw [Around.under_plainId PySem.F.plain_max_loop _]
  show wpAny _ A.in1 (seqItems? (.ref S) >>= _) _ _ s; refine wpAny_bind (wpAny_seqItems gS rfl ?_)
  show wpAny _ A.in1 (tryCatch (pyNext (.ref I)) _ >>= _) _ _ s
  rcases Nat.eq_zero_or_pos n with z | z
  · refine wpAny_bind (wpAny_tryCatch (W.done s _ _ (z ▸ st) fun h1 t1 k1 => ?_))
    show wpAny _ A.in1 (rule _ >>= _) _ _ _
    exact wpAny_bind (wpAny_rule (wpAny_pure (fin0 z h1 t1 fun b o bw _ e => k1 b o bw e)))
  · refine wpAny_bind (wpAny_tryCatch (W.item 0 s _ _ z st fun v h1 t1 pv st1 k1 => ?_))
    have gS1 := k1 S _ nW gS
    show wpAny _ A.in1 (updateSeq S (fun _ => #[v, v]) >>= _) _ _ _
    refine wpAny_bind (wpAny_updateSeq gS1 rfl ?_); rw [nmMax]
    refine wpAny_pure ⟨plainId_quiet PySem.F.plain_max_loop _, maxTurns W bt hcmp nS _ 0 _ v _ rfl z (W.frame _ _ _ st1 fun b bf o e => (Heap.get?_update_other _ _ (fun q : S = b => nS (by rw [q]; exact bf))).trans e) pv (Heap.get?_update_self _ gS1 rfl) fun v2 h2 t2 p2 k2 => ?_⟩
    exact fin z v2 h2 t2 p2 fun b o bw bS e => k2 b o bw bS ((Heap.get?_update_other _ _ (Ne.symm bS)).trans (k1 b o bw e))
end
section
variable {prog : Program} {w : World} {A : Around} {E : Value → Shared → Prop} {s : Shared} {l : Addr} {its : List Value} {ns : List Int} {d : Value} {Q : Value → Shared → Prop}
theorem min_d (hh : A.handled = none) (hl : s.heap.IsList l its.toArray) (hi : IntsAre its ns)
    (h0 : ns = [] → ∀ h' tk, (∀ b o, s.heap.get? b = some o → h'.get? b = some o) → Q d { s with heap := h', toks := tk })
    (h : ∀ h' tk M t', (∀ b o, s.heap.get? b = some o → h'.get? b = some o) → M ∈ ns → (∀ a, a ∈ ns → M ≤ a) → Q (.int M t') { s with heap := h', toks := tk }) :
    wpAny (model prog w) A (call (.builtin "min") [.ref l] [(Str.ofString "default", d)]) Q E s := by
  obtain ⟨xs, e⟩ := hi.allInts.items
  have hn : numsOf (intItems xs).toList = ns := by rw [← e]; exact hi.numsOf
  rw [nums_intItems] at hn; subst hn; rw [e] at hl
  refine kmb_tree PySem.F.kind_min PySem.F.plain_min PySem.F.entry_min (argsMinD _ _) ?_
  show wpAny _ A.in1 (Builtin.Builtins.bindParams "min" ["key", "default"] 0 ⟨[], [(Str.ofString "default", d)]⟩ >>= _) _ _ s
  refine wpAny_bind (wpAny_of_eq (show Builtin.Builtins.bindParams "min" ["key", "default"] 0 ⟨[], [(Str.ofString "default", d)]⟩ = pure [none, some d] from rfl) (wpAny_bind (wpAny_pure ?_)))
  refine wpAny_bind (iter_intList hl fun s2 e2 st hfp hlI => wpAny_bind (wpAny_newObj_type ?_)); subst e2
  rw [nmMin]
  generalize hsz : (s.heap.push { cls := .type "list_iterator", data := .fields #[.ref l, .int 0 0] }).objs.size = S
  have nS : S ∉ [s.heap.objs.size, l] := fun hm => Nat.lt_irrefl _ (hsz ▸ hfp _ hm)
  have W := Walks.list (prog := prog) (w := w) (A := A.in1) hh s.heap.objs.size l hlI (intItems xs)
  refine wpAny_pure ⟨plainId_quiet PySem.F.plain_min_loop _, minFirst W (fun i j => decide (numAt xs i < numAt xs j)) (CmpOf.ints_lt (numAt xs) (fun _ _ => intItems_at)) nS (W.frame _ _ _ st fun b _ o e => Heap.get?_push_of_some _ e) (by rw [← hsz]; exact Heap.get?_push_size _ rfl) (fun z h' tk hk => ?_) fun z v h' tk hP hk => ?_⟩
  · have z' : xs.size = 0 := by simpa [intItems] using z
    refine h0 (by rw [Array.eq_empty_of_size_eq_zero z']; rfl) h' tk (old_kept fun b o bw e => hk b o bw (by rw [← hsz]; exact Nat.ne_of_lt (Heap.lt_size e)) (Heap.get?_push_of_some _ e))
  · have hP : (intItems xs)[argBest (fun i j => decide (numAt xs i < numAt xs j)) (xs.size - 1)]? = some v := by simpa [intItems] using hP
    have z' : 0 < xs.size := by simpa [intItems] using z
    obtain ⟨t, rfl⟩ := intItems_at hP
    obtain ⟨q1, q2⟩ := argBest_lt (numAt xs) (xs.size - 1)
    refine h h' tk _ t (old_kept fun b o bw e => hk b o bw (by rw [← hsz]; exact Nat.ne_of_lt (Heap.lt_size e)) (Heap.get?_push_of_some _ e)) ?_ fun a ha => ?_
    · rw [numAt_eq]; exact PySem.getD_mem (by rw [List.length_map, Array.length_toList]; omega)
    · obtain ⟨j, hj, rfl⟩ := mem_getD ha
      rw [List.length_map, Array.length_toList] at hj; rw [← numAt_eq]; exact q2 j (by omega)
theorem max_d (hh : A.handled = none) (hl : s.heap.IsList l its.toArray) (hi : IntsAre its ns)
    (h0 : ns = [] → ∀ h' tk, (∀ b o, s.heap.get? b = some o → h'.get? b = some o) → Q d { s with heap := h', toks := tk })
    (h : ∀ h' tk M t', (∀ b o, s.heap.get? b = some o → h'.get? b = some o) → M ∈ ns → (∀ a, a ∈ ns → a ≤ M) → Q (.int M t') { s with heap := h', toks := tk }) :
    wpAny (model prog w) A (call (.builtin "max") [.ref l] [(Str.ofString "default", d)]) Q E s := by
  obtain ⟨xs, e⟩ := hi.allInts.items
  have hn : numsOf (intItems xs).toList = ns := by rw [← e]; exact hi.numsOf
  rw [nums_intItems] at hn; subst hn; rw [e] at hl
  refine kmb_tree PySem.F.kind_max PySem.F.plain_max PySem.F.entry_max (argsMaxD _ _) ?_
  show wpAny _ A.in1 (Builtin.Builtins.bindParams "max" ["key", "default"] 0 ⟨[], [(Str.ofString "default", d)]⟩ >>= _) _ _ s
  refine wpAny_bind (wpAny_of_eq (show Builtin.Builtins.bindParams "max" ["key", "default"] 0 ⟨[], [(Str.ofString "default", d)]⟩ = pure [none, some d] from rfl) (wpAny_bind (wpAny_pure ?_)))
  refine wpAny_bind (iter_intList hl fun s2 e2 st hfp hlI => wpAny_bind (wpAny_newObj_type ?_)); subst e2
  rw [nmMax]
  generalize hsz : (s.heap.push { cls := .type "list_iterator", data := .fields #[.ref l, .int 0 0] }).objs.size = S
  have nS : S ∉ [s.heap.objs.size, l] := fun hm => Nat.lt_irrefl _ (hsz ▸ hfp _ hm)
  have W := Walks.list (prog := prog) (w := w) (A := A.in1) hh s.heap.objs.size l hlI (intItems xs)
  refine wpAny_pure ⟨plainId_quiet PySem.F.plain_max_loop _, maxFirst W (fun i j => decide (numAt xs i > numAt xs j)) (CmpOf.ints_gt (numAt xs) (fun _ _ => intItems_at)) nS (W.frame _ _ _ st fun b _ o e => Heap.get?_push_of_some _ e) (by rw [← hsz]; exact Heap.get?_push_size _ rfl) (fun z h' tk hk => ?_) fun z v h' tk hP hk => ?_⟩
  · have z' : xs.size = 0 := by simpa [intItems] using z
    refine h0 (by rw [Array.eq_empty_of_size_eq_zero z']; rfl) h' tk (old_kept fun b o bw e => hk b o bw (by rw [← hsz]; exact Nat.ne_of_lt (Heap.lt_size e)) (Heap.get?_push_of_some _ e))
  · have hP : (intItems xs)[argBest (fun i j => decide (numAt xs i > numAt xs j)) (xs.size - 1)]? = some v := by simpa [intItems] using hP
    have z' : 0 < xs.size := by simpa [intItems] using z
    obtain ⟨t, rfl⟩ := intItems_at hP
    obtain ⟨q1, q2⟩ := argBest_gt (numAt xs) (xs.size - 1)
    refine h h' tk _ t (old_kept fun b o bw e => hk b o bw (by rw [← hsz]; exact Nat.ne_of_lt (Heap.lt_size e)) (Heap.get?_push_of_some _ e)) ?_ fun a ha => ?_
    · rw [numAt_eq]; exact PySem.getD_mem (by rw [List.length_map, Array.length_toList]; omega)
    · obtain ⟨j, hj, rfl⟩ := mem_getD ha
      rw [List.length_map, Array.length_toList] at hj; rw [← numAt_eq]; exact q2 j (by omega)
end
section
variable {X : Cx} {x : Str} {p pos kpos : Pos} {e e2 : Expr} {t : TA} {td : TE} {id : String}
def rMinD (K : PySem.W.Frag) : List V → V → Hp → VK → Prop := fun vs z H Q => ∃ (a : Addr) (ns : List Int) (d : Int), vs = [V.ref a] ∧ z = .int d ∧ SqL K H a (ns.map V.int) ∧ (ns = [] → Q (.int d) H) ∧ ∀ m, m ∈ ns → (∀ y, y ∈ ns → m ≤ y) → Q (.int m) H
def rMaxD (K : PySem.W.Frag) : List V → V → Hp → VK → Prop := fun vs z H Q => ∃ (a : Addr) (ns : List Int) (d : Int), vs = [V.ref a] ∧ z = .int d ∧ SqL K H a (ns.map V.int) ∧ (ns = [] → Q (.int d) H) ∧ ∀ m, m ∈ ns → (∀ y, y ∈ ns → y ≤ m) → Q (.int m) H
/-- f(e, default=e2) -/
def tCBD (r : List V → V → Hp → VK → Prop) (t : TA) (td : TE) : TE := fun σ H Q => t σ H fun vs H1 => td σ H1 fun z H2 => r vs z H2 Q
theorem pe_dflt {r : List V → V → Hp → VK → Prop} (hc : ∀ (pins : List (Addr × Obj)) (s : Shared) (σ : L2.St) (H : Hp) (vs : List V) (us : List Value) (z : V) (u : Value) (Q : VK), Inv X pins σ H s → Vals vs us → RelV z u → r vs z H Q → wpAny (model X.prog X.w) X.A (call (.builtin id) us [(Str.ofString "default", u)]) (EP X pins σ Q) X.xe s)
    (hg : Gl X x) (hm : X.mg x = none) (hv : bootBuiltins x = some (.builtin id)) (ha : PA X [e] t) (hd : PE X e2 td) (hn : x ≠ "__name__" := by decide) (hdb : (x == ("__debug__" : Str)) = false := by decide)
    (he : starEach [e] X.env = [(false, eval e X.env)] := by rfl) : PE X (.Call (.Name x p) [e] [⟨some "default", e2, kpos⟩] pos) (tCBD r t td) := by
  intro pins s σ H Q I h
  refine wpAny_Call_Name_kw (ld_blt I hg hm hv ?_ hn hdb)
  refine callWith_kw (thn (ha pos pins s σ H _ I h) fun us s1 ⟨vs, H1, I1, r1, q1⟩ => ?_) (by rw [he]; rfl) (by rw [he]; rfl)
  exact kws_cons (thn (hd pins s1 σ H1 _ I1 q1) fun u s2 ⟨z, H2, I2, r2, q2⟩ => kws_nil (hc pins s2 σ H2 vs us z u Q I2 r1 r2 q2))
theorem cr_minD (hc : X.calm = true) (pins : List (Addr × Obj)) (s : Shared) (σ : L2.St) (H : Hp) (vs : List V) (us : List Value) (z : V) (u : Value) (Q : VK) (I : Inv X pins σ H s) (r : Vals vs us) (rz : RelV z u) (h : rMinD X.K vs z H Q) :
    wpAny (model X.prog X.w) X.A (call (.builtin "min") us [(Str.ofString "default", u)]) (EP X pins σ Q) X.xe s := by
  obtain ⟨a, ns, d, rfl, rfl, hs, q0, q⟩ := h
  obtain ⟨its, rv, hl, _⟩ := I.list hs
  obtain ⟨t, rfl⟩ := rz
  rw [Vals.ref1 r]
  exact min_d (I.ok.hd hc) hl.isList rv.ints (fun en h' tk hk => ⟨.int d, H, I.kept hk, ⟨_, rfl⟩, q0 en⟩) fun h' tk m t' hk h1 h2 => ⟨.int m, H, I.kept hk, ⟨_, rfl⟩, q m h1 h2⟩
theorem cr_maxD (hc : X.calm = true) (pins : List (Addr × Obj)) (s : Shared) (σ : L2.St) (H : Hp) (vs : List V) (us : List Value) (z : V) (u : Value) (Q : VK) (I : Inv X pins σ H s) (r : Vals vs us) (rz : RelV z u) (h : rMaxD X.K vs z H Q) :
    wpAny (model X.prog X.w) X.A (call (.builtin "max") us [(Str.ofString "default", u)]) (EP X pins σ Q) X.xe s := by
  obtain ⟨a, ns, d, rfl, rfl, hs, q0, q⟩ := h
  obtain ⟨its, rv, hl, _⟩ := I.list hs
  obtain ⟨t, rfl⟩ := rz
  rw [Vals.ref1 r]
  exact max_d (I.ok.hd hc) hl.isList rv.ints (fun en h' tk hk => ⟨.int d, H, I.kept hk, ⟨_, rfl⟩, q0 en⟩) fun h' tk m t' hk h1 h2 => ⟨.int m, H, I.kept hk, ⟨_, rfl⟩, q m h1 h2⟩
end
end TW

set_option Elab.async false
set_option linter.all false
set_option maxRecDepth 100000
namespace TW
open PySem PySem.Spec PyProof.Rows L2
/-- a new list comes out, all else as it was -/
def Ans (H : Hp) (l : List V) (Q : VK) : Prop := ∀ p H', Same H H' → H p = none → H' p = some (.lst l) → Q (.ref p) H'
theorem _root_.L2.Same.upd' {H H1 : Hp} {p : Addr} {o : HO} (s : Same H H1) (h : H p = none) : Same H (upd H1 p o) := fun b u e => by rw [upd_ne (ne_of_none e h)]; exact s b u e
theorem _root_.L2.Same.new {H H1 : Hp} {p : Addr} {o : HO} (s : Same H H1) (h : H1 p = none) : Same H (upd H1 p o) := s.upd' (s.free h)
theorem ints_get {l : List Int} {i : Nat} {x : V} (h : (l.map V.int)[i]? = some x) : ∃ z, l[i]? = some z ∧ x = .int z := by
  rw [List.getElem?_map] at h
  cases e : l[i]? with
  | none => rw [e] at h; cases h
  | some z => rw [e] at h; exact ⟨z, rfl, (Option.some.inj h).symm⟩
theorem tab_self (l : List Int) : (List.range l.length).map (fun i => l.getD i 0) = l := by
  apply List.ext_getElem
  · simp
  · intro i h1 h2
    simp [List.getD_eq_getElem?_getD, h2]
theorem acc_list {acc : List V} {l : List Int} (hl : acc.length = l.length) (h : ∀ (j : Nat) (v : V), acc[j]? = some v → v = V.int (l.getD j 0)) : acc = l.map V.int := by
  have := ints_acc (f := fun i => l.getD i 0) hl h
  rw [tab_self] at this
  exact this
theorem isInts_stay (D : Addr) (f : Nat → Int) : ∀ (i : Nat) (v : V) (H H' : Hp), isInts f i v H → SameX D H H' → isInts f i v H' := fun _ _ _ _ h _ => h
theorem AtTurn.ints {D : Addr} {H1 H : Hp} {l : List Int} (A : AtTurn D H1 (isInts fun i => l.getD i 0) l.length H) : H D = some (.lst (l.map V.int)) := by
  obtain ⟨acc, h1, h2, h3⟩ := A.acc
  rw [h1, acc_list h2 h3]
theorem yes_eq {te : TE} {ws : List Nat} {σ : L2.St} {Q' : VK} {B : Hp → Prop} : (fun (σ2 : L2.St) (H2 : Hp) => wipe σ2 ws = wipe σ ws ∧ tYes σ2 H2 fun b H3 => if b = true then te σ2 H3 Q' else B H3) = fun σ2 H2 => wipe σ2 ws = wipe σ ws ∧ te σ2 H2 Q' := by
  funext σ2 H2
  simp [tYes]
/-- [F(u, v) for u, v in zip(us, vs)] -/
theorem lc_zipI {K : PySem.W.Frag} {a b : Addr} {us vs : List Int} {g : TG} {te : TE} {ws : List Nat} {σ : L2.St} {H1 : Hp} {D : Addr} {Qd : Hp → Prop} (F : Int → Int → Int) (hD : H1 D = none) (hx : SqL K H1 a (us.map V.int)) (hy : SqL K H1 b (vs.map V.int)) (hz : us.length ≤ sizeLine)
    (hs : ∀ (u v : Int) (T : Addr) (H : Hp) (Q' : VK), H T = none → Same H1 H → (∀ H4, Same H H4 → Q' (.int (F u v)) H4) → g (.ref T) (wipe σ ws) (upd H T (.tup [.int u, .int v])) fun σ2 H2 => wipe σ2 ws = wipe σ ws ∧ te σ2 H2 Q')
    (hd : ∀ H, Same H1 H → H D = some (.lst (((us.zip vs).map fun p => F p.1 p.2).map V.int)) → Qd H) :
    ∃ W : Nat → Nat → Hp → Prop, (∃ m, W 0 m (upd H1 D (.lst []))) ∧ ∀ i m H, W i m H →
      ((Itz K a b).stop i H ∧ Qd H) ∨ ((Itz K a b).go i H ∧ ∃ Nx : Hp → Prop, (∀ H', Nx H' → ∃ m', m' < m ∧ W (i + 1) m' H') ∧ ∀ x H', (Itz K a b).yld i H x H' → g x (wipe σ ws) H' fun σ2 H2 => wipe σ2 ws = wipe σ ws ∧ tYes σ2 H2 fun b H3 =>
        if b = true then te σ2 H3 fun y H4 => ∃ acc, H4 D = some (.lst acc) ∧ acc.length < sizeLine ∧ Nx (upd H4 D (.lst (acc ++ [y]))) else Nx H3) := by
  have hlen : (((us.zip vs).map fun p => F p.1 p.2)).length = min us.length vs.length := by simp
  refine lc_zip (xs := us.map V.int) (ys := vs.map V.int) (AtTurn D H1 (isInts fun i => ((us.zip vs).map fun p => F p.1 p.2).getD i 0)) (AtTurn.start hD) (fun i H A => ⟨A.same.seq hx, A.same.seq hy⟩) (fun i x y T H ex ey hT A => ?_) (fun H A => ?_)
  · obtain ⟨u, eu, rfl⟩ := ints_get ex
    obtain ⟨v, ev, rfl⟩ := ints_get ey
    rw [yes_eq]
    refine hs u v T H _ hT A.same fun H4 s4 => A.next hD (isInts_stay D _) s4 (by have := (List.getElem?_eq_some_iff.mp eu).1; omega) ?_
    show V.int _ = V.int _
    dsimp only
    rw [List.getD_eq_getElem?_getD, List.getElem?_map, (List.getElem?_zip_eq_some (z := (u, v))).mpr ⟨eu, ev⟩]
    rfl
  · refine hd H A.same (AtTurn.ints (D := D) (H1 := H1) ?_)
    rw [hlen]
    simpa using A
/-- [F(u, v, w) for u, v, w in zip(us, vs, ws)] -/
theorem lc_zip3I {K : PySem.W.Frag} {a b c : Addr} {us vs zs : List Int} {g : TG} {te : TE} {ws : List Nat} {σ : L2.St} {H1 : Hp} {D : Addr} {Qd : Hp → Prop} (F : Int → Int → Int → Int) (hD : H1 D = none) (hx : SqL K H1 a (us.map V.int)) (hy : SqL K H1 b (vs.map V.int)) (hw : SqL K H1 c (zs.map V.int)) (hz : us.length ≤ sizeLine)
    (hs : ∀ (u v z : Int) (T : Addr) (H : Hp) (Q' : VK), H T = none → Same H1 H → (∀ H4, Same H H4 → Q' (.int (F u v z)) H4) → g (.ref T) (wipe σ ws) (upd H T (.tup [.int u, .int v, .int z])) fun σ2 H2 => wipe σ2 ws = wipe σ ws ∧ te σ2 H2 Q')
    (hd : ∀ H, Same H1 H → H D = some (.lst (((us.zip (vs.zip zs)).map fun p => F p.1 p.2.1 p.2.2).map V.int)) → Qd H) :
    ∃ W : Nat → Nat → Hp → Prop, (∃ m, W 0 m (upd H1 D (.lst []))) ∧ ∀ i m H, W i m H →
      ((Itz3 K a b c).stop i H ∧ Qd H) ∨ ((Itz3 K a b c).go i H ∧ ∃ Nx : Hp → Prop, (∀ H', Nx H' → ∃ m', m' < m ∧ W (i + 1) m' H') ∧ ∀ x H', (Itz3 K a b c).yld i H x H' → g x (wipe σ ws) H' fun σ2 H2 => wipe σ2 ws = wipe σ ws ∧ tYes σ2 H2 fun b H3 =>
        if b = true then te σ2 H3 fun y H4 => ∃ acc, H4 D = some (.lst acc) ∧ acc.length < sizeLine ∧ Nx (upd H4 D (.lst (acc ++ [y]))) else Nx H3) := by
  have hlen : ((us.zip (vs.zip zs)).map fun p => F p.1 p.2.1 p.2.2).length = min us.length (min vs.length zs.length) := by simp
  refine lc_zip3 (xs := us.map V.int) (ys := vs.map V.int) (zs := zs.map V.int) (AtTurn D H1 (isInts fun i => ((us.zip (vs.zip zs)).map fun p => F p.1 p.2.1 p.2.2).getD i 0)) (AtTurn.start hD) (fun i H A => ⟨A.same.seq hx, A.same.seq hy, A.same.seq hw⟩) (fun i x y z T H ex ey ez hT A => ?_) (fun H A => ?_)
  · obtain ⟨u, eu, rfl⟩ := ints_get ex
    obtain ⟨v, ev, rfl⟩ := ints_get ey
    obtain ⟨z, ew, rfl⟩ := ints_get ez
    rw [yes_eq]
    refine hs u v z T H _ hT A.same fun H4 s4 => A.next hD (isInts_stay D _) s4 (by have := (List.getElem?_eq_some_iff.mp eu).1; omega) ?_
    show V.int _ = V.int _
    dsimp only
    rw [List.getD_eq_getElem?_getD, List.getElem?_map, (List.getElem?_zip_eq_some (z := (u, v, z))).mpr ⟨eu, (List.getElem?_zip_eq_some (z := (v, z))).mpr ⟨ev, ew⟩⟩]
    rfl
  · refine hd H A.same (AtTurn.ints (D := D) (H1 := H1) ?_)
    rw [hlen]
    simpa using A
def DefAt (K : PySem.W.Frag) (mg : Str → Option Value) (x : Str) (st : Stmt) : Prop := ∃ f fd, Fun K x x st f fd ∧ mg x = some (.ref f)
def OkF (P : Program) (w : World) (K : PySem.W.Frag) (mg : Str → Option Value) (base : Heap) (CX : CXT) (k : Nat) (x : Str) (ps : List Str) (sp : Sp) : Prop :=
  ∃ f fd, mg x = some (.ref f) ∧ PySem.W.keepIn K (.ref f) = true ∧ Binds K fd ps [] ∧ FnOk P w K mg base CX k f fd ps sp
section
variable {P : Program} {w : World} {K : PySem.W.Frag} {mg : Str → Option Value} {base : Heap}
theorem DefAt.ok {x : Str} {st : Stmt} {N ps : List Str} {k : Nat} {sp : Sp} (D : DefAt K mg x st) (S : FnScope N ps (defScope st))
    (hb : ∀ (kV doc pm : Value) (an : Option Addr) (cdv ct : Value) (us : List Value), us.length = ps.length → bindArgs (PySem.W.fnOf x x (defArgs st) (defBody st) (defScope st) .none kV doc pm an cdv ct) ⟨us, []⟩ = pure (ps.zip us))
    (len : ∀ vs H Q E, sp vs H Q E → vs.length = ps.length)
    (hbody : ∀ (f : Addr) (cdv : Value) (A : Around) (outer : List Env) (s : Shared) (H : Hp) (vs : List V) (Q : VK) (E : XK), Room k (A.deeper (envOfC x (defScope st) s.heap.objs.size f cdv)) → sp vs H Q E →
      ∃ t, PSs (cxOf CX0 P w K mg base N x (defScope st) f cdv A outer s H E).nox (defBody st) t ∧ t { nx := fun _ H' => Q .non H', rt := Q } (start N vs) H) : OkF P w K mg base CX0 (k + 1) x ps sp := by
  obtain ⟨f, fd, F, hm⟩ := D
  exact ⟨f, fd, hm, F.kp, F.binds hb, F.ok S len fun cdv A outer s H vs Q E hr h => hbody f cdv A outer s H vs Q E hr h⟩
end
section
variable {X : Cx} {CX : CXT} {k : Nat} {ps : List Str} {sp : Sp} {E : XK} {x : Str} {p pos : Pos} {e : Expr} {es : List Expr} {t : TA}
theorem pe_f (h : OkF X.prog X.w X.K X.mg X.base CX k x ps sp) (hr : Room k X.A) (hg : Gl X x) (hx : Passes CX X E) (ha : PA X (e :: es) t) (hdb : (x == ("__debug__" : Str)) = false := by decide)
    (he : starEach (e :: es) X.env = (false, eval e X.env) :: starEach es X.env := by rfl) (hpl : (backTo pos (starEach es X.env)).any (·.1) = false := by rfl) : PE X (.Call (.Name x p) (e :: es) [] pos) (tCall sp [] E t) := by
  obtain ⟨f, fd, hm, kp, b, G⟩ := h
  exact pe_call G hr hg hm kp b .nil hx ha hdb he hpl
theorem pe_f0 (h : OkF X.prog X.w X.K X.mg X.base CX0 k x ps sp) (hr : Room k X.A) (hg : Gl X x) (ha : PA X (e :: es) t) (hdb : (x == ("__debug__" : Str)) = false := by decide)
    (he : starEach (e :: es) X.env = (false, eval e X.env) :: starEach es X.env := by rfl) (hpl : (backTo pos (starEach es X.env)).any (·.1) = false := by rfl) : PE X (.Call (.Name x p) (e :: es) [] pos) (tCall sp [] E0 t) :=
  pe_f h hr hg pass0 ha hdb he hpl
end
theorem line_ge {n : Nat} (h : n ≤ 16000000) : n ≤ sizeLine := by rw [sizeLine_eq]; omega
end TW

set_option Elab.async false
set_option linter.all false
set_option maxRecDepth 100000
namespace TW
open PySem PySem.Spec PyProof.Rows L2
structure UnB (fs : List Addr) (H H' : Hp) (h B : Heap) : Prop where
  keep : ∀ b o, h.get? b = some o → H b = none → b ∉ fs → B.get? b = some o
  free : ∀ b o, h.get? b = some o → H b = none → H' b = none
  there : ∀ b o, h.get? b = some o → b ∉ fs → ∃ o', B.get? b = some o'
  tups : ∀ b xs, H b = some (.tup xs) → H' b = some (.tup xs)
  frzs : ∀ b o u, H b = some (.frz o u) → H' b = some (.frz o u)
  tbls : ∀ b ps, H b = some (.tbl ps) → ∃ more, H' b = some (.tbl (ps ++ more))
def SlotsAt (fs : List Addr) (h h' : Heap) : Prop := ∀ b o, h.get? b = some o → b ∈ fs → ∃ sl, h'.get? b = some { o with slots := sl }
theorem UnB.un {fs : List Addr} {H H' : Hp} {h B h' : Heap} (u : UnB fs H H' h B) (st : B.StaysIn h') (sl : SlotsAt fs h h') : Un fs [] H H' h h' where
  keep := fun b o e n hb _ => st b o (u.keep b o e n hb)
  slot := fun b o e _ hb _ => sl b o e hb
  free := fun b o e n _ => u.free b o e n
  there := fun b o e _ => by
    by_cases hb : b ∈ fs
    · obtain ⟨s, q⟩ := sl b o e hb
      exact ⟨_, q⟩
    · obtain ⟨o', q⟩ := u.there b o e hb
      exact ⟨o', st _ _ q⟩
  tups := u.tups
  frzs := u.frzs
  tbls := u.tbls
/-- how an exception lies behind a call -/
def CX1 (P : Program) (w : World) : CXT := fun outer H s E e s' => ∃ (a : Addr) (cls a0 : Value) (B : Heap) (H' : Hp), e = .ref a ∧ s'.os = s.os ∧ AllBare s'.gens ∧ UnB (frs outer) H H' s.heap B ∧ SlotsAt (frs outer) s.heap s'.heap ∧
  (∀ b ∈ frs outer, H' b = none) ∧ HOk P w H' B ∧ Heap.FlyingW B outer a cls a0 s'.heap ∧ E cls none H'
/-- just made; on its way; held by the frame at L -/
inductive Stage (B : Heap) (a : Addr) (cls : Value) (L : Addr) (h : Heap) : Prop
  | fresh (oe : Obj) (vs : Array Value) (a0 : Value) : h.get? a = some oe → oe.cls = cls → oe.data = .fields vs → vs[1]? = some .none → vs[0]? = some a0 → Stage B a cls L h
  | fly (a0 : Value) : h.TracedW B a cls a0 → Stage B a cls L h
  | held (a0 : Value) : h.TracedAtW B a cls a0 (rawInt L) → Stage B a cls L h
/-- an exception within a body -/
structure FlyAt (X : Cx) (E : XK) (a : Addr) (cls : Value) (B : Heap) (H' : Hp) (s' : Shared) : Prop where
  os : s'.os = X.s₀.os
  bare : AllBare s'.gens
  un : UnB X.fs X.H₀ H' X.s₀.heap B
  slots : SlotsAt X.fs X.s₀.heap s'.heap
  frs : ∀ b ∈ frs X.stack, H' b = none
  hok : HOk X.prog X.w H' B
  ns : ∃ m, s'.heap.Ns X.env.locals m
  stays : B.StaysIn s'.heap
  new : B.get? a = none
  funs : s'.heap.FunFrames B X.stack
  wish : E cls none H'
def XFly (X : Cx) (E : XK) (e : Value) (s' : Shared) : Prop := ∃ (a : Addr) (cls : Value) (B : Heap) (H' : Hp), e = .ref a ∧ FlyAt X E a cls B H' s' ∧ Stage B a cls X.env.locals s'.heap
/-- a def's body -/
structure Plain (X : Cx) : Prop where
  ex : X.ex = []
  pn : X.pn = []
  stk : X.stack = X.env :: X.outer
  fr : X.env.frame = some X.env.locals
theorem plain_cx {CX : CXT} {P : Program} {w : World} {K : PySem.W.Frag} {mg : Str → Option Value} {base : Heap} {N : List Str} {qual : Str} {scope : Scope} {f : Addr} {cd : Value} {A : Around} {outer : List Env} {s : Shared} {H : Hp} {E : XK} :
    Plain (cxOf CX P w K mg base N qual scope f cd A outer s H E) := ⟨rfl, rfl, rfl, rfl⟩
section
variable {X : Cx} {E : XK} {a : Addr} {cls : Value} {B : Heap} {H' : Hp} {s' : Shared}
theorem fs_stk (Pl : Plain X) {b : Addr} (h : b ∈ X.fs) : b ∈ frs X.stack := by
  rw [Pl.stk]
  unfold L2.frs
  rw [List.filterMap_cons, Pl.fr]
  exact List.mem_cons_of_mem _ h
theorem loc_stk (Pl : Plain X) : X.env.locals ∈ frs X.stack := by
  rw [Pl.stk]
  unfold L2.frs
  rw [List.filterMap_cons, Pl.fr]
  exact List.mem_cons_self
theorem FlyAt.move (F : FlyAt X E a cls B H' s') (Pl : Plain X) {h' : Heap} (st : B.StaysIn h') (fu : h'.FunFrames B X.stack) (up : s'.heap.UpToSlots h') : FlyAt X E a cls B H' { s' with heap := h' } where
  os := F.os
  bare := F.bare
  un := F.un
  slots := fun b o e hb => by
    obtain ⟨sl, q⟩ := F.slots b o e hb
    obtain ⟨_, o2, q2, nf⟩ := F.funs.mem (fs_stk Pl hb)
    rw [q] at q2
    cases q2
    obtain ⟨sl2, q3⟩ := up b _ q nf
    exact ⟨sl2, q3⟩
  frs := F.frs
  hok := F.hok
  ns := F.ns.imp fun _ h => up.ns h
  stays := st
  new := F.new
  funs := fu
  wish := F.wish
/-- the frame is noted: held -/
theorem FlyAt.note {M : Model} {Ex : Value → Shared → Prop} {Q : Unit → Shared → Prop} (F : FlyAt X E a cls B H' s') (G : Stage B a cls X.env.locals s'.heap) (Pl : Plain X) {A : Around} (hfr : A.frames = some X.stack)
    (hQ : ∀ h' a0, FlyAt X E a cls B H' { s' with heap := h' } → h'.TracedAtW B a cls a0 (rawInt X.env.locals) → Q () { s' with heap := h' }) : wpAny M A (noteFrame (.ref a) X.env) Q Ex s' := by
  have hl : s'.heap.FunFrames B (X.env :: X.outer) := by rw [← Pl.stk]; exact F.funs
  rw [Pl.stk] at hfr
  cases G with
  | fresh oe vs a0 he hc hd h1 h0 =>
    unfold noteFrame
    simp only [Pl.fr]
    refine wpAny_bind (wpAny_field he hd h1 ?_)
    rw [if_neg (by decide)]
    refine wpAny_entryW hfr hl Pl.fr he F.stays F.new hd (Array.getElem?_eq_some_iff.mp h1).1 h0 fun h' ⟨k1, k2, k3, k4⟩ => ?_
    rw [hc] at k3
    exact hQ h' a0 (F.move Pl k1 (by rw [Pl.stk]; exact k2) k4) k3
  | fly a0 ht =>
    refine wpAny_noteFrame_onW hfr hl Pl.fr ht F.stays F.new fun h' ⟨k1, k2, k3, k4⟩ => ?_
    exact hQ h' a0 (F.move Pl k1 (by rw [Pl.stk]; exact k2) k4) k3
  | held a0 ht => exact wpAny_noteFrame_againW Pl.fr ht (hQ s'.heap a0 F ht)
/-- let go: on its way -/
theorem FlyAt.land {M : Model} {Ex : Value → Shared → Prop} {Q : Unit → Shared → Prop} {a0 fl : Value} (F : FlyAt X E a cls B H' s') (ht : s'.heap.TracedAtW B a cls a0 fl) (Pl : Plain X) {A : Around}
    (hQ : ∀ h', FlyAt X E a cls B H' { s' with heap := h' } → h'.TracedW B a cls a0 → Q () { s' with heap := h' }) : wpAny M A (setFlight (.ref a) none) Q Ex s' :=
  wpAny_setFlight_noneW F.stays F.funs ht fun h' k1 k2 k3 k4 => hQ h' (F.move Pl k1 k2 fun b o e n => ⟨o.slots, k4 b o e n⟩) k3
theorem traced_data {h B : Heap} {a : Addr} {cls a0 fl : Value} (ht : h.TracedAtW B a cls a0 fl) : ∃ oe vs T, h.get? a = some oe ∧ oe.data = .fields vs ∧ vs[1]? = some (.ref T) := by
  obtain ⟨oe, vs, T, _, _, he, _, hd, h1, _⟩ := ht
  exact ⟨oe, vs, T, he, hd, h1⟩
/-- the frame is left -/
theorem XFly.leave {M : Model} {Ex : Value → Shared → Prop} {e : Value} (x : XFly X E e s') (Pl : Plain X) {A : Around} (hfr : A.frames = some X.stack) : wpAny M A (leaving X.env e) (fun _ s'' => CX1 X.prog X.w X.outer X.H₀ X.s₀ E e s'') Ex s' := by
  obtain ⟨a, cls, B, H', rfl, F, G⟩ := x
  unfold leaving
  refine wpAny_bind (F.note G Pl hfr fun h' a0 F' ht => F'.land ht Pl fun h2 F2 ht2 => ?_)
  have fu : h2.FunFrames B (X.env :: X.outer) := by rw [← Pl.stk]; exact F2.funs
  exact ⟨a, cls, a0, B, H', rfl, F2.os, F2.bare, F2.un, F2.slots, fun b hb => F2.frs b (fs_stk Pl hb), F2.hok, ⟨F2.stays, F2.new, fu.2.2, ht2⟩, F2.wish⟩
/-- a loop of the body passes it on -/
theorem passes_fly (Pl : Plain X) (hfr : X.A.frames = some X.stack) : PassesOwn (model X.prog X.w) X.A X.env (XFly X E) := by
  rintro e s' ⟨a, cls, B, H', rfl, F, G⟩
  refine F.note G Pl hfr fun h' a0 F' ht => ?_
  obtain ⟨oe, vs, T, he, hd, h1⟩ := traced_data ht
  show wpAny _ _ (do if (← field (.ref a) 1) == .none then unsupported "frame.own-activation:exception-without-traceback"
                     setFlight (.ref a) X.env.frame) _ _ _
  refine wpAny_bind (wpAny_field he hd h1 ?_)
  rw [if_neg (show ¬ ((Value.ref T == Value.none) = true) from by simp)]
  rw [Pl.fr]
  obtain ⟨oe, vs, T, oT, ts, he, hc, hd, h1, hnT, hTe, hT, hdT, h3⟩ := ht
  have hsz3 : 3 < ts.size := (Array.getElem?_eq_some_iff.mp h3).1
  have other : ∀ b, b ≠ T → (h'.update T (Obj.mapFields (·.setIfInBounds 3 (rawInt X.env.locals)))).get? b = h'.get? b := fun b hb => Heap.get?_update_other _ _ (Ne.symm hb)
  have noR : ∀ b o, h'.get? b = some o → (∀ vs, o.data ≠ .fields vs) → b ≠ T := fun b o hb hnf q => by
    rw [q, hT] at hb
    cases hb
    exact hnf ts hdT
  unfold setFlight
  refine wpAny_bind (wpAny_field he hd h1 ?_)
  rw [if_pos (show (Value.ref T != Value.none) = true from by simp)]
  refine wpAny_setField hT hdT hsz3 ⟨a, cls, B, H', rfl, F'.move Pl (fun b o q => (other b fun z => by rw [z, hnT] at q; cases q).trans (F'.stays b o q)) (F'.funs.of_keeps fun b o q nf => ⟨o, (other b (noR b o q nf)).trans q, rfl⟩) (fun b o q nf => ⟨o.slots, (other b (noR b o q nf)).trans q⟩), .held a0 ?_⟩
  exact ⟨oe, vs, T, _, _, (other a (Ne.symm hTe)).trans he, hc, hd, h1, hnT, hTe, Heap.get?_update_self _ hT (Obj.isFreed_of_fields (Obj.data_mapFields hdT _)), Obj.data_mapFields hdT _, by simp [hsz3]⟩
/-- a callee's exception reaches the body -/
theorem passes1 (Pl : Plain X) : Passes (CX1 X.prog X.w) (X.wish (XFly X E)) E := by
  rintro pins σ H s e s' I ⟨a, cls, a0, B, H', rfl, os, bare, un, sl, fr, hok, fl, wish⟩
  have I : Inv X pins σ H s := I.unwish
  have noex : ∀ b, b ∉ X.ex := fun b z => by rw [Pl.ex] at z; cases z
  have nstk : ∀ b o, X.s₀.heap.get? b = some o → b ∉ X.fs → b ∉ frs X.stack := fun b o e hb z => by
    rcases List.mem_cons.mp (I.stkSub b z) with q | q
    · exact Nat.lt_irrefl _ (Nat.lt_of_lt_of_le (q ▸ Heap.lt_size e) I.ok.above)
    · exact hb q
  refine ⟨a, cls, B, H', rfl, ⟨os.trans I.os, bare, ⟨fun b o e n hb => ?_, fun b o e n => ?_, fun b o e hb => ?_, fun b xs e => un.tups b xs (I.base.tups b xs e), fun b o u e => un.frzs b o u (I.base.frzs b o u e), fun b ps e => ?_⟩, fun b o e hb => ?_, fr, hok, ?_, fl.1, fl.2.1, fl.2.2.1, wish⟩, .fly a0 fl.2.2.2⟩
  · exact un.keep b o (I.base.keep b o e n hb (noex b)) (I.base.free b o e n (noex b)) (nstk b o e hb)
  · obtain ⟨o', q⟩ := I.base.there b o e (noex b)
    exact un.free b o' q (I.base.free b o e n (noex b))
  · obtain ⟨o', q⟩ := I.base.there b o e (noex b)
    exact un.there b o' q (nstk b o e hb)
  · obtain ⟨m1, e1⟩ := I.base.tbls b ps e
    obtain ⟨m2, e2⟩ := un.tbls b _ e1
    exact ⟨m1 ++ m2, by rw [e2, Array.append_assoc]⟩
  · obtain ⟨s1, q1⟩ := I.base.slot b o e (I.ok.frf b hb) hb (noex b)
    obtain ⟨s2, q2⟩ := sl b _ q1 (fs_stk Pl hb)
    exact ⟨s2, q2⟩
  · obtain ⟨m, ⟨o, es, ep, ho, hd, r⟩, _⟩ := I.loc
    obtain ⟨s2, q2⟩ := sl _ o ho (loc_stk (X := X) Pl)
    exact ⟨m, _, es, ep, q2, hd, r⟩
end
/-- an own exception class, as the top has made it -/
structure ExcAt (K : PySem.W.Frag) (mg : Str → Option Value) (x : Str) (C : Addr) : Prop where
  mg : mg x = some (.ref C)
  ex : PySem.W.excIn K C [.type "Exception", .type "BaseException", .type "object"] "Exception.__new__" = true
theorem ExcAt.obj {K : PySem.W.Frag} {mg : Str → Option Value} {x : Str} {C : Addr} {h : Heap} (c : ExcAt K mg x C) (X : K.In h) :
    ∃ bm N nm q bs hdct sn sub ab col dd k0 k1 k2 k3 k5 mN, h.get? C = some (excClassObj nm q C N bs bm hdct sn sub ab col dd k0 k1 k2 k3 k5 "Exception.__new__") ∧ h.Ns N mN ∧ mN "__init__" = none ∧ OwnTail h [.type "Exception", .type "BaseException", .type "object"] bm := by
  have q := c.ex
  unfold PySem.W.excIn at q
  split at q
  · rename_i dd cd sl ho
    split at q
    · rename_i C' bm k0 k1 k2 k3 n k5 hm hs
      simp only [Bool.and_eq_true, beq_iff_eq, Bool.not_eq_true'] at q
      obtain ⟨⟨⟨⟨⟨rfl, rfl⟩, hdel⟩, ht⟩, hok⟩, hni⟩ := q
      obtain ⟨nm, bs, mro, ns, qn, hd, sn, sub, ab, col, del⟩ := cd
      dsimp only at hm hdel hok hni
      subst hm hdel
      have hsl : sl = #[k0, k1, k2, k3, some (.builtin "Exception.__new__"), k5] := by
        obtain ⟨l⟩ := sl
        simp only at hs
        rw [hs]
      subst hsl
      exact ⟨bm, ns, nm, qn, bs, hd, sn, sub, ab, col, dd, k0, k1, k2, k3, k5, _, X _ _ ho, .of_isNs (PySem.W.isNs_of_in X hok), PySem.W.nsMap_none_of_in X hok hni, PySem.W.tail_of_in X ht⟩
    · cases q
  · cases q
def tRaise (E : XK) (C : Addr) : TS := fun _ _ H => E (.ref C) none H
theorem ps_raise {X : Cx} {E : XK} {x : Str} {C : Addr} {np cpos pos : Pos} (Pl : Plain X) (hc : X.calm = true) (hg : Gl X x) (c : ExcAt X.K X.mg x C) (hd : (x == ("__debug__" : Str)) = false := by decide) :
    PS (X.wish (XFly X E)) (.Raise (some (.Call (.Name x np) [] [] cpos)) none pos) (tRaise E C) := by
  intro pins s σ H D I h
  have I0 : Inv X pins σ H s := I.unwish
  obtain ⟨bm, N, nm, q, bs, hdct, sn, sub, ab, col, dd, k0, k1, k2, k3, k5, mN, hC, hN, hni, T⟩ := c.obj I0.kIn
  refine wpAny_Raise_call_subT (C := C) (nm := nm) (q := q) (N := N) (bs := bs) (bm := bm) (hdct := hdct) (sn := sn) (sub := sub) (ab := ab) (col := col) (dd := dd) (k0 := k0) (k1 := k1) (k2 := k2) (k3 := k3) (k5 := k5)
    PySem.F.excBase_Exception (mN := mN) (T.hasType PySem.F.excBase_Exception.hasBase) (I0.ok.hd hc) rfl hni (ld_glob (X := X) I0 hg c.mg ⟨rfl, ?_⟩ hd)
  refine evalArgs_empty ⟨rfl, Nat.zero_le _, hC, hN, T, fun h' e hx => ?_⟩
  obtain ⟨t, he, htn, ht⟩ := hx.there
  have noex : ∀ b, b ∉ X.ex := fun b z => by rw [Pl.ex] at z; cases z
  have nstk : ∀ b o, X.s₀.heap.get? b = some o → b ∉ X.fs → b ∉ frs X.stack := fun b o e hb z => by
    rcases List.mem_cons.mp (I0.stkSub b z) with q | q
    · exact Nat.lt_irrefl _ (Nat.lt_of_lt_of_le (q ▸ Heap.lt_size e) I0.ok.above)
    · exact hb q
  refine ⟨e, .ref C, PySem.W.hideAll s.heap (frs X.stack), H, rfl, ⟨I0.os, I0.bare, ⟨fun b o q n hb => ?_, fun b o q n => I0.base.free b o q n (noex b), fun b o q hb => ?_, I0.base.tups, I0.base.frzs, I0.base.tbls⟩, fun b o q hb => ?_, I0.stkFree, fun b u q => ?_, ?_, fun b o q => hx.keeps b o (PySem.W.of_hideAll _ q), ?_, ?_, h⟩, .fresh _ _ _ he rfl rfl rfl rfl⟩
  · exact PySem.W.hideAll_get _ (I0.base.keep b o q n hb (noex b)) (nstk b o q hb)
  · obtain ⟨o', q'⟩ := I0.base.there b o q (noex b)
    exact ⟨o', PySem.W.hideAll_get _ q' (nstk b o q hb)⟩
  · obtain ⟨s1, q1⟩ := I0.base.slot b o q (I0.ok.frf b hb) hb (noex b)
    exact ⟨s1, hx.keeps _ _ q1⟩
  · refine (I0.hok b u q).stay (fun c' v hc' q' => PySem.W.hideAll_get _ q' fun z => ?_) (fun _ z => z) fun _ _ z => z
    have zn := I0.stkFree c' z
    rcases hc' with r | r
    · rw [r, q] at zn; cases zn
    · rw [r] at zn; cases zn
  · obtain ⟨m, hn, _⟩ := I0.loc
    exact ⟨m, hn.keeps hx.keeps⟩
  · cases z : (PySem.W.hideAll s.heap (frs X.stack)).get? e with
    | none => rfl
    | some o => have := PySem.W.of_hideAll _ z; rw [hx.new] at this; cases this
  · refine (PySem.W.funFrames_hide I0.stack fun env he' b hb => List.mem_filterMap.mpr ⟨env, he', hb⟩).of_keeps fun b o q _ => ⟨o, hx.keeps b o q, rfl⟩
section
variable {P : Program} {w : World} {K : PySem.W.Frag} {mg : Str → Option Value} {base : Heap}
theorem PSs.fly {X : Cx} {st : List Stmt} {t : TS} {E' : Value → Shared → Prop} (h : PSs (X.wish E') st t) (k : ∀ (pins : List (Addr × Obj)) (s : Shared) (σ : L2.St) (H : Hp), Inv X pins σ H s → ∀ e s', E' e s' → X.xe e s') : PSs X st t := fun pins s σ H D I hw =>
  wpAny_mono (h pins s σ H D (I.wish _) hw) (fun _ _ q => q.unwish) (k pins s σ H I)
theorem DefAt.okx {x : Str} {st : Stmt} {N ps : List Str} {k : Nat} {sp : Sp} (D : DefAt K mg x st) (S : FnScope N ps (defScope st))
    (hb : ∀ (kV doc pm : Value) (an : Option Addr) (cdv ct : Value) (us : List Value), us.length = ps.length → bindArgs (PySem.W.fnOf x x (defArgs st) (defBody st) (defScope st) .none kV doc pm an cdv ct) ⟨us, []⟩ = pure (ps.zip us))
    (len : ∀ vs H Q E, sp vs H Q E → vs.length = ps.length)
    (hbody : ∀ (f : Addr) (cdv : Value) (A : Around) (outer : List Env) (s : Shared) (H : Hp) (vs : List V) (Q : VK) (E : XK), Room k (A.deeper (envOfC x (defScope st) s.heap.objs.size f cdv)) → sp vs H Q E → ∀ X : Cx, X = cxOf (CX1 P w) P w K mg base N x (defScope st) f cdv A outer s H E →
      ∃ t, PSs (X.wish (XFly X E)) (defBody st) t ∧ t { nx := fun _ H' => Q .non H', rt := Q } (start N vs) H) : OkF P w K mg base (CX1 P w) (k + 1) x ps sp := by
  obtain ⟨f, fd, F, hm⟩ := D
  refine ⟨f, fd, hm, F.kp, F.binds hb, ?_⟩
  obtain ⟨oc, od, kV, doc, pm, an, cdv, ct, osl, rfl, lk, hcd⟩ := F.ex
  refine fn_of lk hcd S len fun A outer s H vs Q E hr hsp => ?_
  obtain ⟨t, h, q⟩ := hbody f cdv A outer s H vs Q E hr hsp _ rfl
  exact ⟨t, PSs.fly h fun pins s1 σ H1 I e s' z => z.leave plain_cx I.ok.frames, q⟩
end
/-- within an except suite -/
abbrev Cx.inEx (X : Cx) (e : Value) : Cx := { X with A := X.A.mark (some e), calm := false }
theorem inEx_ok {X : Cx} {e : Value} (ok : X.Ok) : (Cx.inEx X e).Ok := ⟨ok.mod, ok.kind, ok.glob, ok.blt, ok.above, ok.inj, ok.has, ok.cab, (fun z => nomatch z), ok.frames, ok.stk, ok.exf, ok.bs, ok.bsz, ok.noex, ok.exfs, ok.funs, ok.frf⟩
/-- the frame again, behind an exception -/
theorem FlyAt.inv {X : Cx} {E : XK} {a : Addr} {cls : Value} {B : Heap} {H' : Hp} {s' : Shared} {e : Value} (F : FlyAt X E a cls B H' s') (Pl : Plain X) (ok : X.Ok) (hc : X.env.cells = []) : Inv (Cx.inEx X e) [] (List.replicate X.N.length none) H' s' := by
  have u := F.un.un F.stays F.slots
  obtain ⟨m, hn⟩ := F.ns
  refine ⟨inEx_ok ok, F.os, F.bare, u.mono (fun _ z => z) (fun b z => by cases z), ⟨m, hn, fun i x v _ h2 _ => ?_⟩, fun x c h => ?_, F.frs _ (loc_stk Pl), fun x c h => ?_, fun p hp => ?_, F.hok.kept F.stays, List.length_replicate ..⟩
  · rw [List.getElem?_replicate] at h2
    split at h2 <;> cases h2
  · have h : X.env.cells.lookup x = some c := h
    rw [hc] at h; cases h
  · have h : X.env.cells.lookup x = some c := h
    rw [hc] at h; cases h
  · have hp : p ∈ X.pn ++ [] := hp
    rw [Pl.pn] at hp; cases hp
theorem inEx_back {X : Cx} {pins : List (Addr × Obj)} {σ : L2.St} {H : Hp} {s : Shared} {e : Value} (ok : X.Ok) (I : Inv (Cx.inEx X e) pins σ H s) : Inv X pins σ H s := ⟨ok, I.os, I.bare, I.base, I.loc, I.cell, I.free, I.freeC, I.pin, I.hok, I.len⟩
theorem SP.inEx {X : Cx} {D : Ends} {f : Flow} {s' : Shared} {e : Value} (ok : X.Ok) (h : SP (Cx.inEx X e) [] D f s') : SP X [] D f s' := by
  cases f with
  | next => obtain ⟨σ', H', I, q⟩ := h; exact ⟨σ', H', inEx_back ok I, q⟩
  | brk => obtain ⟨σ', H', I, q⟩ := h; exact ⟨σ', H', inEx_back ok I, q⟩
  | cont => obtain ⟨σ', H', I, q⟩ := h; exact ⟨σ', H', inEx_back ok I, q⟩
  | ret u => obtain ⟨v, σ', H', I, r, q⟩ := h; exact ⟨v, σ', H', inEx_back ok I, r, q⟩
/-- a def's whole body: nothing is pinned at its start -/
def PSs0 (X : Cx) (st : List Stmt) (t : TS) : Prop := ∀ (s : Shared) (σ : L2.St) (H : Hp) (D : Ends), Inv X [] σ H s → t D σ H → wpAny (model X.prog X.w) X.A (execs st X.env) (SP X [] D) X.xe s
def tTry (N : List Str) (E2 : XK) (C1 C2 : Addr) (tb t1 t2 : TS) : TS := fun D σ H => tb D σ H ∧ ∀ cls d H', E2 cls d H' → (cls = .ref C1 ∧ t1 D (List.replicate N.length none) H') ∨ (cls = .ref C2 ∧ t2 D (List.replicate N.length none) H')
theorem pss_try {X : Cx} {E2 : XK} {body : List Stmt} {x1 x2 : Str} {p1 p2 q1 q2 pos : Pos} {b1 b2 : Stmt} {r1 r2 : List Stmt} {C1 C2 : Addr} {tb t1 t2 : TS} (Pl : Plain X) (hcl : X.env.cells = []) (hxe : X.xe = fun _ _ => False)
    (g1 : Gl X x1) (g2 : Gl X x2) (m1 : X.mg x1 = some (.ref C1)) (m2 : X.mg x2 = some (.ref C2)) (e11 : PySem.W.exmOne X.K (.ref C1) (.ref C1) = some true) (e21 : PySem.W.exmOne X.K (.ref C2) (.ref C1) = some false) (e22 : PySem.W.exmOne X.K (.ref C2) (.ref C2) = some true)
    (hb : PSs (X.wish (XFly X E2)) body tb) (h1 : ∀ e, PSs (Cx.inEx X e) (b1 :: r1) t1) (h2 : ∀ e, PSs (Cx.inEx X e) (b2 :: r2) t2)
    (d1 : (x1 == ("__debug__" : Str)) = false := by decide) (d2 : (x2 == ("__debug__" : Str)) = false := by decide) :
    PSs0 X [.Try body [.ExceptHandler (some (.Name x1 p1)) none (b1 :: r1) q1, .ExceptHandler (some (.Name x2 p2)) none (b2 :: r2) q2] [] [] pos] (tTry X.N E2 C1 C2 tb t1 t2) := by
  intro s σ H D I ⟨w1, w2⟩
  have hfr : X.A.frames = some X.stack := I.ok.frames
  have look : ∀ {cls a0 fl : Value} {B h : Heap} {a : Addr}, h.TracedAtW B a cls a0 fl → PySem.W.Looks (model X.prog X.w) h (typeOf (.ref a)) cls := fun ht => by
    obtain ⟨ob, hob, hc⟩ := ht.there
    subst hc
    exact (PySem.W.Looks.ld hob).andThen .now
  -- a suite that takes it
  have suite : ∀ {a : Addr} {cls a0 : Value} {B : Heap} {H' : Hp} {s' : Shared} {b0 : Stmt} {r : List Stmt} {t : TS} {pos' : Pos} {Q : Result → Shared → Prop}, FlyAt X E2 a cls B H' s' → s'.heap.TracedW B a cls a0 → (∀ e, PSs (Cx.inEx X e) (b0 :: r) t) → t D (List.replicate X.N.length none) H' →
      (∀ f s'', SP X [] D f s'' → Q (.ok f) s'') → codeAny (model X.prog X.w) (X.A.mark (some (.ref a))) (.handlers (.ref a) [.ExceptHandler none none (b0 :: r) pos'] X.env) Q s' := by
    intro a cls a0 B H' s' b0 r t pos' Q F ht hs ht2 hq
    refine codeAny_handlers_suite (F.land ht.at Pl fun h' F' ht' => ?_)
    have I' := F'.inv (e := .ref a) Pl I.ok hcl
    refine wpAny_mono (hs (.ref a) [] _ _ H' D I' ht2) (fun f s'' z => hq f s'' (SP.inEx I.ok z)) fun e s'' z => ?_
    have z : X.xe e s'' := z
    rw [hxe] at z
    exact z.elim
  have name : ∀ {a : Addr} {cls : Value} {B : Heap} {H' : Hp} {s' : Shared} {x : Str} {C : Addr} {pos' : Pos} {Q : Value → Shared → Prop} {Ex : Value → Shared → Prop}, FlyAt X E2 a cls B H' s' → Gl X x → X.mg x = some (.ref C) → (x == ("__debug__" : Str)) = false → Q (.ref C) s' → wpAny (model X.prog X.w) (X.A.mark (some (.ref a))) (eval (.Name x pos') X.env) Q Ex s' :=
    fun F hg hm hd q => ld_glob (X := Cx.inEx X _) (F.inv Pl I.ok hcl) hg hm q hd
  have kin : ∀ {a : Addr} {cls : Value} {B : Heap} {H' : Hp} {s' : Shared}, FlyAt X E2 a cls B H' s' → X.K.In s'.heap := fun F => (F.inv (e := .none) Pl I.ok hcl).kIn
  have fin : ∀ {f : Flow} {s1 : Shared}, SP X [] D f s1 → (match f with | .next => wpAny (model X.prog X.w) X.A (execs [] X.env) (SP X [] D) X.xe s1 | f => SP X [] D f s1) := fun {f s1} z => by
    cases f with
    | next => exact wpAny_execs_nil z
    | ret v => exact z
    | brk => exact z
    | cont => exact z
  refine wpAny_execs_cons (wpAny_Try_except ?_)
  refine wpAny_mono (hb [] s σ H D (I.wish _) w1) (fun f s1 z => ?_) fun e s1 z => ?_
  · have z := SP.unwish z
    cases f with
    | next => exact wpAny_execs_nil (wpAny_execs_nil z)
    | ret v => exact z
    | brk => exact z
    | cont => exact z
  · obtain ⟨a, cls, B, H', rfl, F, G⟩ := z
    refine F.note G Pl hfr fun h2' a0 F2 t2' => F2.land t2' Pl fun h3 F3 t3 => ?_
    rcases w2 cls none H' F.wish with ⟨rfl, wt⟩ | ⟨rfl, wt⟩
    · refine wpAny_handleBy_cons (codeAny_handlers_test (name F3 g1 m1 d1 ((PySem.W.exm_one (kin F3) (look t3.at) e11).here ?_))) (by intro q; cases q)
      exact suite F3 t3 h1 wt fun f s4 z => fin z
    · refine wpAny_handleBy_cons (codeAny_handlers_test (name F3 g1 m1 d1 ((PySem.W.exm_one (kin F3) (look t3.at) e21).here ?_))) (by intro q; cases q)
      refine wpAny_handleBy_cons (codeAny_handlers_test (name F3 g2 m2 d2 ((PySem.W.exm_one (kin F3) (look t3.at) e22).here ?_))) (by intro q; cases q)
      exact suite F3 t3 h2 wt fun f s4 z => fin z
/-- a def whose body is such a statement; no exception leaves it -/
theorem Fun.ok0 {P : Program} {w : World} {K : PySem.W.Frag} {mg : Str → Option Value} {base : Heap} {x qual : Str} {st : Stmt} {f : Addr} {fd : FuncData} {N ps : List Str} {k : Nat} {sp : Sp} (F : Fun K x qual st f fd) (S : FnScope N ps (defScope st)) (len : ∀ vs H Q E, sp vs H Q E → vs.length = ps.length)
    (hbody : ∀ (cdv : Value) (A : Around) (outer : List Env) (s : Shared) (H : Hp) (vs : List V) (Q : VK) (E : XK), Room k (A.deeper (envOfC qual (defScope st) s.heap.objs.size f cdv)) → sp vs H Q E → ∀ X : Cx, X = (cxOf CX0 P w K mg base N qual (defScope st) f cdv A outer s H E).nox →
      ∃ t, PSs0 X (defBody st) t ∧ t { nx := fun _ H' => Q .non H', rt := Q } (start N vs) H) : FnOk P w K mg base CX0 (k + 1) f fd ps sp := by
  obtain ⟨oc, od, kV, doc, pm, an, cdv, ct, osl, rfl, lk, hcd⟩ := F.ex
  refine ⟨len, fun A outer s H args us vs Q E hr e0 hb r hsp => ?_⟩
  have hl := len _ _ _ _ hsp
  have KX : K.In s.heap := e0.mod.kin.keeps fun b o e => (e0.bs b o e).1
  have lim : s.heap.NoLimit := e0.mod.nolimit.keeps fun b o e => (e0.bs b o e).1
  have hkind : ∀ y ∈ ps.zip us, (defScope st).names.lookup y.1 = some .local ∨ ((defScope st).names.lookup y.1 = some .cell ∧ ((cellsFrom (s.heap.objs.size + 1) (defScope st).names []).lookup y.1).isSome = true) := fun ⟨n, v⟩ hy => by
    rcases S.par n (List.of_mem_zip hy).1 with q | q
    · exact .inl q
    · exact .inr ⟨q, PySem.W.cellsFrom_some _ _ _ (.inl q)⟩
  refine codeAny_call_function hr.depth (KX _ _ lk) rfl S.co S.gen rfl (PySem.W.codeRec_of KX hcd) (hb _ _ _ _ ?_)
  refine wpAny_newFunctionEnv_cells S.kind hkind fun env he s1 x => ?_
  subst he
  refine ⟨lim.keeps x.toInCall.keep, codeAny_func ?_⟩
  obtain ⟨t, ht, hq⟩ := hbody cdv A outer s H vs Q E (hr.deeper _) hsp _ rfl
  have I : Inv (cxOf CX0 P w K mg base N qual (defScope st) f cdv A outer s H E) [] (start N vs) H s1 := inv_start S hr.hd e0 hl r x
  refine wpAny_mono (ht s1 (start N vs) H _ (I.wish _) hq) (fun fl s' hs => ?_) fun e s' hs => hs.elim
  have hs := SP.unwish hs
  have fin : ∀ {σ' : L2.St} {H' : Hp} {v : V} {u : Value}, Inv (cxOf CX0 P w K mg base N qual (defScope st) f cdv A outer s H E) [] σ' H' s' → RelV v u → Q v H' → CE outer P w H s Q u s' :=
    fun {σ' H' v u} J rv q => ⟨v, H', J.os, J.bare, J.base, J.hok, rv, q⟩
  cases fl with
  | ret u =>
    obtain ⟨v, σ', H', J, rv, q⟩ := hs
    exact fin J rv q
  | next =>
    obtain ⟨σ', H', J, q⟩ := hs
    exact fin (v := V.non) (u := Value.none) J rfl q
  | brk =>
    obtain ⟨_, _, _, q⟩ := hs
    exact False.elim q
  | cont =>
    obtain ⟨_, _, _, q⟩ := hs
    exact False.elim q
end TW

namespace TW
/-- every s-th number from place i on, n of them -/
def pick (xs : List Int) (i s n : Nat) : List Int := (List.range n).map fun m => xs.getD (i + m * s) 0
theorem pick_length (xs : List Int) (i s n : Nat) : (pick xs i s n).length = n := by simp [pick]
theorem pick_getD {xs : List Int} {i s n m : Nat} (h : m < n) : (pick xs i s n).getD m 0 = xs.getD (i + m * s) 0 := by
  simp [pick, List.getD_eq_getElem?_getD, h]
def rightOdds (ev : List Int) (count : Nat) : List Int := if (ev.drop 1).length < count then ev.drop 1 ++ [ev.getD (ev.length - 1) 0] else ev.drop 1
def lifts (d : List Int) : List Int := ((d.take 1 ++ d).zip (d ++ d.drop (d.length - 1))).map fun p => (p.1 + p.2 + 2) / 4
def diffs (od ev ri : List Int) : List Int := (od.zip (ev.zip ri)).map fun p => p.1 - (p.2.1 + p.2.2) / 2
def halveRow (x : List Int) : List Int := if x.length < 2 then x else
  let ev := pick x 0 2 ((x.length + 1) / 2)
  let od := pick x 1 2 (x.length / 2)
  let d := diffs od ev (rightOdds ev od.length)
  (ev.zip (lifts d)).map (fun p => p.1 + p.2) ++ d
theorem getD_of_lt {xs : List Int} {i : Nat} (h : i < xs.length) : xs[i] = xs.getD i 0 := by simp [List.getD_eq_getElem?_getD, h]
theorem lifts_length (d : List Int) : (lifts d).length = if d.length = 0 then 0 else d.length + 1 := by
  simp only [lifts, List.length_map, List.length_zip, List.length_append, List.length_take, List.length_drop]
  split <;> omega
theorem lifts_getD {d : List Int} {i : Nat} (h0 : 0 < d.length) (h : i < d.length + 1) : (lifts d).getD i 0 = (Sp21.near d i + 2) / 4 := by
  have hl : i < (lifts d).length := by rw [lifts_length, if_neg (by omega)]; omega
  rw [← getD_of_lt hl]
  simp only [lifts, Sp21.near, List.getElem_map, List.getElem_zip]
  have e1 : (d.take 1 ++ d)[i]'(by simp; omega) = d.getD (i - 1) 0 := by
    rw [List.getElem_append]
    have h1 : (d.take 1).length = 1 := by simp; omega
    by_cases hi : i = 0
    · subst hi
      rw [dif_pos (by omega), List.getElem_take, getD_of_lt]
    · rw [dif_neg (by omega), getD_of_lt]
      simp [h1]
  have e2 : (d ++ d.drop (d.length - 1))[i]'(by simp; omega) = d.getD (min i (d.length - 1)) 0 := by
    rw [List.getElem_append]
    by_cases hi : i < d.length
    · rw [dif_pos hi, getD_of_lt, Nat.min_eq_left (by omega)]
    · rw [dif_neg hi, List.getElem_drop, getD_of_lt, Nat.min_eq_right (by omega)]
      congr 1
      omega
  rw [e1, e2]
theorem rightOdds_length {ev : List Int} {c : Nat} (h : 0 < ev.length) (hc : c ≤ ev.length) (hc2 : ev.length ≤ c + 1) : (rightOdds ev c).length = c := by
  unfold rightOdds
  split
  · rename_i h1
    simp at h1 ⊢; omega
  · rename_i h1
    simp at h1 ⊢; omega
theorem rightOdds_getD {ev : List Int} {c i : Nat} (h : 0 < ev.length) (hc : c ≤ ev.length) (hc2 : ev.length ≤ c + 1) (hi : i < c) : (rightOdds ev c).getD i 0 = ev.getD (min (i + 1) (ev.length - 1)) 0 := by
  have hl : i < (rightOdds ev c).length := by rw [rightOdds_length h hc hc2]; exact hi
  unfold rightOdds
  split
  · rename_i h1
    simp at h1
    rw [List.getD_eq_getElem?_getD, List.getElem?_append]
    by_cases q : i < (ev.drop 1).length
    · rw [if_pos q]
      simp at q
      rw [List.getElem?_drop, ← List.getD_eq_getElem?_getD]
      congr 1
      omega
    · rw [if_neg q]
      simp at q
      have : i - (ev.drop 1).length = 0 := by simp; omega
      rw [this]
      simp only [List.getElem?_cons_zero, Option.getD_some]
      congr 1
      omega
  · rename_i h1
    simp at h1
    rw [List.getD_eq_getElem?_getD, List.getElem?_drop, ← List.getD_eq_getElem?_getD]
    congr 1
    omega
theorem diffs_eq {x : List Int} (h : 2 ≤ x.length) : diffs (pick x 1 2 (x.length / 2)) (pick x 0 2 ((x.length + 1) / 2)) (rightOdds (pick x 0 2 ((x.length + 1) / 2)) (x.length / 2)) = Sp21.differences x := by
  have le : (pick x 0 2 ((x.length + 1) / 2)).length = (x.length + 1) / 2 := pick_length _ _ _ _
  have lr := rightOdds_length (ev := pick x 0 2 ((x.length + 1) / 2)) (c := x.length / 2) (by omega) (by omega) (by omega)
  apply List.ext_getElem
  · simp only [diffs, Sp21.differences, List.length_map, List.length_zip, lr, pick_length, List.length_range]
    omega
  · intro i h1 h2
    simp only [Sp21.differences, List.length_map, List.length_range] at h2
    simp only [diffs, Sp21.differences, List.getElem_map, List.getElem_zip, List.getElem_range, getD_of_lt]
    rw [pick_getD h2, pick_getD (by omega), rightOdds_getD (by omega) (by omega) (by omega) h2, le, pick_getD (by omega)]
    unfold Sp21.look
    have e1 : 1 + i * 2 = 2 * i + 1 := by omega
    have e2 : 0 + i * 2 = 2 * i := by omega
    have e3 : (if 2 * i + 2 < x.length then x.getD (2 * i + 2) 0 else x.getD (x.length - 2) 0) = x.getD (0 + min (i + 1) ((x.length + 1) / 2 - 1) * 2) 0 := by
      split
      · congr 1; omega
      · congr 1; omega
    rw [e1, e2, e3]
theorem halveRow_eq (x : List Int) : halveRow x = Sp21.halve x := by
  unfold halveRow Sp21.halve
  split
  · rfl
  · rename_i h
    simp only [pick_length]
    rw [diffs_eq (by omega)]
    have ld : (Sp21.differences x).length = x.length / 2 := by simp [Sp21.differences]
    congr 1
    apply List.ext_getElem
    · simp only [List.length_map, List.length_zip, pick_length, lifts_length, ld, List.length_range]
      rw [if_neg (by omega)]
      omega
    · intro i h1 h2
      simp only [List.length_map, List.length_range] at h2
      simp only [List.getElem_map, List.getElem_zip, List.getElem_range, getD_of_lt]
      rw [pick_getD h2, lifts_getD (by omega) (by omega)]
      have e2 : 0 + i * 2 = 2 * i := by omega
      rw [e2]
end TW

namespace TW
open Sp21 (sumBit)
theorem sumBit_eq (c : Nat) : sumBit c = (c >>> 1) ^^^ (if c.testBit 0 then 0xEDB88320 else 0) := by
  unfold sumBit
  rw [Nat.testBit_zero, Nat.shiftRight_eq_div_pow]
  by_cases h : c % 2 = 1
  · simp [h]
  · simp [h]
theorem sumBit_xor (a b : Nat) : sumBit (a ^^^ b) = sumBit a ^^^ sumBit b := by
  rw [sumBit_eq, sumBit_eq, sumBit_eq, Nat.shiftRight_xor_distrib, Nat.testBit_xor]
  apply Nat.eq_of_testBit_eq
  intro i
  cases a.testBit 0 <;> cases b.testBit 0 <;> simp <;> cases (a >>> 1).testBit i <;> cases (b >>> 1).testBit i <;> cases (3988292384 : Nat).testBit i <;> simp_all
theorem sumBit_shl (y : Nat) : sumBit (y <<< 1) = y := by
  rw [sumBit_eq]
  have h : (y <<< 1).testBit 0 = false := by simp
  rw [h]
  simp
def step8 (c : Nat) : Nat := (List.range 8).foldl (fun c _ => sumBit c) c
theorem step8_eq (c : Nat) : step8 c = sumBit (sumBit (sumBit (sumBit (sumBit (sumBit (sumBit (sumBit c))))))) := by
  unfold step8
  rw [show List.range 8 = [0, 1, 2, 3, 4, 5, 6, 7] from rfl]
  simp only [List.foldl_cons, List.foldl_nil]
theorem step8_xor (a b : Nat) : step8 (a ^^^ b) = step8 a ^^^ step8 b := by simp only [step8_eq, sumBit_xor]
theorem sumBit_shl1 (y n : Nat) : sumBit (y <<< (n + 1)) = y <<< n := by rw [Nat.shiftLeft_add, sumBit_shl]
theorem step8_shl (y : Nat) : step8 (y <<< 8) = y := by
  have h7 := sumBit_shl1 y 7
  have h6 := sumBit_shl1 y 6
  have h5 := sumBit_shl1 y 5
  have h4 := sumBit_shl1 y 4
  have h3 := sumBit_shl1 y 3
  have h2 := sumBit_shl1 y 2
  have h1 := sumBit_shl1 y 1
  have h0 := sumBit_shl1 y 0
  simp only [Nat.reduceAdd] at h7 h6 h5 h4 h3 h2 h1 h0
  rw [step8_eq, h7, h6, h5, h4, h3, h2, h1, h0, Nat.shiftLeft_zero]
theorem split8 (x : Nat) : x = ((x >>> 8) <<< 8) ^^^ (x &&& 255) := by
  apply Nat.eq_of_testBit_eq
  intro i
  have h255 : (255 : Nat) = 2 ^ 8 - 1 := rfl
  rw [Nat.testBit_xor, Nat.testBit_and, h255, Nat.testBit_two_pow_sub_one, Nat.testBit_shiftLeft, Nat.testBit_shiftRight]
  by_cases h : i < 8
  · simp [h, show ¬ 8 ≤ i by omega]
  · simp [h, show 8 ≤ i by omega, show 8 + (i - 8) = i by omega]
theorem crc_step {c b : Nat} (hb : b < 256) : (c >>> 8) ^^^ step8 ((c ^^^ b) &&& 255) = step8 (c ^^^ b) := by
  conv => rhs; rw [split8 (c ^^^ b)]
  rw [step8_xor, step8_shl, Nat.shiftRight_xor_distrib]
  have : b >>> 8 = 0 := by rw [Nat.shiftRight_eq_div_pow]; omega
  rw [this, Nat.xor_zero]
def crcTable : List Nat := (List.range 256).map step8
theorem crcTable_getD {k : Nat} (h : k < 256) : crcTable.getD k 0 = step8 k := by
  simp [crcTable, List.getD_eq_getElem?_getD, h]
def crcNext (c b : Nat) : Nat := (c >>> 8) ^^^ crcTable.getD ((c ^^^ b) &&& 255) 0
theorem crcNext_eq {c b : Nat} (hb : b < 256) : crcNext c b = step8 (c ^^^ b) := by
  unfold crcNext
  rw [crcTable_getD (by have := @Nat.and_le_right (c ^^^ b) 255; omega), crc_step hb]
def crcOf (l : List Nat) : Nat := l.foldl crcNext (2 ^ 32 - 1) ^^^ (2 ^ 32 - 1)
theorem sumBit_lt {c : Nat} (h : c < 2 ^ 32) : sumBit c < 2 ^ 32 := by
  unfold sumBit
  split
  · exact Nat.xor_lt_two_pow (by omega) (by decide)
  · omega
theorem step8_lt {c : Nat} (h : c < 2 ^ 32) : step8 c < 2 ^ 32 := by
  rw [step8_eq]
  exact sumBit_lt (sumBit_lt (sumBit_lt (sumBit_lt (sumBit_lt (sumBit_lt (sumBit_lt (sumBit_lt h)))))))
theorem xor_ones {c : Nat} (h : c < 2 ^ 32) : c ^^^ (2 ^ 32 - 1) = 2 ^ 32 - 1 - c := by
  apply Nat.eq_of_testBit_eq
  intro i
  have e : 2 ^ 32 - 1 - c = 2 ^ 32 - (c + 1) := by omega
  rw [e, Nat.testBit_two_pow_sub_succ h, Nat.testBit_xor, Nat.testBit_two_pow_sub_one]
  by_cases hi : i < 32
  · simp [hi]
  · have : c.testBit i = false := Nat.testBit_lt_two_pow (Nat.lt_of_lt_of_le h (Nat.pow_le_pow_right (by decide) (by omega)))
    simp [hi, this]
theorem crc_fold : ∀ (l : List Nat) (c : Nat), c < 2 ^ 32 → (∀ x ∈ l, x < 256) →
    l.foldl crcNext c = l.foldl (fun (c x : Nat) => (List.range 8).foldl (fun (c _ : Nat) => sumBit c) (c ^^^ x)) c ∧ l.foldl crcNext c < 2 ^ 32
  | [], c, hc, _ => ⟨rfl, hc⟩
  | x :: r, c, hc, h => by
    have hx : x < 256 := h x (by simp)
    rw [List.foldl_cons, List.foldl_cons, crcNext_eq hx]
    exact crc_fold r (step8 (c ^^^ x)) (step8_lt (Nat.xor_lt_two_pow hc (by omega))) fun y hy => h y (by simp [hy])
theorem crcOf_eq {l : List Nat} (h : ∀ x ∈ l, x < 256) : crcOf l = Sp21.sum l := by
  obtain ⟨h1, h2⟩ := crc_fold l (2 ^ 32 - 1) (by decide) h
  unfold crcOf Sp21.sum
  rw [xor_ones h2, h1]
end TW

namespace TW
open Sp21 (bitsOf value bytesOf)
theorem bitsOf_length (n m : Nat) : (bitsOf n m).length = n := by simp [bitsOf]
theorem bitsOf_zero (m : Nat) : bitsOf 0 m = [] := rfl
theorem bitsOf_lt {n m x : Nat} (h : x ∈ bitsOf n m) : x < 2 := by
  unfold bitsOf at h
  obtain ⟨i, _, rfl⟩ := List.mem_map.mp h
  omega
theorem bitsOf_getElem {n m i : Nat} (h : i < (bitsOf n m).length) : (bitsOf n m)[i] = m / 2 ^ (n - 1 - i) % 2 := by simp [bitsOf]
theorem bitsOf_add (a b x y : Nat) (hy : y < 2 ^ b) : bitsOf (a + b) (x * 2 ^ b + y) = bitsOf a x ++ bitsOf b y := by
  apply List.ext_getElem
  · simp [bitsOf_length]
  · intro i h1 h2
    rw [bitsOf_length] at h1
    rw [bitsOf_getElem, List.getElem_append]
    split
    · rename_i h
      rw [bitsOf_length] at h
      rw [bitsOf_getElem]
      have e : a + b - 1 - i = b + (a - 1 - i) := by omega
      rw [e, Nat.pow_add, ← Nat.div_div_eq_div_mul, Nat.mul_comm x, Nat.mul_add_div (Nat.two_pow_pos b), Nat.div_eq_of_lt hy, Nat.add_zero]
    · rename_i h
      rw [bitsOf_length] at h
      rw [bitsOf_getElem, bitsOf_length]
      have hi : i - a < b := by omega
      have e : a + b - 1 - i = b - 1 - (i - a) := by omega
      rw [e]
      obtain ⟨k, hk⟩ : ∃ k, b = (b - 1 - (i - a)) + 1 + k := ⟨i - a, by omega⟩
      have e2 : x * 2 ^ b = 2 ^ (b - 1 - (i - a)) * (2 * (x * 2 ^ k)) := by
        conv => lhs; rw [hk, Nat.pow_add, Nat.pow_add, Nat.pow_one]
        rw [Nat.mul_left_comm x, Nat.mul_assoc (2 ^ _)]
      rw [e2, Nat.mul_add_div (Nat.two_pow_pos _), Nat.add_comm, Nat.add_mul_mod_self_left]
/-- the top bits, then the others -/
theorem bitsOf_cut (a b m : Nat) : bitsOf (a + b) m = bitsOf a (m / 2 ^ b) ++ bitsOf b (m % 2 ^ b) := by
  rw [← bitsOf_add a b _ _ (Nat.mod_lt _ (Nat.two_pow_pos b)), Nat.mul_comm, Nat.div_add_mod]
theorem value_foldl (l : List Nat) : ∀ n : Nat, l.foldl (fun (n c : Nat) => 2 * n + c) n = n * 2 ^ l.length + value l := by
  induction l with
  | nil => intro n; simp [value]
  | cons x r ih =>
    intro n
    unfold value
    rw [List.foldl_cons, List.foldl_cons, ih, ih (2 * 0 + x), List.length_cons, Nat.pow_succ, Nat.add_mul]
    have : 2 * n * 2 ^ r.length = n * (2 ^ r.length * 2) := by rw [Nat.mul_comm 2 n, Nat.mul_assoc, Nat.mul_comm 2]
    rw [this]
    simp only [Nat.mul_zero, Nat.zero_add]
    omega
theorem value_append (a b : List Nat) : value (a ++ b) = value a * 2 ^ b.length + value b := by
  rw [show value (a ++ b) = (a ++ b).foldl (fun (n c : Nat) => 2 * n + c) 0 from rfl, List.foldl_append, value_foldl b]
  rfl
theorem value_zeros (k : Nat) : value (List.replicate k 0) = 0 := by
  induction k with
  | zero => rfl
  | succ k ih =>
    rw [List.replicate_succ, show (0 : Nat) :: List.replicate k 0 = [0] ++ List.replicate k 0 from rfl, value_append, ih]
    simp [value]
theorem value_bitsOf (n m : Nat) : value (bitsOf n m) = m % 2 ^ n := by
  induction n generalizing m with
  | zero => simp [bitsOf_zero, value, Nat.mod_one]
  | succ n ih =>
    rw [bitsOf_cut n 1, value_append, ih, bitsOf_length]
    have e : bitsOf 1 (m % 2 ^ 1) = [m % 2] := by simp [bitsOf, List.range_succ]
    rw [e, show value [m % 2] = m % 2 by simp [value]]
    rw [Nat.pow_one, Nat.pow_succ, Nat.mul_comm (2 ^ n) 2, Nat.mod_mul]
    omega
theorem value_bitsOf_lt {n m : Nat} (h : m < 2 ^ n) : value (bitsOf n m) = m := by rw [value_bitsOf, Nat.mod_eq_of_lt h]

def byteAt (b : List Nat) (i : Nat) : Nat := value ((List.range 8).map fun (j : Nat) => b.getD (8 * i + j) 0)
theorem bytesOf_eq (b : List Nat) : bytesOf b = (List.range ((b.length + 7) / 8)).map (byteAt b) := rfl
theorem bytesOf_length (b : List Nat) : (bytesOf b).length = (b.length + 7) / 8 := by simp [bytesOf]
theorem bytesOf_cons {x : Nat} (hx : x < 256) (t : List Nat) : bytesOf (bitsOf 8 x ++ t) = x :: bytesOf t := by
  rw [bytesOf_eq, bytesOf_eq]
  have hl : (bitsOf 8 x ++ t).length = 8 + t.length := by simp [bitsOf_length]
  have e : (8 + t.length + 7) / 8 = (t.length + 7) / 8 + 1 := by omega
  rw [hl, e, List.range_succ_eq_map, List.map_cons, List.map_map]
  refine congr (congrArg List.cons ?_) ?_
  · have e8 : ((List.range 8).map fun (j : Nat) => (bitsOf 8 x ++ t).getD (8 * 0 + j) 0) = bitsOf 8 x := by
      apply List.ext_getElem
      · simp [bitsOf_length]
      · intro j h1 h2
        rw [bitsOf_length] at h2
        rw [List.getElem_map, List.getElem_range, List.getD_eq_getElem?_getD, Nat.mul_zero, Nat.zero_add, List.getElem?_append_left (by rw [bitsOf_length]; exact h2),
          List.getElem?_eq_getElem (by rw [bitsOf_length]; exact h2), Option.getD_some]
    unfold byteAt
    rw [e8, value_bitsOf_lt hx]
  · apply List.map_congr_left
    intro i _
    show byteAt (bitsOf 8 x ++ t) (i + 1) = byteAt t i
    unfold byteAt
    refine congrArg value (List.map_congr_left fun j _ => ?_)
    rw [List.getD_eq_getElem?_getD, List.getD_eq_getElem?_getD, List.getElem?_append_right (by rw [bitsOf_length]; omega), bitsOf_length]
    congr 2
    omega
theorem bytesOf_done {l : List Nat} (h : ∀ x ∈ l, x < 256) (t : List Nat) : bytesOf (l.flatMap (bitsOf 8) ++ t) = l ++ bytesOf t := by
  induction l with
  | nil => rfl
  | cons x r ih =>
    rw [List.flatMap_cons, List.append_assoc, bytesOf_cons (h x (by simp)), ih fun y hy => h y (by simp [hy]), List.cons_append]
theorem bytesOf_rest {held rest : Nat} (h8 : held < 8) (hr : rest < 2 ^ held) : bytesOf (bitsOf held rest) = if held = 0 then [] else [rest * 2 ^ (8 - held)] := by
  split
  · rename_i h
    subst h
    rw [bytesOf_eq, bitsOf_length]
    rfl
  · rename_i h
    rw [bytesOf_eq, bitsOf_length, show (held + 7) / 8 = 1 by omega, show List.range 1 = [0] from rfl, List.map_cons, List.map_nil]
    congr 1
    unfold byteAt
    have e8 : ((List.range 8).map fun (j : Nat) => (bitsOf held rest).getD (8 * 0 + j) 0) = bitsOf held rest ++ List.replicate (8 - held) 0 := by
      apply List.ext_getElem
      · simp [bitsOf_length]; omega
      · intro j h1 h2
        rw [List.getElem_map, List.getElem_range, List.getD_eq_getElem?_getD, Nat.mul_zero, Nat.zero_add, List.getElem_append]
        split
        · rename_i hj
          rw [List.getElem?_eq_getElem hj, Option.getD_some]
        · rename_i hj
          rw [List.getElem?_eq_none (by omega), Option.getD_none]
          simp
    rw [e8, value_append, value_bitsOf_lt hr, value_zeros, List.length_replicate, Nat.add_zero]
theorem flat8_length (l : List Nat) : (l.flatMap (bitsOf 8)).length = 8 * l.length := by
  induction l with
  | nil => rfl
  | cons x r ih =>
    rw [List.flatMap_cons, List.length_append, bitsOf_length, List.length_cons, ih]
    omega
/-- what a writer has taken: bytes that are done, and held bits of the rest -/
structure Wr (done : List Nat) (rest held : Nat) (B : List Nat) : Prop where
  bits : B = done.flatMap (bitsOf 8) ++ bitsOf held rest
  lt : rest < 2 ^ held
  byte : ∀ x ∈ done, x < 256
theorem Wr.empty : Wr [] 0 0 [] := ⟨rfl, by decide, by simp⟩
theorem Wr.tell {done B : List Nat} {rest held : Nat} (h : Wr done rest held B) {v many : Nat} (hv : v < 2 ^ many) : Wr done (rest * 2 ^ many + v) (held + many) (B ++ bitsOf many v) where
  bits := by rw [h.bits, bitsOf_add _ _ _ _ hv, List.append_assoc]
  lt := by
    have : rest + 1 ≤ 2 ^ held := h.lt
    have := Nat.mul_le_mul_right (2 ^ many) this
    rw [Nat.add_mul, Nat.one_mul, ← Nat.pow_add] at this
    omega
  byte := h.byte
theorem Wr.drain {done B : List Nat} {rest held : Nat} (h : Wr done rest held B) (h8 : 8 ≤ held) : Wr (done ++ [rest / 2 ^ (held - 8)]) (rest % 2 ^ (held - 8)) (held - 8) B where
  bits := by
    rw [h.bits, List.flatMap_append, List.flatMap_singleton, List.append_assoc, ← bitsOf_cut, show 8 + (held - 8) = held by omega]
  lt := Nat.mod_lt _ (Nat.two_pow_pos _)
  byte := by
    intro x hx
    rcases List.mem_append.mp hx with q | q
    · exact h.byte x q
    · rw [List.mem_singleton.mp q]
      have hl := h.lt
      rw [Nat.div_lt_iff_lt_mul (Nat.two_pow_pos _), show (256 : Nat) = 2 ^ 8 from rfl, ← Nat.pow_add, show 8 + (held - 8) = held by omega]
      exact hl
theorem Wr.all {done B : List Nat} {rest held : Nat} (h : Wr done rest held B) (h8 : held < 8) : bytesOf B = done ++ if held = 0 then [] else [rest * 2 ^ (8 - held)] := by
  rw [h.bits, bytesOf_done h.byte, bytesOf_rest h8 h.lt]
theorem Wr.length {done B : List Nat} {rest held : Nat} (h : Wr done rest held B) : B.length = 8 * done.length + held := by
  rw [h.bits, List.length_append, bitsOf_length, flat8_length]
end TW

namespace TW
open Sp21 (bitsOf value bytesOf parameter tell next code1 bandBits)
theorem bitsOf_ones (q : Nat) : bitsOf q (2 ^ q - 1) = List.replicate q 1 := by
  apply List.ext_getElem
  · simp [bitsOf_length]
  · intro i h1 h2
    rw [bitsOf_length] at h1
    rw [bitsOf_getElem, List.getElem_replicate]
    have e : 2 ^ q - 1 = (2 ^ (i + 1) - 1) * 2 ^ (q - 1 - i) + (2 ^ (q - 1 - i) - 1) := by
      have e1 : 2 ^ q = 2 ^ (i + 1) * 2 ^ (q - 1 - i) := by rw [← Nat.pow_add]; congr 1; omega
      have h1 := Nat.two_pow_pos (q - 1 - i)
      rw [e1, Nat.sub_mul, Nat.one_mul]
      have : 2 ^ (q - 1 - i) ≤ 2 ^ (i + 1) * 2 ^ (q - 1 - i) := Nat.le_mul_of_pos_left _ (Nat.two_pow_pos _)
      omega
    have h1 := Nat.two_pow_pos (q - 1 - i)
    rw [e, Nat.mul_comm, Nat.mul_add_div h1, Nat.div_eq_of_lt (by omega), Nat.add_zero, Nat.pow_succ]
    have := Nat.two_pow_pos i
    omega
theorem bitsOf_ones0 (q : Nat) : bitsOf (q + 1) ((2 ^ q - 1) * 2) = List.replicate q 1 ++ [0] := by
  have h := bitsOf_add q 1 (2 ^ q - 1) 0 (by decide)
  rw [Nat.pow_one] at h
  rw [show (2 ^ q - 1) * 2 = (2 ^ q - 1) * 2 + 0 from rfl]
  rw [h, bitsOf_ones]
  rfl
theorem tell_short {k m : Nat} (h : m / 2 ^ k < 24) : tell k m = bitsOf (m / 2 ^ k + 1) ((2 ^ (m / 2 ^ k) - 1) * 2) ++ bitsOf k (m % 2 ^ k) := by
  unfold tell
  simp only [if_pos h]
  rw [bitsOf_ones0, List.append_assoc]
  rfl
theorem tell_long {k m : Nat} (h : ¬ m / 2 ^ k < 24) : tell k m = bitsOf 24 (2 ^ 24 - 1) ++ bitsOf 24 m := by
  unfold tell
  simp only [if_neg h]
  rw [bitsOf_ones]
theorem parameter_eq {a c k : Nat} (hk : k < 64) (h : a ≤ c * 2 ^ k) (hn : ∀ j, j < k → ¬ a ≤ c * 2 ^ j) : parameter a c = k := by
  unfold parameter
  have : (List.range 64).find? (fun (k : Nat) => decide (a ≤ c * 2 ^ k)) = some k := by
    rw [List.find?_range_eq_some]
    exact ⟨by simpa using h, by simpa using hk, fun j hj => by simpa using hn j hj⟩
  rw [this]
  rfl
theorem parameter_lt {a c : Nat} (h : a ≤ c * 2 ^ 63) : parameter a c < 64 := by
  unfold parameter
  cases e : (List.range 64).find? (fun (k : Nat) => decide (a ≤ c * 2 ^ k)) with
  | none =>
    rw [List.find?_range_eq_none] at e
    exact absurd h (by simpa using e 63 (by decide))
  | some k =>
    rw [List.find?_range_eq_some] at e
    simpa using e.2.1
/-- so many bits at most for a number -/
theorem tell_length {k m : Nat} (hk : k < 64) : (tell k m).length ≤ 88 := by
  by_cases h : m / 2 ^ k < 24
  · rw [tell_short h, List.length_append, bitsOf_length, bitsOf_length]
    omega
  · rw [tell_long h, List.length_append, bitsOf_length, bitsOf_length]
    omega
/-- a and c of a band: what holds behind n of its numbers -/
structure Paced (n a c : Nat) : Prop where
  a_le : a ≤ 16 + n * 2 ^ 24
  c_pos : 1 ≤ c
  c_lt : c < 64
theorem Paced.start : Paced 0 16 1 := ⟨by decide, by decide, by decide⟩
theorem Paced.next {n a c : Nat} (h : Paced n a c) {z : Int} (hz : z.natAbs ≤ 2 ^ 24) : Paced (n + 1) (next a c z).1 (next a c z).2 := by
  obtain ⟨h1, h2, h3⟩ := h
  unfold Sp21.next
  dsimp only
  split
  · exact ⟨by dsimp only; omega, by dsimp only; omega, by dsimp only; omega⟩
  · exact ⟨by dsimp only; omega, by dsimp only; omega, by dsimp only; omega⟩
theorem Paced.fits {n a c : Nat} (h : Paced n a c) (hn : n ≤ 2 ^ 20) : a ≤ c * 2 ^ 63 := by
  obtain ⟨h1, h2, h3⟩ := h
  have : 1 * 2 ^ 63 ≤ c * 2 ^ 63 := Nat.mul_le_mul_right _ h2
  omega
theorem code1_lt {z : Int} (h1 : -(2 ^ 23) ≤ z) (h2 : z < 2 ^ 23) : code1 z < 2 ^ 24 := by
  unfold code1
  split <;> omega
theorem bandBits_nil (a c : Nat) : bandBits a c [] = [] := rfl
theorem bandBits_cons (a c : Nat) (z : Int) (l : List Int) : bandBits a c (z :: l) = tell (parameter a c) (code1 z) ++ bandBits (next a c z).1 (next a c z).2 l := rfl
/-- the state behind some numbers -/
def paceAfter : Nat → Nat → List Int → Nat × Nat
  | a, c, [] => (a, c)
  | a, c, z :: l => paceAfter (next a c z).1 (next a c z).2 l
theorem paceAfter_snoc : ∀ (l : List Int) (a c : Nat) (z : Int), paceAfter a c (l ++ [z]) = next (paceAfter a c l).1 (paceAfter a c l).2 z
  | [], _, _, _ => rfl
  | y :: l, a, c, z => paceAfter_snoc l (next a c y).1 (next a c y).2 z
theorem bandBits_snoc : ∀ (l : List Int) (a c : Nat) (z : Int), bandBits a c (l ++ [z]) = bandBits a c l ++ tell (parameter (paceAfter a c l).1 (paceAfter a c l).2) (code1 z)
  | [], a, c, z => by
    rw [List.nil_append, bandBits_cons, bandBits_nil, bandBits_nil, List.append_nil]
    rfl
  | y :: l, a, c, z => by
    rw [List.cons_append, bandBits_cons, bandBits_snoc l, bandBits_cons, List.append_assoc]
    rfl
theorem paceAfter_paced : ∀ (l : List Int) (n a c : Nat), Paced n a c → (∀ z ∈ l, z.natAbs ≤ 2 ^ 24) → Paced (n + l.length) (paceAfter a c l).1 (paceAfter a c l).2
  | [], n, a, c, h, _ => h
  | z :: l, n, a, c, h, hz => by
    have := paceAfter_paced l (n + 1) _ _ (h.next (z := z) (hz z (by simp))) fun y hy => hz y (by simp [hy])
    rw [List.length_cons, show n + (l.length + 1) = n + 1 + l.length by omega]
    exact this
theorem bandBits_length : ∀ (l : List Int) (n a c : Nat), Paced n a c → n + l.length ≤ 2 ^ 20 → (∀ z ∈ l, z.natAbs ≤ 2 ^ 24) → (bandBits a c l).length ≤ 88 * l.length
  | [], n, a, c, h, _, _ => Nat.zero_le _
  | z :: l, n, a, c, h, hn, hz => by
    have hn' : n + (l.length + 1) ≤ 2 ^ 20 := hn
    have h1 := tell_length (k := parameter a c) (m := code1 z) (parameter_lt (h.fits (by omega)))
    have h2 := bandBits_length l (n + 1) _ _ (h.next (z := z) (hz z (by simp))) (by omega) fun y hy => hz y (by simp [hy])
    rw [bandBits_cons, List.length_append, List.length_cons]
    omega
end TW

namespace TW
open Sp21 (Grid halve turn onRows onColumns up corners forward Part last bands numbersOf)
theorem get_getD {xs : List Int} {i : Nat} (h : i < xs.length) : xs[i] = xs.getD i 0 := by simp [List.getD_eq_getElem?_getD, h]
def Rect (g : Grid) (w h : Nat) : Prop := g.length = h ∧ ∀ r ∈ g, r.length = w
def cell (g : Grid) (y x : Nat) : Int := (g.getD y []).getD x 0
theorem Rect.row {g : Grid} {w h y : Nat} (R : Rect g w h) (hy : y < h) : (g.getD y []).length = w := by
  have hl : y < g.length := by rw [R.1]; exact hy
  rw [List.getD_eq_getElem?_getD, List.getElem?_eq_getElem hl, Option.getD_some]
  exact R.2 _ (List.getElem_mem hl)
theorem cell_eq {g : Grid} {y x : Nat} (hy : y < g.length) (hx : x < (g[y]).length) : cell g y x = (g[y])[x] := by
  simp [cell, List.getD_eq_getElem?_getD, hy, hx]
theorem Rect.ext {g g' : Grid} {w h : Nat} (R : Rect g w h) (R' : Rect g' w h) (hc : ∀ y x, y < h → x < w → cell g y x = cell g' y x) : g = g' := by
  apply List.ext_getElem
  · rw [R.1, R'.1]
  · intro y h1 h2
    have l1 := R.2 _ (List.getElem_mem h1)
    have l2 := R'.2 _ (List.getElem_mem h2)
    apply List.ext_getElem
    · rw [l1, l2]
    · intro x q1 q2
      rw [← cell_eq h1 q1, ← cell_eq h2 q2]
      exact hc y x (by rw [← R.1]; exact h1) (by rw [← l1]; exact q1)
theorem Rect.head {g : Grid} {w h : Nat} (R : Rect g w h) (hh : 0 < h) : (g.headD []).length = w := by
  cases g with
  | nil => have := R.1; simp at this; omega
  | cons r t => exact R.2 r (by simp)
theorem Rect.turn {g : Grid} {w h : Nat} (R : Rect g w h) (hh : 0 < h) : Rect (turn g) h w := by
  unfold Sp21.turn
  rw [R.head hh]
  refine ⟨by simp, fun r hr => ?_⟩
  obtain ⟨i, _, rfl⟩ := List.mem_map.mp hr
  rw [List.length_map, R.1]
theorem cell_turn {g : Grid} {w h y x : Nat} (R : Rect g w h) (hh : 0 < h) (hy : y < w) (hx : x < h) : cell (turn g) y x = cell g x y := by
  unfold Sp21.turn cell
  rw [R.head hh]
  have hxl : x < g.length := by rw [R.1]; exact hx
  simp [List.getD_eq_getElem?_getD, hy, hxl]
theorem getD_map_row {g : Grid} {f : List Int → List Int} {y : Nat} (hy : y < g.length) : (g.map f).getD y [] = f (g.getD y []) := by
  simp [List.getD_eq_getElem?_getD, hy]
theorem Rect.map {g : Grid} {w h w' : Nat} (R : Rect g w h) (f : List Int → List Int) (hf : ∀ l, l.length = w → (f l).length = w') : Rect (g.map f) w' h := by
  refine ⟨by rw [List.length_map, R.1], fun r hr => ?_⟩
  obtain ⟨l, hl, rfl⟩ := List.mem_map.mp hr
  exact hf l (R.2 l hl)
theorem onRows_length (f : List Int → List Int) (w h : Nat) (g : Grid) : (onRows f w h g).length = g.length := by simp [onRows]
theorem onRows_row (f : List Int → List Int) {w h y : Nat} {g : Grid} (hy : y < g.length) : (onRows f w h g).getD y [] = if y < h then f ((g.getD y []).take w) ++ (g.getD y []).drop w else g.getD y [] := by
  have hl : y < (onRows f w h g).length := by rw [onRows_length]; exact hy
  rw [List.getD_eq_getElem?_getD, List.getElem?_eq_getElem hl, Option.getD_some]
  have e : g.getD y [] = g[y] := by simp [List.getD_eq_getElem?_getD, hy]
  rw [e]
  simp [onRows]
theorem Rect.onRows {g : Grid} {w h w' : Nat} (R : Rect g w h) (f : List Int → List Int) (h' : Nat) (hw : w' ≤ w) (hf : ∀ l, l.length = w' → (f l).length = w') : Rect (onRows f w' h' g) w h := by
  refine ⟨by rw [onRows_length, R.1], fun r hr => ?_⟩
  obtain ⟨y, hy, rfl⟩ := List.getElem_of_mem hr
  have hy' : y < g.length := by rw [onRows_length] at hy; exact hy
  have e : (Sp21.onRows f w' h' g)[y] = (Sp21.onRows f w' h' g).getD y [] := by simp [List.getD_eq_getElem?_getD, hy]
  have hr := R.row (y := y) (by rw [← R.1]; exact hy')
  rw [e, onRows_row f hy']
  split
  · rw [List.length_append, List.length_drop, hf _ (by rw [List.length_take, hr]; omega), hr]
    omega
  · exact hr
theorem cell_onRows {g : Grid} {w h w' h' y x : Nat} (R : Rect g w h) (f : List Int → List Int) (hw : w' ≤ w) (hf : ∀ l, l.length = w' → (f l).length = w') (hy : y < h) :
    cell (onRows f w' h' g) y x = if y < h' ∧ x < w' then (f ((g.getD y []).take w')).getD x 0 else cell g y x := by
  have hr := R.row hy
  have hl : (f ((g.getD y []).take w')).length = w' := hf _ (by rw [List.length_take, hr]; omega)
  unfold cell
  rw [onRows_row f (by rw [R.1]; exact hy)]
  by_cases h1 : y < h'
  · by_cases h2 : x < w'
    · rw [if_pos h1, if_pos ⟨h1, h2⟩, List.getD_eq_getElem?_getD, List.getElem?_append_left (by omega), ← List.getD_eq_getElem?_getD]
    · rw [if_pos h1, if_neg (fun q => h2 q.2), List.getD_eq_getElem?_getD, List.getElem?_append_right (by omega), hl, List.getElem?_drop, ← List.getD_eq_getElem?_getD]
      congr 1
      omega
  · rw [if_neg h1, if_neg (fun q => h1 q.1)]
def sub (g : Grid) (w h : Nat) : Grid := (g.take h).map (·.take w)
theorem Rect.sub {g : Grid} {w h w' h' : Nat} (R : Rect g w h) (hw : w' ≤ w) (hh : h' ≤ h) : Rect (sub g w' h') w' h' := by
  refine ⟨by rw [TW.sub, List.length_map, List.length_take, R.1]; omega, fun r hr => ?_⟩
  obtain ⟨l, hl, rfl⟩ := List.mem_map.mp hr
  rw [List.length_take, R.2 l (List.mem_of_mem_take hl)]
  omega
theorem sub_row {g : Grid} {w' h' y : Nat} (hl : h' ≤ g.length) (hy : y < h') : (sub g w' h').getD y [] = (g.getD y []).take w' := by
  have : y < g.length := by omega
  simp [sub, List.getD_eq_getElem?_getD, hy, this]
theorem cell_sub {g : Grid} {w' h' y x : Nat} (hl : h' ≤ g.length) (hy : y < h') (hx : x < w') : cell (sub g w' h') y x = cell g y x := by
  unfold cell
  rw [sub_row hl hy, List.getD_eq_getElem?_getD, List.getElem?_take, if_pos hx, ← List.getD_eq_getElem?_getD]
theorem differences_length (x : List Int) : (Sp21.differences x).length = x.length / 2 := by simp [Sp21.differences]
theorem halve_length (x : List Int) : (halve x).length = x.length := by
  unfold halve
  split
  · rfl
  · rename_i h
    simp [differences_length]
    omega
def halveCorner (c : Grid) : Grid := turn ((turn (c.map halve)).map halve)
def stepG (g : Grid) (c : Nat × Nat) : Grid := onColumns halve c.1 c.2 (onRows halve c.1 c.2 g)
theorem Rect.halveCorner {c : Grid} {w h : Nat} (R : Rect c w h) (hw : 0 < w) (hh : 0 < h) : Rect (halveCorner c) w h :=
  (((R.map halve (w' := w) fun l hl => by rw [halve_length, hl]).turn hh).map halve (w' := h) fun l hl => by rw [halve_length, hl]).turn hw
theorem hl_of (n : Nat) : ∀ l : List Int, l.length = n → (halve l).length = n := fun l h => by rw [halve_length, h]
theorem Rect.stepG {g : Grid} {w h cw ch : Nat} (R : Rect g w h) (hw : cw ≤ w) (hh : ch ≤ h) (h0 : 0 < cw) (h1 : 0 < ch) : Rect (stepG g (cw, ch)) w h := by
  have R1 := R.onRows halve ch hw (hl_of cw)
  exact ((R1.turn (by omega)).onRows halve cw hh (hl_of ch)).turn (by omega)
theorem cell_stepG {g : Grid} {w h cw ch y x : Nat} (R : Rect g w h) (hw : cw ≤ w) (hh : ch ≤ h) (h0 : 0 < cw) (h1 : 0 < ch) (hy : y < h) (hx : x < w) :
    cell (stepG g (cw, ch)) y x = if y < ch ∧ x < cw then cell (halveCorner (sub g cw ch)) y x else cell g y x := by
  have R1 := R.onRows halve ch hw (hl_of cw)
  have RT := R1.turn (by omega)
  have R2 := RT.onRows halve cw hh (hl_of ch)
  have C := R.sub hw hh
  have C1 := C.map halve (hl_of cw)
  have CT := C1.turn h1
  have C2 := CT.map halve (hl_of ch)
  show cell (turn (onRows halve ch cw (turn (onRows halve cw ch g)))) y x = _
  rw [cell_turn R2 (by omega) hy hx, cell_onRows RT halve hh (hl_of ch) hx]
  by_cases q : y < ch ∧ x < cw
  · rw [if_pos ⟨q.2, q.1⟩, if_pos q]
    show _ = cell (turn ((turn ((sub g cw ch).map halve)).map halve)) y x
    rw [cell_turn C2 h0 q.1 q.2]
    have e : ((turn (onRows halve cw ch g)).getD x []).take ch = (turn ((sub g cw ch).map halve)).getD x [] := by
      have l1 : ((turn (onRows halve cw ch g)).getD x []).length = h := RT.row hx
      have l2 : ((turn ((sub g cw ch).map halve)).getD x []).length = ch := CT.row q.2
      apply List.ext_getElem
      · rw [List.length_take, l1, l2]; omega
      · intro j j1 j2
        have hj : j < ch := by omega
        have a1 : (((turn (onRows halve cw ch g)).getD x []).take ch)[j] = cell (turn (onRows halve cw ch g)) x j := by
          rw [List.getElem_take]
          exact get_getD (by omega)
        have a2 : ((turn ((sub g cw ch).map halve)).getD x [])[j] = cell (turn ((sub g cw ch).map halve)) x j := by
          exact get_getD (by omega)
        rw [a1, a2, cell_turn R1 (by omega) hx (by omega), cell_turn C1 h1 q.2 hj, cell_onRows R halve hw (hl_of cw) (by omega), if_pos ⟨hj, q.2⟩]
        show _ = (((sub g cw ch).map halve).getD j []).getD x 0
        rw [getD_map_row (by rw [C.1]; exact hj), sub_row (by rw [R.1]; exact hh) hj]
    rw [e]
    show _ = (((turn ((sub g cw ch).map halve)).map halve).getD x []).getD y 0
    rw [getD_map_row (by rw [CT.1]; exact q.2)]
  · rw [if_neg (fun z => q ⟨z.2, z.1⟩), if_neg q, cell_turn R1 (by omega) hx hy, cell_onRows R halve hw (hl_of cw) hy, if_neg q]
/-- the numbers of a part by its cells -/
theorem numbersOf_cells {g : Grid} {w h : Nat} {p : Part} (R : Rect g w h) (hx : p.x + p.w ≤ w) (hy : p.y + p.h ≤ h) :
    numbersOf g p = (List.range p.h).flatMap fun j => (List.range p.w).map fun i => cell g (p.y + j) (p.x + i) := by
  unfold numbersOf
  have e : (g.drop p.y).take p.h = (List.range p.h).map fun j => g.getD (p.y + j) [] := by
    apply List.ext_getElem
    · rw [List.length_take, List.length_drop, R.1, List.length_map, List.length_range]; omega
    · intro j j1 j2
      rw [List.length_map, List.length_range] at j2
      have : p.y + j < g.length := by rw [R.1]; omega
      simp [List.getD_eq_getElem?_getD, this]
  rw [e, List.flatMap_map]
  refine congrArg List.flatten (List.map_congr_left fun j hj => ?_)
  have hj : j < p.h := by simpa using hj
  have hr := R.row (y := p.y + j) (by omega)
  apply List.ext_getElem
  · rw [List.length_take, List.length_drop, hr, List.length_map, List.length_range]; omega
  · intro i i1 i2
    rw [List.length_map, List.length_range] at i2
    rw [List.getElem_take, List.getElem_drop, List.getElem_map, List.getElem_range]
    exact get_getD (by omega)
theorem numbersOf_congr {g g' : Grid} {w h w' h' : Nat} {p : Part} (R : Rect g w h) (R' : Rect g' w' h') (hx : p.x + p.w ≤ w) (hy : p.y + p.h ≤ h) (hx' : p.x + p.w ≤ w') (hy' : p.y + p.h ≤ h')
    (hc : ∀ j i, j < p.h → i < p.w → cell g (p.y + j) (p.x + i) = cell g' (p.y + j) (p.x + i)) : numbersOf g p = numbersOf g' p := by
  rw [numbersOf_cells R hx hy, numbersOf_cells R' hx' hy']
  refine congrArg List.flatten (List.map_congr_left fun j hj => List.map_congr_left fun i hi => ?_)
  exact hc j i (by simpa using hj) (by simpa using hi)
theorem up_pos {n : Nat} (h : 0 < n) : 0 < up n := by unfold up; omega
theorem up_le {n : Nat} (h : 0 < n) : up n ≤ n := by unfold up; omega
theorem fold_keeps : ∀ (k cw ch : Nat) {g : Grid} {w h : Nat}, Rect g w h → cw ≤ w → ch ≤ h → 0 < cw → 0 < ch →
    Rect ((corners k cw ch).foldl stepG g) w h ∧ ∀ y x, y < h → x < w → ¬ (y < ch ∧ x < cw) → cell ((corners k cw ch).foldl stepG g) y x = cell g y x
  | 0, _, _, g, w, h, R, _, _, _, _ => ⟨R, fun _ _ _ _ _ => rfl⟩
  | k + 1, cw, ch, g, w, h, R, hw, hh, h0, h1 => by
    have R1 := R.stepG hw hh h0 h1
    have u0 := up_le h0
    have u1 := up_le h1
    obtain ⟨a, b⟩ := fold_keeps k (up cw) (up ch) R1 (by omega) (by omega) (up_pos h0) (up_pos h1)
    refine ⟨a, fun y x hy hx q => ?_⟩
    show cell ((corners k (up cw) (up ch)).foldl stepG (stepG g (cw, ch))) y x = _
    rw [b y x hy hx (fun z => q ⟨by omega, by omega⟩), cell_stepG R hw hh h0 h1 hy hx, if_neg q]
def threeBands (hd : Grid) (a b : Nat) : List (List Int) := [((hd.take b).map (·.drop a)).flatten, ((hd.drop b).map (·.take a)).flatten, ((hd.drop b).map (·.drop a)).flatten]
def tileBands : Nat → Grid → Nat → Nat → List (List Int)
  | 0, c, _, _ => [c.flatten]
  | k + 1, c, w, h => tileBands k (sub (halveCorner c) (up w) (up h)) (up w) (up h) ++ threeBands (halveCorner c) (up w) (up h)
def threeParts (w h : Nat) : List Part := [⟨up w, 0, w - up w, up h⟩, ⟨0, up h, up w, h - up h⟩, ⟨up w, up h, w - up w, h - up h⟩]
theorem bands_succ (k w h : Nat) : bands (k + 1) w h = bands k (up w) (up h) ++ threeParts w h := by
  unfold bands
  simp only [last, corners, List.reverse_cons, List.flatMap_append, List.flatMap_singleton, List.cons_append]
  rfl
theorem numbers_three {hd : Grid} {w h : Nat} (R : Rect hd w h) (hw : 0 < w) (hh : 0 < h) : (threeParts w h).map (numbersOf hd) = threeBands hd (up w) (up h) := by
  have u0 := up_le hw
  have u1 := up_le hh
  unfold threeParts threeBands numbersOf
  simp only [List.map_cons, List.map_nil, List.drop_zero]
  have tk : (hd.drop (up h)).take (h - up h) = hd.drop (up h) := List.take_of_length_le (by rw [List.length_drop, R.1]; omega)
  rw [tk]
  refine congr (congrArg List.cons ?_) (congr (congrArg List.cons rfl) (congr (congrArg List.cons ?_) rfl))
  · refine congrArg List.flatten (List.map_congr_left fun r hr => List.take_of_length_le ?_)
    rw [List.length_drop, R.2 r (List.mem_of_mem_take hr)]
    omega
  · refine congrArg List.flatten (List.map_congr_left fun r hr => List.take_of_length_le ?_)
    rw [List.length_drop, R.2 r (List.mem_of_mem_drop hr)]
    omega
theorem bands_fold : ∀ (k cw ch : Nat) {g : Grid} {w h : Nat}, Rect g w h → cw ≤ w → ch ≤ h → 0 < cw → 0 < ch →
    (bands k cw ch).map (numbersOf ((corners k cw ch).foldl stepG g)) = tileBands k (sub g cw ch) cw ch
  | 0, cw, ch, g, w, h, R, hw, hh, h0, h1 => by
    simp [bands, last, corners, tileBands, numbersOf, sub, List.flatMap]
  | k + 1, cw, ch, g, w, h, R, hw, hh, h0, h1 => by
    have R1 := R.stepG hw hh h0 h1
    have u0 := up_le h0
    have u1 := up_le h1
    have C := (R.sub hw hh).halveCorner h0 h1
    obtain ⟨RF, keep⟩ := fold_keeps k (up cw) (up ch) R1 (by omega) (by omega) (up_pos h0) (up_pos h1)
    have ih := bands_fold k (up cw) (up ch) R1 (by omega) (by omega) (up_pos h0) (up_pos h1)
    have es : sub (stepG g (cw, ch)) (up cw) (up ch) = sub (halveCorner (sub g cw ch)) (up cw) (up ch) := by
      refine Rect.ext (R1.sub (by omega) (by omega)) (C.sub u0 u1) fun y x hy hx => ?_
      rw [cell_sub (by rw [R1.1]; omega) hy hx, cell_sub (by rw [C.1]; omega) hy hx, cell_stepG R hw hh h0 h1 (by omega) (by omega), if_pos ⟨by omega, by omega⟩]
    have et : (threeParts cw ch).map (numbersOf ((corners k (up cw) (up ch)).foldl stepG (stepG g (cw, ch)))) = (threeParts cw ch).map (numbersOf (halveCorner (sub g cw ch))) := by
      refine List.map_congr_left fun p hp => ?_
      have hp' : p.x + p.w ≤ cw ∧ p.y + p.h ≤ ch ∧ (up cw ≤ p.x ∨ up ch ≤ p.y) := by
        simp [threeParts] at hp
        rcases hp with rfl | rfl | rfl <;> dsimp only <;> omega
      obtain ⟨p1, p2, p3⟩ := hp'
      refine numbersOf_congr RF C (by omega) (by omega) p1 p2 fun j i hj hi => ?_
      rw [keep _ _ (by omega) (by omega) (by omega), cell_stepG R hw hh h0 h1 (by omega) (by omega), if_pos ⟨by omega, by omega⟩]
    rw [bands_succ, List.map_append, tileBands]
    show (bands k (up cw) (up ch)).map (numbersOf ((corners k (up cw) (up ch)).foldl stepG (stepG g (cw, ch)))) ++ _ = _
    rw [ih, es]
    congr 1
    show (threeParts cw ch).map (numbersOf ((corners k (up cw) (up ch)).foldl stepG (stepG g (cw, ch)))) = _
    rw [et, numbers_three C h0 h1]
theorem sub_whole {g : Grid} {w h : Nat} (R : Rect g w h) : sub g w h = g := by
  unfold sub
  rw [List.take_of_length_le (by rw [R.1]; exact Nat.le_refl _)]
  conv => rhs; rw [← List.map_id g]
  exact List.map_congr_left fun r hr => by rw [List.take_of_length_le (by rw [R.2 r hr]; exact Nat.le_refl _)]; rfl
/-- a kind's bands, as the program makes them -/
theorem bands_eq {g : Grid} {w h : Nat} (k : Nat) (R : Rect g w h) (hw : 0 < w) (hh : 0 < h) : (bands k w h).map (numbersOf (forward k w h g)) = tileBands k g w h := by
  have := bands_fold k w h R (Nat.le_refl _) (Nat.le_refl _) hw hh
  rw [sub_whole R] at this
  exact this
end TW

namespace TW
open Sp21 (Grid apart mix unmix together bands numbersOf forward bandBits bytesOf tileCode two)
def cutRows (p : List Int) (w h : Nat) : Grid := (List.range h).map fun i => (p.drop (i * w)).take w
theorem cutRows_row {p : List Int} {w h i : Nat} (hi : i < h) : (cutRows p w h).getD i [] = (p.drop (i * w)).take w := by
  simp [cutRows, List.getD_eq_getElem?_getD, hi]
theorem lt_area {w h y x : Nat} (hy : y < h) (hx : x < w) : y * w + x < w * h := by
  have : (y + 1) * w ≤ h * w := Nat.mul_le_mul_right w hy
  rw [Nat.add_mul, Nat.one_mul, Nat.mul_comm h w] at this
  omega
theorem Rect.cutRows {p : List Int} {w h : Nat} (hp : p.length = w * h) : Rect (cutRows p w h) w h := by
  refine ⟨by simp [TW.cutRows], fun r hr => ?_⟩
  obtain ⟨i, hi, rfl⟩ := List.mem_map.mp hr
  have hi : i < h := by simpa using hi
  rw [List.length_take, List.length_drop, hp]
  have : (i + 1) * w ≤ h * w := Nat.mul_le_mul_right w hi
  rw [Nat.add_mul, Nat.one_mul, Nat.mul_comm h w] at this
  omega
theorem cell_cutRows {p : List Int} {w h y x : Nat} (hy : y < h) (hx : x < w) : cell (cutRows p w h) y x = p.getD (y * w + x) 0 := by
  unfold cell
  rw [cutRows_row hy, List.getD_eq_getElem?_getD, List.getElem?_take, if_pos hx, List.getElem?_drop, ← List.getD_eq_getElem?_getD]
def plane (l : List Int) (kinds n k : Nat) : List Int := pick l k kinds n
theorem apart_eq (kinds w h : Nat) (l : List Int) : apart kinds w h l = ((List.range kinds).map fun k => plane l kinds (w * h) k).map fun p => cutRows p w h := by
  unfold apart
  rw [List.map_map]
  refine List.map_congr_left fun k _ => ?_
  have RL : Rect ((List.range h).map fun (y : Nat) => (List.range w).map fun (x : Nat) => l.getD ((y * w + x) * kinds + k) 0) w h := by
    refine ⟨by simp, fun r hr => ?_⟩
    obtain ⟨i, hi, rfl⟩ := List.mem_map.mp hr
    simp
  refine Rect.ext RL (Rect.cutRows (by simp [plane, pick_length])) fun y x hy hx => ?_
  show _ = cell (cutRows (plane l kinds (w * h) k) w h) y x
  rw [cell_cutRows hy hx, plane, pick_getD (lt_area hy hx)]
  simp [cell, List.getD_eq_getElem?_getD, hy, hx]
  congr 2
  omega
/-- three kinds made one, number by number -/
def zip3 (f : Int → Int → Int → Int) (r g b : List Int) : List Int := (r.zip (g.zip b)).map fun (y : Int × Int × Int) => f y.1 y.2.1 y.2.2
theorem zip3_length {f : Int → Int → Int → Int} {r g b : List Int} {n : Nat} (hr : r.length = n) (hg : g.length = n) (hb : b.length = n) : (zip3 f r g b).length = n := by
  simp [zip3, hr, hg, hb]
theorem zip3_getD {f : Int → Int → Int → Int} {r g b : List Int} {n i : Nat} (hr : r.length = n) (hg : g.length = n) (hb : b.length = n) (hi : i < n) : (zip3 f r g b).getD i 0 = f (r.getD i 0) (g.getD i 0) (b.getD i 0) := by
  have h1 : i < r.length := by omega
  have h2 : i < g.length := by omega
  have h3 : i < b.length := by omega
  rw [← get_getD (by rw [zip3_length hr hg hb]; exact hi), ← get_getD h1, ← get_getD h2, ← get_getD h3]
  simp [zip3]
def zip3G (f : Int → Int → Int → Int) (r g b : Grid) : Grid := (r.zip (g.zip b)).map fun (x : List Int × List Int × List Int) => (x.1.zip (x.2.1.zip x.2.2)).map fun (y : Int × Int × Int) => f y.1 y.2.1 y.2.2
theorem zip3G_row (f : Int → Int → Int → Int) {r g b : Grid} {n y : Nat} (hr : r.length = n) (hg : g.length = n) (hb : b.length = n) (hy : y < n) : (zip3G f r g b).getD y [] = zip3 f (r.getD y []) (g.getD y []) (b.getD y []) := by
  have h1 : y < r.length := by omega
  have h2 : y < g.length := by omega
  have h3 : y < b.length := by omega
  have e1 : r.getD y [] = r[y] := by simp [List.getD_eq_getElem?_getD, h1]
  have e2 : g.getD y [] = g[y] := by simp [List.getD_eq_getElem?_getD, h2]
  have e3 : b.getD y [] = b[y] := by simp [List.getD_eq_getElem?_getD, h3]
  have hl : y < (zip3G f r g b).length := by simp only [zip3G, List.length_map, List.length_zip]; omega
  have e4 : (zip3G f r g b).getD y [] = (zip3G f r g b)[y] := by simp [List.getD_eq_getElem?_getD, hl]
  rw [e1, e2, e3, e4]
  simp [zip3G, zip3]
theorem Rect.zip3G (f : Int → Int → Int → Int) {r g b : Grid} {w h : Nat} (R : Rect r w h) (G : Rect g w h) (B : Rect b w h) : Rect (zip3G f r g b) w h := by
  have hl : (TW.zip3G f r g b).length = h := by simp [TW.zip3G, R.1, G.1, B.1]
  refine ⟨hl, fun x hx => ?_⟩
  obtain ⟨y, hy, rfl⟩ := List.getElem_of_mem hx
  have hy' : y < h := by omega
  have e : (TW.zip3G f r g b)[y] = (TW.zip3G f r g b).getD y [] := by simp [List.getD_eq_getElem?_getD, hy]
  rw [e, zip3G_row f R.1 G.1 B.1 hy', zip3_length (R.row hy') (G.row hy') (B.row hy')]
theorem cell_zip3G (f : Int → Int → Int → Int) {r g b : Grid} {w h y x : Nat} (R : Rect r w h) (G : Rect g w h) (B : Rect b w h) (hy : y < h) (hx : x < w) : cell (zip3G f r g b) y x = f (cell r y x) (cell g y x) (cell b y x) := by
  show ((zip3G f r g b).getD y []).getD x 0 = _
  rw [zip3G_row f R.1 G.1 B.1 hy, zip3_getD (R.row hy) (G.row hy) (B.row hy) hx]
  rfl
theorem zip3G_cut (f : Int → Int → Int → Int) {r g b : List Int} {w h : Nat} (hr : r.length = w * h) (hg : g.length = w * h) (hb : b.length = w * h) : zip3G f (cutRows r w h) (cutRows g w h) (cutRows b w h) = cutRows (zip3 f r g b) w h := by
  have R := Rect.cutRows hr
  have G := Rect.cutRows hg
  have B := Rect.cutRows hb
  refine Rect.ext (Rect.zip3G f R G B) (Rect.cutRows (zip3_length hr hg hb)) fun y x hy hx => ?_
  rw [cell_zip3G f R G B hy hx, cell_cutRows hy hx, cell_cutRows hy hx, cell_cutRows hy hx, cell_cutRows hy hx, zip3_getD hr hg hb (lt_area hy hx)]
def mixed (l : List (List Int)) : List (List Int) := match l with
  | r :: g :: b :: rest => zip3 (fun r g b => (r + 2 * g + b) / 4) r g b :: zip3 (fun _ g b => b - g) r g b :: zip3 (fun r g _ => r - g) r g b :: rest
  | l => l
def unmixed (l : List (List Int)) : List (List Int) := match l with
  | a :: u :: v :: rest => zip3 (fun y u v => v + (y - (u + v) / 4)) a u v :: zip3 (fun y u v => y - (u + v) / 4) a u v :: zip3 (fun y u v => u + (y - (u + v) / 4)) a u v :: rest
  | l => l
theorem mix_cut {l : List (List Int)} {w h : Nat} (hl : ∀ p ∈ l, p.length = w * h) : mix (l.map fun p => cutRows p w h) = (mixed l).map fun p => cutRows p w h := by
  match l, hl with
  | [], _ => rfl
  | [_], _ => rfl
  | [_, _], _ => rfl
  | r :: g :: b :: rest, hl =>
    have hr := hl r (by simp)
    have hg := hl g (by simp)
    have hb := hl b (by simp)
    show zip3G (fun r g b => (r + 2 * g + b) / 4) (cutRows r w h) (cutRows g w h) (cutRows b w h) :: zip3G (fun _ g b => b - g) (cutRows r w h) (cutRows g w h) (cutRows b w h) :: zip3G (fun r g _ => r - g) (cutRows r w h) (cutRows g w h) (cutRows b w h) :: rest.map _ = _
    rw [zip3G_cut _ hr hg hb, zip3G_cut _ hr hg hb, zip3G_cut _ hr hg hb]
    rfl
theorem mixed_length {l : List (List Int)} {n : Nat} (hl : ∀ p ∈ l, p.length = n) : ∀ p ∈ mixed l, p.length = n := by
  match l, hl with
  | [], hl => exact hl
  | [_], hl => exact hl
  | [_, _], hl => exact hl
  | r :: g :: b :: rest, hl =>
    have hr := hl r (by simp)
    have hg := hl g (by simp)
    have hb := hl b (by simp)
    intro p hp
    simp [mixed] at hp
    rcases hp with rfl | rfl | rfl | hp
    · exact zip3_length hr hg hb
    · exact zip3_length hr hg hb
    · exact zip3_length hr hg hb
    · exact hl p (by simp [hp])
def planes (kinds n : Nat) (l : List Int) : List (List Int) := (List.range kinds).map fun k => plane l kinds n k
theorem planes_length {kinds n : Nat} {l : List Int} : ∀ p ∈ planes kinds n l, p.length = n := by
  intro p hp
  obtain ⟨k, _, rfl⟩ := List.mem_map.mp hp
  exact pick_length _ _ _ _
/-- the bits of a tile, as the program tells them -/
def tileBits (kinds w h levels : Nat) (l : List Int) : List Nat := (mixed (planes kinds (w * h) l)).flatMap fun p => (tileBands levels (cutRows p w h) w h).flatMap (bandBits 16 1)
theorem tileCode_eq {kinds w h levels : Nat} {l : List Int} (hw : 0 < w) (hh : 0 < h) : tileCode kinds w h levels l =
    if (1 :: bytesOf (tileBits kinds w h levels l)).length < (0 :: l.flatMap fun (z : Int) => two z.toNat).length then 1 :: bytesOf (tileBits kinds w h levels l) else 0 :: l.flatMap fun (z : Int) => two z.toNat := by
  have e : ((mix (apart kinds w h l)).flatMap fun (g : Grid) => (bands levels w h).flatMap fun (p : Sp21.Part) => bandBits 16 1 (numbersOf (forward levels w h g) p)) = tileBits kinds w h levels l := by
    rw [apart_eq]
    show (mix ((planes kinds (w * h) l).map _)).flatMap _ = _
    rw [mix_cut planes_length, List.flatMap_map]
    unfold tileBits
    refine congrArg List.flatten (List.map_congr_left fun p hp => ?_)
    have R := Rect.cutRows (w := w) (h := h) (mixed_length planes_length p hp)
    rw [← bands_eq levels R hw hh, List.flatMap_map]
  unfold tileCode
  dsimp only
  rw [e]
end TW

namespace TW
open Sp21 (Grid halve turn up)
/-- numbers whose size is at most M -/
def Lim (M : Int) (l : List Int) : Prop := ∀ z ∈ l, -M ≤ z ∧ z ≤ M
theorem Lim.getD {M : Int} {l : List Int} (h : Lim M l) (hM : 0 ≤ M) (i : Nat) : -M ≤ l.getD i 0 ∧ l.getD i 0 ≤ M := by
  by_cases hi : i < l.length
  · rw [← get_getD hi]; exact h _ (List.getElem_mem hi)
  · rw [List.getD_eq_getElem?_getD, List.getElem?_eq_none (by omega), Option.getD_none]; omega
theorem Lim.look {M : Int} {l : List Int} (h : Lim M l) (hM : 0 ≤ M) (i : Nat) : -M ≤ Sp21.look l i ∧ Sp21.look l i ≤ M := by
  unfold Sp21.look
  split
  · exact h.getD hM i
  · exact h.getD hM _
theorem Lim.mono {M N : Int} {l : List Int} (h : Lim M l) (hMN : M ≤ N) : Lim N l := fun z hz => by have := h z hz; omega
/-- the bound of means -/
def grow (M : Int) : Int := (12 * M + 6) / 8
theorem grow_nonneg {M : Int} (h : 0 ≤ M) : 0 ≤ grow M := by unfold grow; omega
theorem diff_getD {x : List Int} {i : Nat} (h : i < x.length / 2) : (Sp21.differences x).getD i 0 = x.getD (2 * i + 1) 0 - (x.getD (2 * i) 0 + Sp21.look x (2 * i + 2)) / 2 := by
  rw [← get_getD (by rw [differences_length]; exact h)]
  simp [Sp21.differences]
theorem look_lt {x : List Int} {i : Nat} (h : i < x.length) : Sp21.look x i = x.getD i 0 := by unfold Sp21.look; rw [if_pos h]
theorem halve_lim {M : Int} {x : List Int} (h : Lim M x) (hM : 0 ≤ M) : Lim (2 * M + 1) (halve x) := by
  have dl : ∀ i, i < x.length / 2 → -(2 * M) ≤ (Sp21.differences x).getD i 0 ∧ (Sp21.differences x).getD i 0 ≤ 2 * M := fun i hi => by
    rw [diff_getD hi]
    have a := h.getD hM (2 * i + 1)
    have b := h.getD hM (2 * i)
    have c := h.look hM (2 * i + 2)
    omega
  intro z hz
  unfold halve at hz
  split at hz
  · have := h z hz; omega
  · rename_i hn
    rcases List.mem_append.mp hz with q | q
    · obtain ⟨i, hi, rfl⟩ := List.mem_map.mp q
      have hi : i < (x.length + 1) / 2 := by simpa using hi
      unfold Sp21.near
      have a := h.getD hM (2 * i)
      have b := dl (i - 1) (by omega)
      have c := dl (min i ((Sp21.differences x).length - 1)) (by rw [differences_length]; omega)
      omega
    · obtain ⟨i, hi, rfl⟩ := List.getElem_of_mem q
      rw [differences_length] at hi
      have := dl i hi
      rw [get_getD (by rw [differences_length]; exact hi)]
      omega
/-- the means alone -/
theorem means_lim {M : Int} {x : List Int} (h : Lim M x) (hM : 0 ≤ M) {i : Nat} (hi : i < up x.length) : -grow M ≤ (halve x).getD i 0 ∧ (halve x).getD i 0 ≤ grow M := by
  unfold up at hi
  by_cases hn : x.length < 2
  · have : halve x = x := by unfold halve; rw [if_pos hn]
    rw [this]
    have := h.getD hM i
    unfold grow
    omega
  · have e : (halve x).getD i 0 = x.getD (2 * i) 0 + (Sp21.near (Sp21.differences x) i + 2) / 4 := by
      unfold halve
      rw [if_neg hn]
      dsimp only
      rw [List.getD_eq_getElem?_getD, List.getElem?_append_left (by simpa using hi)]
      simp [hi]
    rw [e]
    unfold Sp21.near grow
    have ld := differences_length x
    have x0 := h.getD hM (2 * i)
    -- each of the two differences has x(2i) at one side
    have side : ∀ j, (j = i ∨ j + 1 = i) → j < x.length / 2 → 2 * (Sp21.differences x).getD j 0 ≤ 3 * M - x.getD (2 * i) 0 + 1 ∧ -(3 * M) - x.getD (2 * i) 0 ≤ 2 * (Sp21.differences x).getD j 0 := by
      intro j hj hl
      rw [diff_getD hl]
      have a := h.getD hM (2 * j + 1)
      rcases hj with rfl | rfl
      · have c := h.look hM (2 * j + 2)
        omega
      · have b := h.getD hM (2 * j)
        have e2 : Sp21.look x (2 * j + 2) = x.getD (2 * (j + 1)) 0 := look_lt (by omega)
        rw [e2]
        omega
    have s1 : 2 * (Sp21.differences x).getD (i - 1) 0 ≤ 3 * M - x.getD (2 * i) 0 + 1 ∧ -(3 * M) - x.getD (2 * i) 0 ≤ 2 * (Sp21.differences x).getD (i - 1) 0 := side (i - 1) (by omega) (by omega)
    have s2 : 2 * (Sp21.differences x).getD (min i ((Sp21.differences x).length - 1)) 0 ≤ 3 * M - x.getD (2 * i) 0 + 1 ∧ -(3 * M) - x.getD (2 * i) 0 ≤ 2 * (Sp21.differences x).getD (min i ((Sp21.differences x).length - 1)) 0 :=
      side _ (by omega) (by omega)
    omega
def LimG (M : Int) (g : Grid) : Prop := ∀ r ∈ g, Lim M r
theorem LimG.cell {M : Int} {g : Grid} (h : LimG M g) (hM : 0 ≤ M) (y x : Nat) : -M ≤ cell g y x ∧ cell g y x ≤ M := by
  unfold TW.cell
  by_cases hy : y < g.length
  · have e : g.getD y [] = g[y] := by simp [List.getD_eq_getElem?_getD, hy]
    rw [e]
    exact (h _ (List.getElem_mem hy)).getD hM x
  · rw [List.getD_eq_getElem?_getD (l := g), List.getElem?_eq_none (by omega), Option.getD_none]
    simp; omega
theorem LimG.of {M : Int} {g : Grid} {w h : Nat} (R : Rect g w h) (hc : ∀ y x, y < h → x < w → -M ≤ TW.cell g y x ∧ TW.cell g y x ≤ M) : LimG M g := by
  intro r hr z hz
  obtain ⟨y, hy, rfl⟩ := List.getElem_of_mem hr
  obtain ⟨x, hx, rfl⟩ := List.getElem_of_mem hz
  rw [← cell_eq hy hx]
  exact hc y x (by rw [← R.1]; exact hy) (by rw [← R.2 _ (List.getElem_mem hy)]; exact hx)
theorem LimG.map {M N : Int} {g : Grid} (h : LimG M g) {f : List Int → List Int} (hf : ∀ l, Lim M l → Lim N (f l)) : LimG N (g.map f) := by
  intro r hr
  obtain ⟨l, hl, rfl⟩ := List.mem_map.mp hr
  exact hf l (h l hl)
theorem LimG.turn {M : Int} {g : Grid} {w h : Nat} (L : LimG M g) (hM : 0 ≤ M) (R : Rect g w h) (hh : 0 < h) : LimG M (turn g) :=
  LimG.of (R.turn hh) fun y x hy hx => by rw [cell_turn R hh hy hx]; exact L.cell hM x y
theorem LimG.halveCorner {M : Int} {c : Grid} {w h : Nat} (L : LimG M c) (hM : 0 ≤ M) (R : Rect c w h) (hw : 0 < w) (hh : 0 < h) : LimG (4 * M + 3) (halveCorner c) := by
  have R1 := R.map halve (hl_of w)
  have L1 : LimG (2 * M + 1) (c.map halve) := L.map fun l hl => halve_lim hl hM
  have L2 := L1.turn (by omega) R1 hh
  have L3 : LimG (2 * (2 * M + 1) + 1) ((Sp21.turn (c.map halve)).map halve) := L2.map fun l hl => halve_lim hl (by omega)
  have L4 := L3.turn (by omega) ((R1.turn hh).map halve (hl_of h)) hw
  have e : 2 * (2 * M + 1) + 1 = 4 * M + 3 := by omega
  rw [e] at L4
  exact L4
theorem LimG.corner {M : Int} {c : Grid} {w h : Nat} (L : LimG M c) (hM : 0 ≤ M) (R : Rect c w h) (hw : 0 < w) (hh : 0 < h) : LimG (grow (grow M)) (sub (TW.halveCorner c) (up w) (up h)) := by
  have u0 := up_le hw
  have u1 := up_le hh
  have R1 := R.map halve (hl_of w)
  have RT := R1.turn hh
  have R2 := RT.map halve (hl_of h)
  have RC := R.halveCorner hw hh
  refine LimG.of (RC.sub u0 u1) fun y x hy hx => ?_
  rw [cell_sub (by rw [RC.1]; exact u1) hy hx]
  show -_ ≤ TW.cell (Sp21.turn ((Sp21.turn (c.map halve)).map halve)) y x ∧ TW.cell (Sp21.turn ((Sp21.turn (c.map halve)).map halve)) y x ≤ _
  rw [cell_turn R2 hw (by omega) (by omega)]
  show -_ ≤ (((Sp21.turn (c.map halve)).map halve).getD x []).getD y 0 ∧ (((Sp21.turn (c.map halve)).map halve).getD x []).getD y 0 ≤ _
  rw [getD_map_row (by rw [RT.1]; omega)]
  have lc : Lim (grow M) ((Sp21.turn (c.map halve)).getD x []) := by
    have hl : ((Sp21.turn (c.map halve)).getD x []).length = h := RT.row (by omega)
    intro z hz
    obtain ⟨j, hj, rfl⟩ := List.getElem_of_mem hz
    have hjh : j < h := by omega
    have ec : ((Sp21.turn (c.map halve)).getD x [])[j] = TW.cell (Sp21.turn (c.map halve)) x j := get_getD hj
    rw [ec, cell_turn R1 hh (by omega) hjh]
    show -_ ≤ ((c.map halve).getD j []).getD x 0 ∧ ((c.map halve).getD j []).getD x 0 ≤ _
    rw [getD_map_row (by rw [R.1]; exact hjh)]
    have er : c.getD j [] = c[j]'(by rw [R.1]; exact hjh) := by simp [List.getD_eq_getElem?_getD, R.1, hjh]
    exact means_lim (by rw [er]; exact L _ (List.getElem_mem _)) hM (by rw [R.row hjh]; exact hx)
  exact means_lim lc (grow_nonneg hM) (by rw [RT.row (by omega)]; exact hy)
/-- the bound of all that is told with so many levels -/
def bound : Nat → Int → Int
  | 0, M => M
  | k + 1, M => max (4 * M + 3) (bound k (grow (grow M)))
theorem LimG.flatten {M : Int} {g : Grid} (L : LimG M g) : Lim M g.flatten := by
  intro z hz
  obtain ⟨r, hr, hz⟩ := List.mem_flatten.mp hz
  exact L r hr z hz
theorem tileBands_lim : ∀ (k : Nat) {c : Grid} {w h : Nat} {M : Int}, LimG M c → 0 ≤ M → Rect c w h → 0 < w → 0 < h → ∀ b ∈ tileBands k c w h, Lim (bound k M) b
  | 0, c, w, h, M, L, hM, R, hw, hh, b, hb => by
    have : b = c.flatten := by simpa [tileBands] using hb
    subst this
    exact L.flatten
  | k + 1, c, w, h, M, L, hM, R, hw, hh, b, hb => by
    have RC := R.halveCorner hw hh
    have LC := L.halveCorner hM R hw hh
    rcases List.mem_append.mp (show b ∈ tileBands k (sub (TW.halveCorner c) (up w) (up h)) (up w) (up h) ++ threeBands (TW.halveCorner c) (up w) (up h) from hb) with q | q
    · exact (tileBands_lim k (L.corner hM R hw hh) (grow_nonneg (grow_nonneg hM)) (RC.sub (up_le hw) (up_le hh)) (up_pos hw) (up_pos hh) b q).mono (by show _ ≤ max _ _; omega)
    · have : Lim (4 * M + 3) b := by
        intro z hz
        simp only [threeBands, List.mem_cons, List.not_mem_nil, or_false] at q
        have key : z ∈ (TW.halveCorner c).flatten := by
          rcases q with rfl | rfl | rfl
          · obtain ⟨r, hr, hz⟩ := List.mem_flatten.mp hz
            obtain ⟨l, hl, rfl⟩ := List.mem_map.mp hr
            exact List.mem_flatten.mpr ⟨l, List.mem_of_mem_take hl, List.mem_of_mem_drop hz⟩
          · obtain ⟨r, hr, hz⟩ := List.mem_flatten.mp hz
            obtain ⟨l, hl, rfl⟩ := List.mem_map.mp hr
            exact List.mem_flatten.mpr ⟨l, List.mem_of_mem_drop hl, List.mem_of_mem_take hz⟩
          · obtain ⟨r, hr, hz⟩ := List.mem_flatten.mp hz
            obtain ⟨l, hl, rfl⟩ := List.mem_map.mp hr
            exact List.mem_flatten.mpr ⟨l, List.mem_of_mem_drop hl, List.mem_of_mem_drop hz⟩
        exact LC.flatten z key
      exact this.mono (by show _ ≤ max _ _; omega)
theorem bound_small : ∀ k, k ≤ 5 → bound k 65535 < 2 ^ 23 := by decide
end TW

namespace TW
open Sp21 (Grid halve turn up Part cut Head front joined codeOf tileCode four three bandBits bytesOf)
theorem range_grid {α : Type} (F : Nat → Nat → α) {a : Nat} (ha : 0 < a) : ∀ d : Nat, (List.range (a * d)).map (fun t => F (t % a) (t / a)) = (List.range d).flatMap fun j => (List.range a).map fun i => F i j
  | 0 => by simp
  | d + 1 => by
    rw [Nat.mul_add, Nat.mul_one, List.range_add, List.map_append, range_grid F ha d, List.range_succ, List.flatMap_append, List.flatMap_singleton]
    congr 1
    rw [List.map_map]
    refine List.map_congr_left fun i hi => ?_
    have hi : i < a := by simpa using hi
    show F ((a * d + i) % a) ((a * d + i) / a) = F i d
    rw [Nat.mul_add_mod, Nat.mod_eq_of_lt hi, Nat.mul_add_div ha, Nat.div_eq_of_lt hi, Nat.add_zero]
structure HeadOk (f : Head) : Prop where
  kinds : 1 ≤ f.kinds ∧ f.kinds ≤ 4
  wide : 1 ≤ f.wide ∧ f.wide ≤ 256
  high : 1 ≤ f.high ∧ f.high ≤ 256
  e : 4 ≤ f.e ∧ f.e ≤ 8
  levels : f.levels ≤ 5
theorem side_bounds {f : Head} (h : HeadOk f) : 16 ≤ 2 ^ f.e ∧ 2 ^ f.e ≤ 256 :=
  ⟨Nat.pow_le_pow_right (n := 2) (by decide) h.e.1, Nat.pow_le_pow_right (n := 2) (by decide) h.e.2⟩
theorem ceil_bounds {n s : Nat} (hs : 0 < s) (hn : 0 < n) : 0 < (n + s - 1) / s ∧ ∀ i, i < (n + s - 1) / s → i * s < n := by
  constructor
  · exact Nat.div_pos (by omega) hs
  · intro i hi
    have h1 : (i + 1) * s ≤ n + s - 1 := by
      have := (Nat.le_div_iff_mul_le hs).mp hi
      exact this
    rw [Nat.add_mul, Nat.one_mul] at h1
    omega
theorem across_pos {f : Head} (h : HeadOk f) : 0 < f.across := (ceil_bounds (by have := side_bounds h; omega) h.wide.1).1
theorem down_pos {f : Head} (h : HeadOk f) : 0 < f.down := (ceil_bounds (by have := side_bounds h; omega) h.high.1).1
def placeAt (f : Head) (i j : Nat) : Part := ⟨i * 2 ^ f.e, j * 2 ^ f.e, min (2 ^ f.e) (f.wide - i * 2 ^ f.e), min (2 ^ f.e) (f.high - j * 2 ^ f.e)⟩
def places (f : Head) : List Part := (List.range f.down).flatMap fun j => (List.range f.across).map fun i => placeAt f i j
theorem places_eq {f : Head} (h : HeadOk f) : (List.range f.tiles).map f.part = places f :=
  range_grid (placeAt f) (across_pos h) f.down
theorem places_get {f : Head} (h : HeadOk f) {t : Nat} (ht : t < f.tiles) : (places f)[t]? = some (f.part t) := by
  rw [← places_eq h]
  simp [ht]
theorem tiles_le {f : Head} (h : HeadOk f) : f.tiles ≤ 256 := by
  have ha : f.across ≤ 16 := by
    unfold Sp21.Head.across
    have := side_bounds h
    have := h.wide
    refine Nat.le_trans (Nat.div_le_div_right (c := 2 ^ f.e) (show f.wide + 2 ^ f.e - 1 ≤ 256 + 2 ^ f.e - 1 by omega)) ?_
    have : (256 + 2 ^ f.e - 1) / 2 ^ f.e < 17 := by
      rw [Nat.div_lt_iff_lt_mul (by omega)]
      omega
    omega
  have hd : f.down ≤ 16 := by
    unfold Sp21.Head.down
    have := side_bounds h
    have := h.high
    refine Nat.le_trans (Nat.div_le_div_right (c := 2 ^ f.e) (show f.high + 2 ^ f.e - 1 ≤ 256 + 2 ^ f.e - 1 by omega)) ?_
    have : (256 + 2 ^ f.e - 1) / 2 ^ f.e < 17 := by
      rw [Nat.div_lt_iff_lt_mul (by omega)]
      omega
    omega
  exact Nat.mul_le_mul ha hd
structure PartOk (f : Head) (p : Part) : Prop where
  w : 0 < p.w ∧ p.w ≤ 256
  h : 0 < p.h ∧ p.h ≤ 256
  x : p.x + p.w ≤ f.wide
  y : p.y + p.h ≤ f.high
theorem placeAt_ok {f : Head} (h : HeadOk f) {i j : Nat} (hi : i < f.across) (hj : j < f.down) : PartOk f (placeAt f i j) := by
  have hs := side_bounds h
  have h1 := (ceil_bounds (s := 2 ^ f.e) (by omega) h.wide.1).2 i hi
  have h2 := (ceil_bounds (s := 2 ^ f.e) (by omega) h.high.1).2 j hj
  unfold placeAt
  exact ⟨by dsimp only; omega, by dsimp only; omega, by dsimp only; omega, by dsimp only; omega⟩
theorem places_ok {f : Head} (h : HeadOk f) : ∀ p ∈ places f, PartOk f p := by
  intro p hp
  obtain ⟨j, hj, hp⟩ := List.mem_flatMap.mp hp
  obtain ⟨i, hi, rfl⟩ := List.mem_map.mp hp
  exact placeAt_ok h (by simpa using hi) (by simpa using hj)
theorem part_ok {f : Head} (h : HeadOk f) {t : Nat} (ht : t < f.tiles) : PartOk f (f.part t) :=
  places_ok h _ (List.mem_of_getElem? (places_get h ht))
theorem flatMap_length_const {α β : Type} {g : α → List β} {n : Nat} : ∀ {l : List α}, (∀ a ∈ l, (g a).length = n) → (l.flatMap g).length = l.length * n
  | [], _ => by simp
  | a :: r, h => by
    rw [List.flatMap_cons, List.length_append, h a (by simp), flatMap_length_const fun b hb => h b (by simp [hb]), List.length_cons, Nat.add_mul, Nat.one_mul]
    omega
theorem flatten_rect {g : Grid} {w h : Nat} (R : Rect g w h) : g.flatten.length = w * h := by
  have := flatMap_length_const (g := fun (r : List Int) => r) (n := w) (l := g) R.2
  rw [R.1, Nat.mul_comm] at this
  rw [← this, List.flatMap_id']
theorem threeBands_length {hd : Grid} {w h : Nat} (R : Rect hd w h) (hw : 0 < w) (hh : 0 < h) : (threeBands hd (up w) (up h)).flatten.length + up w * up h = w * h := by
  have u0 := up_le hw
  have u1 := up_le hh
  have a1 := flatten_rect (show Rect ((hd.take (up h)).map (·.drop (up w))) (w - up w) (up h) from ⟨by rw [List.length_map, List.length_take, R.1]; omega, fun r hr => by
    obtain ⟨l, hl, rfl⟩ := List.mem_map.mp hr; rw [List.length_drop, R.2 l (List.mem_of_mem_take hl)]⟩)
  have a2 := flatten_rect (show Rect ((hd.drop (up h)).map (·.take (up w))) (up w) (h - up h) from ⟨by rw [List.length_map, List.length_drop, R.1], fun r hr => by
    obtain ⟨l, hl, rfl⟩ := List.mem_map.mp hr; rw [List.length_take, R.2 l (List.mem_of_mem_drop hl)]; omega⟩)
  have a3 := flatten_rect (show Rect ((hd.drop (up h)).map (·.drop (up w))) (w - up w) (h - up h) from ⟨by rw [List.length_map, List.length_drop, R.1], fun r hr => by
    obtain ⟨l, hl, rfl⟩ := List.mem_map.mp hr; rw [List.length_drop, R.2 l (List.mem_of_mem_drop hl)]⟩)
  have e : (threeBands hd (up w) (up h)).flatten = ((hd.take (up h)).map (·.drop (up w))).flatten ++ (((hd.drop (up h)).map (·.take (up w))).flatten ++ ((hd.drop (up h)).map (·.drop (up w))).flatten) := by
    simp only [threeBands, List.flatten_cons, List.flatten_nil, List.append_nil]
  rw [e, List.length_append, List.length_append, a1, a2, a3]
  generalize hA : up w = A at *
  generalize hB : up h = B at *
  obtain ⟨c, hc⟩ : ∃ c, w = A + c := ⟨w - A, by omega⟩
  obtain ⟨d, hd'⟩ : ∃ d, h = B + d := ⟨h - B, by omega⟩
  rw [hc, hd', show A + c - A = c by omega, show B + d - B = d by omega, Nat.add_mul, Nat.mul_add, Nat.mul_add]
  omega
theorem tileBands_length : ∀ (k : Nat) {c : Grid} {w h : Nat}, Rect c w h → 0 < w → 0 < h → (tileBands k c w h).flatten.length = w * h
  | 0, c, w, h, R, _, _ => by simp only [tileBands, List.flatten_cons, List.flatten_nil, List.append_nil]; exact flatten_rect R
  | k + 1, c, w, h, R, hw, hh => by
    have RC := R.halveCorner hw hh
    have ih := tileBands_length k (RC.sub (up_le hw) (up_le hh)) (up_pos hw) (up_pos hh)
    have t := threeBands_length RC hw hh
    show (tileBands k (sub (TW.halveCorner c) (up w) (up h)) (up w) (up h) ++ threeBands (TW.halveCorner c) (up w) (up h)).flatten.length = _
    rw [List.flatten_append, List.length_append, ih]
    omega
theorem flatMap_length_le {α β γ : Type} {g : α → List β} {m : α → List γ} {c : Nat} : ∀ {l : List α}, (∀ a ∈ l, (g a).length ≤ c * (m a).length) → (l.flatMap g).length ≤ c * (l.flatMap m).length
  | [], _ => by simp
  | a :: r, h => by
    have h1 := h a (by simp)
    have h2 := flatMap_length_le (l := r) fun b hb => h b (by simp [hb])
    rw [List.flatMap_cons, List.flatMap_cons, List.length_append, List.length_append, Nat.mul_add]
    omega
theorem band_le {k w h : Nat} {c : Grid} (R : Rect c w h) (hw : 0 < w) (hh : 0 < h) : ∀ b ∈ tileBands k c w h, b.length ≤ w * h := by
  intro b hb
  rw [← tileBands_length k R hw hh]
  have : b.Sublist (tileBands k c w h).flatten := List.sublist_flatten_of_mem hb
  exact this.length_le
/-- a kind of a tile -/
structure Plane (p : List Int) (w h : Nat) : Prop where
  len : p.length = w * h
  lim : Lim 65535 p
theorem Plane.rect {p : List Int} {w h : Nat} (P : Plane p w h) : Rect (cutRows p w h) w h := Rect.cutRows P.len
theorem Plane.limG {p : List Int} {w h : Nat} (P : Plane p w h) : LimG 65535 (cutRows p w h) := by
  intro r hr z hz
  obtain ⟨i, _, rfl⟩ := List.mem_map.mp hr
  exact P.lim z (List.mem_of_mem_drop (List.mem_of_mem_take hz))
theorem Plane.bands {p : List Int} {w h k : Nat} (P : Plane p w h) (hw : 0 < w) (hh : 0 < h) (hk : k ≤ 5) : ∀ b ∈ tileBands k (cutRows p w h) w h, ∀ z ∈ b, -(2 ^ 23) ≤ z ∧ z < 2 ^ 23 := by
  intro b hb z hz
  have := tileBands_lim k P.limG (by decide) P.rect hw hh b hb z hz
  have := bound_small k hk
  omega
theorem Plane.bits_le {p : List Int} {w h k : Nat} (P : Plane p w h) (hw : 0 < w) (hh : 0 < h) (hk : k ≤ 5) (ha : w * h ≤ 65536) : ((tileBands k (cutRows p w h) w h).flatMap (bandBits 16 1)).length ≤ 88 * (w * h) := by
  refine Nat.le_trans (flatMap_length_le (m := fun (b : List Int) => b) (c := 88) fun b hb => ?_) ?_
  · have := band_le P.rect hw hh b hb
    exact bandBits_length b 0 16 1 Paced.start (by omega) fun z hz => by have := P.bands hw hh hk b hb z hz; omega
  · rw [List.flatMap_id', tileBands_length k P.rect hw hh]
    exact Nat.le_refl _
theorem pick_mem {xs : List Int} {i s n : Nat} {z : Int} (hb : ∀ m, m < n → i + m * s < xs.length) (h : z ∈ pick xs i s n) : z ∈ xs := by
  obtain ⟨m, hm, rfl⟩ := List.mem_map.mp h
  have hm : m < n := by simpa using hm
  rw [← getD_of_lt (hb m hm)]
  exact List.getElem_mem _
theorem planes_plane {kinds w h : Nat} {l : List Int} (hl : l.length = kinds * w * h) (hz : ∀ z ∈ l, 0 ≤ z ∧ z ≤ 65535) : ∀ p ∈ planes kinds (w * h) l, p.length = w * h ∧ ∀ z ∈ p, 0 ≤ z ∧ z ≤ 65535 := by
  intro p hp
  refine ⟨planes_length p hp, fun z hzp => ?_⟩
  obtain ⟨k, hk, rfl⟩ := List.mem_map.mp hp
  have hk : k < kinds := by simpa using hk
  refine hz z (pick_mem (fun m hm => ?_) hzp)
  have h1 : (m + 1) * kinds ≤ w * h * kinds := Nat.mul_le_mul_right _ hm
  rw [Nat.add_mul, Nat.one_mul, Nat.mul_comm (w * h), ← Nat.mul_assoc] at h1
  omega
theorem zip3_lim {f : Int → Int → Int → Int} {r g b : List Int} (hf : ∀ x y z, x ∈ r → y ∈ g → z ∈ b → -65535 ≤ f x y z ∧ f x y z ≤ 65535) : Lim 65535 (zip3 f r g b) := by
  intro z hz
  obtain ⟨⟨x, y, w⟩, hm, rfl⟩ := List.mem_map.mp hz
  have h1 := List.of_mem_zip hm
  have h2 := List.of_mem_zip h1.2
  exact hf x y w h1.1 h2.1 h2.2
theorem mixed_plane {l : List (List Int)} {w h : Nat} (hl : ∀ p ∈ l, p.length = w * h ∧ ∀ z ∈ p, 0 ≤ z ∧ z ≤ 65535) : ∀ p ∈ mixed l, Plane p w h := by
  intro p hp
  refine ⟨mixed_length (fun q hq => (hl q hq).1) p hp, ?_⟩
  match l, hl, hp with
  | [], hl, hp => exact fun z hz => by have := (hl p hp).2 z hz; omega
  | [_], hl, hp => exact fun z hz => by have := (hl p hp).2 z hz; omega
  | [_, _], hl, hp => exact fun z hz => by have := (hl p hp).2 z hz; omega
  | r :: g :: b :: rest, hl, hp =>
    have hr := (hl r (by simp)).2
    have hg := (hl g (by simp)).2
    have hb := (hl b (by simp)).2
    simp [mixed] at hp
    rcases hp with rfl | rfl | rfl | hp
    · exact zip3_lim fun x y z hx hy hz => by have := hr x hx; have := hg y hy; have := hb z hz; omega
    · exact zip3_lim fun x y z hx hy hz => by have := hr x hx; have := hg y hy; have := hb z hz; omega
    · exact zip3_lim fun x y z hx hy hz => by have := hr x hx; have := hg y hy; have := hb z hz; omega
    · exact fun z hz => by have := (hl p (by simp [hp])).2 z hz; omega
theorem mixed_count (l : List (List Int)) : (mixed l).length = l.length := by
  match l with
  | [] => rfl
  | [_] => rfl
  | [_, _] => rfl
  | r :: g :: b :: rest => rfl
theorem tileBits_length {kinds w h levels : Nat} {l : List Int} (hw : 0 < w) (hh : 0 < h) (hk : levels ≤ 5) (ha : w * h ≤ 65536) (hl : l.length = kinds * w * h) (hz : ∀ z ∈ l, 0 ≤ z ∧ z ≤ 65535) : (tileBits kinds w h levels l).length ≤ 88 * (kinds * (w * h)) := by
  unfold tileBits
  have hp := mixed_plane (planes_plane hl hz)
  refine Nat.le_trans (flatMap_length_le (m := fun (p : List Int) => p) (c := 88) fun p hpm => ?_) ?_
  · rw [(hp p hpm).len]
    exact (hp p hpm).bits_le hw hh hk ha
  · rw [flatMap_length_const (n := w * h) fun p hpm => (hp p hpm).len, mixed_count]
    simp [planes]
def lowest (n many : Nat) : List Nat := (List.range many).map fun i => n / 256 ^ i % 256
theorem four_eq (n : Nat) : four n = lowest n 4 := rfl
theorem lowest_byte {n many x : Nat} (h : x ∈ lowest n many) : x < 256 := by
  obtain ⟨i, _, rfl⟩ := List.mem_map.mp h
  exact Nat.mod_lt _ (by decide)
def framed (f : Head) (l : List (List Nat)) : List Nat :=
  let b := front f ++ (l.flatMap fun t => lowest t.length 3) ++ l.flatten
  b ++ lowest (crcOf b) 4
theorem bytesOf_byte {b : List Nat} (hb : ∀ x ∈ b, x < 2) : ∀ x ∈ bytesOf b, x < 256 := by
  intro x hx
  rw [bytesOf_eq] at hx
  obtain ⟨i, _, rfl⟩ := List.mem_map.mp hx
  unfold byteAt
  have : ∀ l : List Nat, (∀ y ∈ l, y < 2) → Sp21.value l < 2 ^ l.length := by
    intro l
    induction l with
    | nil => intro _; decide
    | cons y r ih =>
      intro h
      have e : y :: r = [y] ++ r := rfl
      have h1 : y < 2 := h y (by simp)
      have h2 := ih fun z hz => h z (by simp [hz])
      rw [e, value_append, List.length_append, show Sp21.value [y] = y by simp [Sp21.value], List.length_singleton, Nat.pow_add, Nat.pow_one]
      have : y * 2 ^ r.length ≤ 1 * 2 ^ r.length := Nat.mul_le_mul_right _ (by omega)
      omega
  have h8 := this ((List.range 8).map fun (j : Nat) => b.getD (8 * i + j) 0) fun y hy => by
    obtain ⟨j, _, rfl⟩ := List.mem_map.mp hy
    rw [List.getD_eq_getElem?_getD]
    by_cases hq : 8 * i + j < b.length
    · rw [List.getElem?_eq_getElem hq, Option.getD_some]
      exact hb _ (List.getElem_mem hq)
    · rw [List.getElem?_eq_none (by omega), Option.getD_none]
      decide
  simpa using h8
theorem front_byte {f : Head} (h : HeadOk f) : ∀ x ∈ front f, x < 256 := by
  have := h.kinds
  have := h.wide
  have := h.high
  have := h.e
  have := h.levels
  intro x hx
  simp [front] at hx
  omega
theorem framed_eq {f : Head} {l : List (List Nat)} (hf : HeadOk f) (hl : ∀ t ∈ l, ∀ x ∈ t, x < 256) : framed f l = joined f l := by
  unfold framed joined
  dsimp only
  rw [crcOf_eq, four_eq]
  · rfl
  · intro x hx
    rcases List.mem_append.mp hx with hx | hx
    · rcases List.mem_append.mp hx with hx | hx
      · exact front_byte hf x hx
      · obtain ⟨t, _, hx⟩ := List.mem_flatMap.mp hx
        exact lowest_byte hx
    · obtain ⟨t, ht, hx⟩ := List.mem_flatten.mp hx
      exact hl t ht x hx
theorem tell_bits {k m x : Nat} (h : x ∈ Sp21.tell k m) : x < 2 := by
  by_cases q : m / 2 ^ k < 24
  · rw [tell_short q] at h
    rcases List.mem_append.mp h with h | h
    · exact bitsOf_lt h
    · exact bitsOf_lt h
  · rw [tell_long q] at h
    rcases List.mem_append.mp h with h | h
    · exact bitsOf_lt h
    · exact bitsOf_lt h
theorem bandBits_bits : ∀ (l : List Int) (a c : Nat) {x : Nat}, x ∈ bandBits a c l → x < 2
  | [], _, _, x, h => by simp [bandBits_nil] at h
  | z :: l, a, c, x, h => by
    rw [bandBits_cons] at h
    rcases List.mem_append.mp h with h | h
    · exact tell_bits h
    · exact bandBits_bits l _ _ h
theorem tileBits_bits {kinds w h levels : Nat} {l : List Int} : ∀ x ∈ tileBits kinds w h levels l, x < 2 := by
  intro x hx
  obtain ⟨p, _, hx⟩ := List.mem_flatMap.mp hx
  obtain ⟨b, _, hx⟩ := List.mem_flatMap.mp hx
  exact bandBits_bits b 16 1 hx
theorem two_lt {z : Int} (h : 0 ≤ z ∧ z ≤ 65535) : Sp21.two z.toNat = [z.toNat % 256, z.toNat / 256] := by
  unfold Sp21.two
  rw [Nat.mod_eq_of_lt (show z.toNat / 256 < 256 by omega)]
/-- a tile's code is made of bytes -/
theorem tileCode_byte {kinds w h levels : Nat} {l : List Int} (hw : 0 < w) (hh : 0 < h) : ∀ x ∈ tileCode kinds w h levels l, x < 256 := by
  rw [tileCode_eq hw hh]
  intro x hx
  split at hx
  · rcases List.mem_cons.mp hx with rfl | hx
    · decide
    · exact bytesOf_byte tileBits_bits x hx
  · rcases List.mem_cons.mp hx with rfl | hx
    · decide
    · obtain ⟨z, _, hx⟩ := List.mem_flatMap.mp hx
      simp [Sp21.two] at hx
      omega
theorem tileCode_length_le {kinds w h levels : Nat} {l : List Int} (hw : 0 < w) (hh : 0 < h) : (tileCode kinds w h levels l).length ≤ 1 + 2 * l.length := by
  have hp : (0 :: l.flatMap fun (z : Int) => Sp21.two z.toNat).length = 1 + 2 * l.length := by
    rw [List.length_cons, flatMap_length_const (n := 2) fun z _ => rfl]
    omega
  rw [tileCode_eq hw hh, hp]
  split
  · omega
  · rw [hp]; exact Nat.le_refl _
end TW

namespace TW
open Sp21 (Head headOf cutInto Bytes)
/-- a number of bytes, the lowest first -/
def numOf : List Nat → Nat
  | [] => 0
  | x :: r => x + 256 * numOf r
theorem numOf_lt : ∀ {l : List Nat}, (∀ x ∈ l, x < 256) → numOf l < 256 ^ l.length
  | [], _ => by decide
  | x :: r, h => by
    have h1 := h x (by simp)
    have h2 := numOf_lt (l := r) fun y hy => h y (by simp [hy])
    show x + 256 * numOf r < 256 ^ (r.length + 1)
    rw [Nat.pow_succ]
    omega
theorem numOf_append : ∀ (a b : List Nat), numOf (a ++ b) = numOf a + 256 ^ a.length * numOf b
  | [], b => by simp [numOf]
  | x :: a, b => by
    show x + 256 * numOf (a ++ b) = x + 256 * numOf a + 256 ^ (a.length + 1) * numOf b
    rw [numOf_append a b, Nat.pow_succ, Nat.mul_add, Nat.mul_comm (256 ^ a.length) 256, Nat.mul_assoc]
    omega
theorem numOf_snoc (a : List Nat) (x : Nat) : numOf (a ++ [x]) = numOf a + x * 256 ^ a.length := by
  rw [numOf_append]
  simp [numOf, Nat.mul_comm]
theorem take3_num (b : List Nat) (i : Nat) : numOf ((b.drop i).take 3) = b.getD i 0 + 256 * b.getD (i + 1) 0 + 65536 * b.getD (i + 2) 0 := by
  have e : ∀ j, b.getD (i + j) 0 = (b.drop i).getD j 0 := fun j => by simp [List.getD_eq_getElem?_getD]
  have e0 := e 0
  rw [Nat.add_zero] at e0
  rw [e0, e 1, e 2]
  generalize b.drop i = l
  match l with
  | [] => rfl
  | [x] => simp [numOf]
  | [x, y] => simp [numOf]
  | x :: y :: z :: r => simp [numOf]; omega
def lengthsOf (b : List Nat) (many : Nat) : List Nat := (List.range many).map fun i => numOf ((b.drop (9 + 3 * i)).take 3)
def headP (b : List Nat) : Option Head :=
  if b.length < 9 ∨ b.take 4 ≠ [84, 73, 76, 83] then none
  else if 1 ≤ b.getD 4 0 ∧ b.getD 4 0 ≤ 4 ∧ 4 ≤ b.getD 7 0 ∧ b.getD 7 0 ≤ 8 ∧ b.getD 8 0 ≤ 5 then some ⟨b.getD 4 0, b.getD 5 0 + 1, b.getD 6 0 + 1, b.getD 7 0, b.getD 8 0⟩ else none
def tilesP (b : List Nat) (f : Head) : Option (List Bytes) :=
  let lengths := lengthsOf b f.tiles
  if (lengths.any fun x => x == 0) = true ∨ 9 + 3 * f.tiles + lengths.sum + 4 ≠ b.length then none else some (cutInto lengths (b.drop (9 + 3 * f.tiles)))
theorem getD_byte {b : List Nat} (hb : ∀ x ∈ b, x < 256) (i : Nat) : b.getD i 0 < 256 := by
  rw [List.getD_eq_getElem?_getD]
  by_cases h : i < b.length
  · rw [List.getElem?_eq_getElem h, Option.getD_some]; exact hb _ (List.getElem_mem h)
  · rw [List.getElem?_eq_none (by omega), Option.getD_none]; decide
theorem headP_ok {b : List Nat} {f : Head} (hb : ∀ x ∈ b, x < 256) (h : headP b = some f) : HeadOk f := by
  unfold headP at h
  split at h
  · cases h
  · split at h
    · rename_i q
      have e := Option.some.inj h
      subst e
      have h5 := getD_byte hb 5
      have h6 := getD_byte hb 6
      exact ⟨⟨q.1, q.2.1⟩, ⟨by dsimp only; omega, by dsimp only; omega⟩, ⟨by dsimp only; omega, by dsimp only; omega⟩, ⟨q.2.2.1, q.2.2.2.1⟩, q.2.2.2.2⟩
    · cases h
theorem tiles_pos {f : Head} (h : HeadOk f) : 0 < f.tiles := Nat.mul_pos (across_pos h) (down_pos h)
theorem headOf_eq {b : List Nat} (hb : ∀ x ∈ b, x < 256) : headOf b = (headP b).bind fun f => (tilesP b f).map fun l => (f, l) := by
  have tl : ∀ f : Head, (lengthsOf b f.tiles) = (List.range f.tiles).map fun (t : Nat) => b.getD (9 + 3 * t) 0 + 256 * b.getD (10 + 3 * t) 0 + 65536 * b.getD (11 + 3 * t) 0 := by
    intro f
    unfold lengthsOf
    refine List.map_congr_left fun t _ => ?_
    rw [take3_num, show 9 + 3 * t + 1 = 10 + 3 * t by omega, show 9 + 3 * t + 2 = 11 + 3 * t by omega]
  unfold headOf
  dsimp only
  by_cases h9 : b.length < 9 ∨ b.take 4 ≠ [84, 73, 76, 83]
  · have hP : headP b = none := by unfold headP; rw [if_pos h9]
    rw [hP, if_pos (by rcases h9 with q | q; exact .inl (by omega); exact .inr (.inl q))]
    rfl
  · have h9l : ¬ b.length < 9 := fun q => h9 (.inl q)
    have h9t : ¬ b.take 4 ≠ [84, 73, 76, 83] := fun q => h9 (.inr q)
    by_cases hr : 1 ≤ b.getD 4 0 ∧ b.getD 4 0 ≤ 4 ∧ 4 ≤ b.getD 7 0 ∧ b.getD 7 0 ≤ 8 ∧ b.getD 8 0 ≤ 5
    · have hP : headP b = some ⟨b.getD 4 0, b.getD 5 0 + 1, b.getD 6 0 + 1, b.getD 7 0, b.getD 8 0⟩ := by unfold headP; rw [if_neg h9, if_pos hr]
      have hOk := headP_ok hb hP
      have hT := tiles_pos hOk
      rw [hP]
      show _ = (tilesP b _).map _
      unfold tilesP
      rw [tl]
      by_cases h13 : b.length < 13
      · rw [if_pos (.inl h13)]
        dsimp only
        rw [if_pos (.inr (by omega))]
        rfl
      · rw [if_neg (by
          intro q
          rcases q with q | q | q
          · exact h13 q
          · exact h9t q
          · exact q hr)]
        dsimp only
        generalize hL : ((List.range (Head.mk (b.getD 4 0) (b.getD 5 0 + 1) (b.getD 6 0 + 1) (b.getD 7 0) (b.getD 8 0)).tiles).map fun (t : Nat) => b.getD (9 + 3 * t) 0 + 256 * b.getD (10 + 3 * t) 0 + 65536 * b.getD (11 + 3 * t) 0) = L
        generalize (Head.mk (b.getD 4 0) (b.getD 5 0 + 1) (b.getD 6 0 + 1) (b.getD 7 0) (b.getD 8 0)).tiles = n at *
        by_cases hz : (L.any fun x => x == 0) = true
        · rw [if_pos (.inr (.inl hz)), if_pos (.inl hz)]
          rfl
        · by_cases hs : 9 + 3 * n + L.sum + 4 ≠ b.length
          · rw [if_pos (.inr (.inr (by omega))), if_pos (.inr hs)]
            rfl
          · rw [if_neg (by
              intro q
              rcases q with q | q | q
              · omega
              · exact hz q
              · omega), if_neg (by
              intro q
              rcases q with q | q
              · exact hz q
              · exact hs q)]
            rfl
    · have hP : headP b = none := by unfold headP; rw [if_neg h9, if_neg hr]
      rw [hP, if_pos (.inr (.inr hr))]
      rfl
end TW

namespace TW
open Sp21 (bitsOf value parameter tell next code1 size1 bandBits readBand)
/-- one number heard: the number, the bits behind it -/
def hear (k : Nat) (b : List Nat) : Option (Int × List Nat) :=
  let q := ((b.take 24).takeWhile fun (x : Nat) => x == 1).length
  let r := if q = 24 then b.drop 24 else b.drop (q + 1)
  let s := if q = 24 then 24 else k
  if b.length < q + 1 ∨ r.length < s then none
  else some (size1 (if q = 24 then value (r.take 24) else q * 2 ^ k + value (r.take k)), r.drop s)
/-- a band heard, whatever gives k -/
def hearBand (π : Nat → Nat → Nat) : Nat → Nat → Nat → List Nat → Option (List Int × List Nat)
  | 0, _, _, b => some ([], b)
  | n + 1, a, c, b => (hear (π a c) b).bind fun x => (hearBand π n (next a c x.1).1 (next a c x.1).2 x.2).map fun y => (x.1 :: y.1, y.2)
/-- what k is wherever the numbers told are small -/
def Meets (π : Nat → Nat → Nat) : Prop := ∀ a c, 1 ≤ c → a ≤ c * 2 ^ 63 → π a c = parameter a c
theorem Meets.parameter : Meets parameter := fun _ _ _ _ => rfl
/-- bands heard one after another -/
def hearBands (π : Nat → Nat → Nat) : List Nat → List Nat → Option (List (List Int) × List Nat)
  | [], b => some ([], b)
  | n :: r, b => (hearBand π n 16 1 b).bind fun x => (hearBands π r x.2).map fun y => (x.1 :: y.1, y.2)
end TW

namespace TW
open Sp21 (Grid halve whole turn onRows onColumns up corners forward backward Part last bands numbersOf place readBands readGrids readBand parameter)
theorem whole_length (y : List Int) : (whole y).length = y.length := by
  unfold whole
  split
  · rfl
  · simp
theorem wl_of (n : Nat) : ∀ l : List Int, l.length = n → (whole l).length = n := fun l h => by rw [whole_length, h]
def wholeCorner (c : Grid) : Grid := (turn ((turn c).map whole)).map whole
theorem Rect.wholeCorner {c : Grid} {w h : Nat} (R : Rect c w h) (hw : 0 < w) (hh : 0 < h) : Rect (wholeCorner c) w h :=
  (((R.turn hh).map whole (wl_of h)).turn hw).map whole (wl_of w)
theorem Rect.forward {g : Grid} {w h : Nat} (k : Nat) (R : Rect g w h) (hw : 0 < w) (hh : 0 < h) : Rect (forward k w h g) w h :=
  (fold_keeps k w h R (Nat.le_refl _) (Nat.le_refl _) hw hh).1
theorem last_le : ∀ (k : Nat) {w h : Nat}, 0 < w → 0 < h → (last k w h).1 ≤ w ∧ (last k w h).2 ≤ h
  | 0, _, _, _, _ => ⟨Nat.le_refl _, Nat.le_refl _⟩
  | k + 1, w, h, hw, hh => by
    have := last_le k (up_pos hw) (up_pos hh)
    have u0 := up_le hw
    have u1 := up_le hh
    show (last k (up w) (up h)).1 ≤ w ∧ (last k (up w) (up h)).2 ≤ h
    omega
end TW

namespace TW
open Sp21 (Grid halve whole turn up bands numbersOf forward backward readBands readGrids bitsOf value bytesOf two apart together mix unmix tileCode tileRead parameter bandBits)
/-- kinds, number by number -/
def weave (kinds n : Nat) (ps : List (List Int)) : List Int := (List.range (kinds * n)).map fun t => (ps.getD (t % kinds) []).getD (t / kinds) 0
end TW

namespace TW
open Sp21 (Grid halve whole turn up bitsOf value bytesOf two tileCode tileRead parameter bandBits together unmix)
/-- the least k for which c 2^k is at least a, whatever a is -/
def par (a c : Nat) : Nat := ((List.range (a + 1)).find? fun (k : Nat) => decide (a ≤ c * 2 ^ k)).getD 0
/-- how many numbers each band has -/
def bandLens : Nat → Nat → Nat → List Nat
  | 0, w, h => [w * h]
  | k + 1, w, h => bandLens k (up w) (up h) ++ [(w - up w) * up h, up w * (h - up h), (w - up w) * (h - up h)]
/-- the halved corner from its means and the three bands around them -/
def joinG (c : Grid) (a : List (List Int)) (w h : Nat) : Grid :=
  ((c.zip (cutRows (a.getD 0 []) (w - up w) (up h))).map fun x => x.1 ++ x.2) ++ (((cutRows (a.getD 1 []) (up w) (h - up h)).zip (cutRows (a.getD 2 []) (w - up w) (h - up h))).map fun x => x.1 ++ x.2)
/-- the tile's rows from its bands -/
def rowsOf : Nat → List (List Int) → Nat → Nat → Grid
  | 0, bs, w, h => cutRows (bs.getD 0 []) w h
  | k + 1, bs, w, h => wholeCorner (joinG (rowsOf k (bs.take (1 + 3 * k)) (up w) (up h)) (bs.drop (1 + 3 * k)) w h)
/-- a kind heard: its numbers, the bits behind it -/
def heardPlane (w h k : Nat) (b : List Nat) : Option (List Int × List Nat) := (hearBands par (bandLens k w h) b).map fun x => ((rowsOf k x.1 w h).flatten, x.2)
def heardPlanes (w h k : Nat) : Nat → List Nat → Option (List (List Int))
  | 0, _ => some []
  | n + 1, b => (heardPlane w h k b).bind fun x => (heardPlanes w h k n x.2).map fun r => x.1 :: r
/-- the numbers heard of a tile's code, whatever they are -/
def heard (kinds w h levels : Nat) (b : List Nat) : Option (List Int) := match b with
  | 0 :: r => if r.length = 2 * (kinds * (w * h)) then some ((List.range (kinds * (w * h))).map fun (i : Nat) => ((r.getD (2 * i) 0 + 256 * r.getD (2 * i + 1) 0 : Nat) : Int)) else none
  | 1 :: r => (heardPlanes w h levels kinds (r.flatMap fun (x : Nat) => bitsOf 8 x)).map fun ps => weave kinds (w * h) (unmixed ps)
  | _ => none
/-- as the program takes them -/
def taken (kinds w h levels : Nat) (b : List Nat) : Option (List Int) := (heard kinds w h levels b).bind fun l => if (∀ z ∈ l, 0 ≤ z ∧ z ≤ 65535) ∧ tileCode kinds w h levels l = b then some l else none
end TW

namespace TW
open Sp21 (Head Part cut laid cutInto headOf readAll readTile readSheet joined codeOf front three four tileCode tileRead)
def hit (tl : List (Part × List Int)) (y x : Nat) : Option (Part × List Int) := tl.find? fun (t : Part × List Int) => decide (t.1.x ≤ x) && (decide (x < t.1.x + t.1.w) && (decide (t.1.y ≤ y) && decide (y < t.1.y + t.1.h)))
end TW

set_option Elab.async false
set_option linter.all false
set_option maxRecDepth 100000
namespace TW
open PySem PySem.Spec PyProof.Rows L2
theorem ps_fr {X : Cx} {st : Stmt} {t : TS} (h : X.A.frames = some X.stack → PS X st t) : PS X st t := fun pins s σ H D I hw => h I.ok.frames pins s σ H D I hw
/-- over enumerate of a list that the body leaves as it is -/
theorem for_enum {K : PySem.W.Frag} {a : Addr} {xs : List V} {g : TG} {tb : TS} {D : Ends} {σ : L2.St} {H : Hp} (Pv : Nat → L2.St → Hp → Prop) (h0 : Pv 0 σ H) (hl : ∀ i σ H, i ≤ xs.length → Pv i σ H → SqL K H a xs)
    (hs : ∀ i x T σ H, xs[i]? = some x → H T = none → Pv i σ H → g (.ref T) σ (upd H T (.tup [.int (i : Nat), x])) fun σ2 H2 => tb { D with nx := Pv (i + 1), ct := Pv (i + 1), bk := D.nx } σ2 H2) (hd : ∀ σ H, Pv xs.length σ H → D.nx σ H) :
    ∃ W : Nat → Nat → L2.St → Hp → Prop, (∃ m, W 0 m σ H) ∧ ∀ i m σ H, W i m σ H →
      ((Ite K a).stop i H ∧ D.nx σ H) ∨ ((Ite K a).go i H ∧ ∃ N : L2.St → Hp → Prop, (∀ σ' H', N σ' H' → ∃ m', m' < m ∧ W (i + 1) m' σ' H') ∧ ∀ x H', (Ite K a).yld i H x H' → g x σ H' fun σ2 H2 => tb { D with nx := N, ct := N, bk := D.nx } σ2 H2) := by
  refine ⟨fun i m σ H => m = xs.length - i ∧ i ≤ xs.length ∧ Pv i σ H, ⟨xs.length, by simp, Nat.zero_le _, h0⟩, ?_⟩
  rintro i m σ H ⟨rfl, hi, p⟩
  have q := hl i σ H hi p
  by_cases hlt : i < xs.length
  · refine .inr ⟨⟨xs, xs[i], q, by simp [hlt]⟩, Pv (i + 1), fun σ' H' p' => ⟨xs.length - (i + 1), by omega, rfl, hlt, p'⟩, fun x H' y => ?_⟩
    obtain ⟨T, x1, rfl, hT, rfl, e1⟩ := y
    exact hs i x1 T σ H (e1 xs q) hT p
  · have e : i = xs.length := by omega
    subst e
    exact .inl ⟨⟨xs, q, Nat.le_refl _⟩, hd σ H p⟩
/-- [F(i) for i in range(n)] -/
theorem lc_rangeI {lo : Int} {n : Nat} {g : TG} {te : TE} {ws : List Nat} {σ : L2.St} {H1 : Hp} {D : Addr} {Qd : Hp → Prop} (F : Nat → Int) (hD : H1 D = none) (hz : n ≤ sizeLine)
    (hs : ∀ (i : Nat) (H : Hp) (Q' : VK), i < n → Same H1 H → (∀ H4, Same H H4 → Q' (.int (F i)) H4) → g (.int (lo + i)) (wipe σ ws) H fun σ2 H2 => wipe σ2 ws = wipe σ ws ∧ te σ2 H2 Q')
    (hd : ∀ H, Same H1 H → H D = some (.lst (((List.range n).map F).map V.int)) → Qd H) :
    ∃ W : Nat → Nat → Hp → Prop, (∃ m, W 0 m (upd H1 D (.lst []))) ∧ ∀ i m H, W i m H →
      ((Itr lo n).stop i H ∧ Qd H) ∨ ((Itr lo n).go i H ∧ ∃ Nx : Hp → Prop, (∀ H', Nx H' → ∃ m', m' < m ∧ W (i + 1) m' H') ∧ ∀ x H', (Itr lo n).yld i H x H' → g x (wipe σ ws) H' fun σ2 H2 => wipe σ2 ws = wipe σ ws ∧ tYes σ2 H2 fun b H3 =>
        if b = true then te σ2 H3 fun y H4 => ∃ acc, H4 D = some (.lst acc) ∧ acc.length < sizeLine ∧ Nx (upd H4 D (.lst (acc ++ [y]))) else Nx H3) := by
  refine lc_range (AtTurn D H1 (isInts F)) (AtTurn.start hD) (fun i H hi A => ?_) (fun H A => ?_)
  · rw [yes_eq]
    exact hs i H _ hi A.same fun H4 s4 => A.next hD (isInts_stay D _) s4 (by omega) rfl
  · obtain ⟨acc, h1, h2, h3⟩ := A.acc
    refine hd H A.same ?_
    rw [h1, ints_acc h2 h3]
/-- [F(x) for x in xs], numbers in, numbers out -/
theorem lc_listI {K : PySem.W.Frag} {a : Addr} {us : List Int} {g : TG} {te : TE} {ws : List Nat} {σ : L2.St} {H1 : Hp} {D : Addr} {Qd : Hp → Prop} (F : Int → Int) (hD : H1 D = none) (hx : SqL K H1 a (us.map V.int)) (hz : us.length ≤ sizeLine)
    (hs : ∀ (i : Nat) (u : Int) (H : Hp) (Q' : VK), us[i]? = some u → Same H1 H → (∀ H4, Same H H4 → Q' (.int (F u)) H4) → g (.int u) (wipe σ ws) H fun σ2 H2 => wipe σ2 ws = wipe σ ws ∧ te σ2 H2 Q')
    (hd : ∀ H, Same H1 H → H D = some (.lst ((us.map F).map V.int)) → Qd H) :
    ∃ W : Nat → Nat → Hp → Prop, (∃ m, W 0 m (upd H1 D (.lst []))) ∧ ∀ i m H, W i m H →
      ((Itl K a).stop i H ∧ Qd H) ∨ ((Itl K a).go i H ∧ ∃ Nx : Hp → Prop, (∀ H', Nx H' → ∃ m', m' < m ∧ W (i + 1) m' H') ∧ ∀ x H', (Itl K a).yld i H x H' → g x (wipe σ ws) H' fun σ2 H2 => wipe σ2 ws = wipe σ ws ∧ tYes σ2 H2 fun b H3 =>
        if b = true then te σ2 H3 fun y H4 => ∃ acc, H4 D = some (.lst acc) ∧ acc.length < sizeLine ∧ Nx (upd H4 D (.lst (acc ++ [y]))) else Nx H3) := by
  refine lc_list (xs := us.map V.int) (AtTurn D H1 (isInts fun i => (us.map F).getD i 0)) (AtTurn.start hD) (fun i H _ A => A.same.seq hx) (fun i x H ex A => ?_) (fun H A => ?_)
  · obtain ⟨u, eu, rfl⟩ := ints_get ex
    rw [yes_eq]
    refine hs i u H _ eu A.same fun H4 s4 => A.next hD (isInts_stay D _) s4 (by have := (List.getElem?_eq_some_iff.mp eu).1; omega) ?_
    show V.int _ = V.int _
    dsimp only
    rw [List.getD_eq_getElem?_getD, List.getElem?_map, eu]
    rfl
  · refine hd H A.same (AtTurn.ints (D := D) (H1 := H1) ?_)
    rw [List.length_map]
    simpa using A
theorem putF_le {f : Str} {y : V} {fs : List (Str × V)} {k : Nat} (h : fs.length ≤ k) : (putF f y fs).length ≤ k + 1 := by
  have := length_putF f y fs
  omega
theorem small_f {fs : List (Str × V)} {k : Nat} (h : fs.length ≤ k) (hk : k < 1000 := by decide) : fs.length < 1000 := by omega
/-- a list of references to things, each as R says -/
def ListOf {α : Type} (R : Hp → Addr → α → Prop) (H : Hp) (a : Addr) (l : List α) : Prop := ∃ refs : List Addr, H a = some (.lst (refs.map V.ref)) ∧ refs.length = l.length ∧ (∀ r ∈ refs, r ≠ a) ∧ ∀ (i : Nat) (r : Addr) (x : α), refs[i]? = some r → l[i]? = some x → R H r x
theorem ListOf.nil {α : Type} {R : Hp → Addr → α → Prop} {H : Hp} {a : Addr} (h : H a = some (.lst [])) : ListOf R H a [] := ⟨[], h, rfl, (fun r z => nomatch z), fun i r x e _ => by simp at e⟩
theorem ListOf.same {α : Type} {R : Hp → Addr → α → Prop} (st : ∀ H H' r x, Same H H' → R H r x → R H' r x) {H H' : Hp} {a : Addr} {l : List α} (h : ListOf R H a l) (s : Same H H') : ListOf R H' a l := by
  obtain ⟨refs, h1, h2, h0, h3⟩ := h
  exact ⟨refs, s _ _ h1, h2, h0, fun i r x e1 e2 => st _ _ _ _ s (h3 i r x e1 e2)⟩
/-- one more at the end; all but the list's own cell is as it was -/
theorem ListOf.snoc {α : Type} {R : Hp → Addr → α → Prop} {H H1 : Hp} {a p : Addr} {l : List α} {x : α} (h : ListOf R H a l) (s : Same H H1) (stX : ∀ r y o, r ≠ a → R H1 r y → R (upd H1 a o) r y) (st : ∀ r y, R H r y → R H1 r y) (hpa : p ≠ a) (hp : R H1 p x) :
    ∃ refs : List Addr, H1 a = some (.lst (refs.map V.ref)) ∧ refs.length = l.length ∧ ListOf R (upd H1 a (.lst (refs.map V.ref ++ [V.ref p]))) a (l ++ [x]) := by
  obtain ⟨refs, h1, h2, h0, h3⟩ := h
  have all : ∀ r ∈ refs ++ [p], r ≠ a := fun r hr => by
    rcases List.mem_append.mp hr with z | z
    · exact h0 r z
    · rw [List.mem_singleton.mp z]; exact hpa
  refine ⟨refs, s _ _ h1, h2, refs ++ [p], ?_, by rw [List.length_append, List.length_append, h2]; rfl, all, fun i r y e1 e2 => stX _ _ _ (all r (List.mem_of_getElem? e1)) ?_⟩
  · rw [upd_same, List.map_append]
    rfl
  · by_cases hi : i < refs.length
    · rw [List.getElem?_append_left hi] at e1
      rw [List.getElem?_append_left (by omega)] at e2
      exact st _ _ (h3 i r y e1 e2)
    · rw [List.getElem?_append_right (by omega)] at e1
      rw [List.getElem?_append_right (by omega)] at e2
      rw [h2] at e1
      have e0 : i - l.length = 0 := by
        rcases Nat.eq_zero_or_pos (i - l.length) with z | z
        · exact z
        · rw [List.getElem?_eq_none (by simp; omega)] at e1; cases e1
      rw [e0] at e1 e2
      cases e1
      cases e2
      exact hp
/-- a class of the module: its object, its name -/
structure ClsIn (K : PySem.W.Frag) (mg : Str → Option Value) (x : Str) (C : Addr) : Prop where
  cl : Cls K C
  mg : mg x = some (.ref C)
  makes : PySem.W.makesIn K C = true
  kp : PySem.W.keepIn K (.ref C) = true
/-- a method of it -/
def MethAt (K : PySem.W.Frag) (C : Addr) (m q : Str) (st : Stmt) : Prop := ∃ f fd, Fun K m q st f fd ∧ Meth K C m f
/-- a method keeps its promise -/
def OkM (P : Program) (w : World) (K : PySem.W.Frag) (mg : Str → Option Value) (base : Heap) (CX : CXT) (k : Nat) (C : Addr) (m : Str) (ps : List Str) (sp : Sp) : Prop :=
  ∃ f fd, Meth K C m f ∧ Binds K fd ps [] ∧ FnOk P w K mg base CX k f fd ps sp
section
variable {P : Program} {w : World} {K : PySem.W.Frag} {mg : Str → Option Value} {base : Heap}
theorem MethAt.ok {C : Addr} {m qn : Str} {st : Stmt} {N ps : List Str} {k : Nat} {sp : Sp} (D : MethAt K C m qn st) (S : FnScope N ps (defScope st))
    (hb : ∀ (kV doc pm : Value) (an : Option Addr) (cdv ct : Value) (us : List Value), us.length = ps.length → bindArgs (PySem.W.fnOf m qn (defArgs st) (defBody st) (defScope st) .none kV doc pm an cdv ct) ⟨us, []⟩ = pure (ps.zip us))
    (len : ∀ vs H Q E, sp vs H Q E → vs.length = ps.length)
    (hbody : ∀ (f : Addr) (cdv : Value) (A : Around) (outer : List Env) (s : Shared) (H : Hp) (vs : List V) (Q : VK) (E : XK), Room k (A.deeper (envOfC qn (defScope st) s.heap.objs.size f cdv)) → sp vs H Q E →
      ∃ t, PSs (cxOf CX0 P w K mg base N qn (defScope st) f cdv A outer s H E).nox (defBody st) t ∧ t { nx := fun _ H' => Q .non H', rt := Q } (start N vs) H) : OkM P w K mg base CX0 (k + 1) C m ps sp := by
  obtain ⟨f, fd, F, hm⟩ := D
  exact ⟨f, fd, hm, F.binds hb, F.ok S len fun cdv A outer s H vs Q E hr h => hbody f cdv A outer s H vs Q E hr h⟩
end
section
variable {X : Cx} {CX : CXT} {k : Nat} {C : Addr} {ps : List Str} {sp : Sp} {E : XK} {x m : Str} {p pos apos : Pos} {o e : Expr} {es : List Expr} {ta : TE} {t : TA}
/-- o.m() -/
theorem pe_m0' {pl : Sem Bool} (h : OkM X.prog X.w X.K X.mg X.base CX k C m ps sp) (c : Cls X.K C) (hr : Room k X.A) (hx : Passes CX X E) (ho : PE X o ta)
    (ht : eval (.Call (.Attribute o m apos) [] [] pos) X.env = (do
      let ov ← eval o X.env
      standAt apos.atName
      let (f, first) ← holding [ov] (getMethod ov m pl)
      callWith pos f first (backTo pos (starEach [] X.env)) (backToKw pos (keywordEach [] X.env))) := by rfl) :
    PE X (.Call (.Attribute o m apos) [] [] pos) (tMeth C m sp [] E ta tNil) := by
  obtain ⟨f, fd, hm, b, G⟩ := h
  exact pe_meth0 (pl := pl) ho c hm G hr b .nil hx ht
/-- o.m(e, ..) -/
theorem pe_m' {pl : Sem Bool} (h : OkM X.prog X.w X.K X.mg X.base CX k C m ps sp) (c : Cls X.K C) (hr : Room k X.A) (hx : Passes CX X E) (ho : PE X o ta) (ha : PA X (e :: es) t)
    (hst : starEach (e :: es) X.env = (false, eval e X.env) :: starEach es X.env := by rfl) (hpl : (backTo pos (starEach es X.env)).any (·.1) = false := by rfl)
    (ht : eval (.Call (.Attribute o m apos) (e :: es) [] pos) X.env = (do
      let ov ← eval o X.env
      standAt apos.atName
      let (f, first) ← holding [ov] (getMethod ov m pl)
      callWith pos f first (backTo pos (starEach (e :: es) X.env)) (backToKw pos (keywordEach [] X.env))) := by rfl) :
    PE X (.Call (.Attribute o m apos) (e :: es) [] pos) (tMeth C m sp [] E ta t) := by
  obtain ⟨f, fd, hm, b, G⟩ := h
  exact pe_meth (pl := pl) ho c hm G hr b .nil hx ha hst hpl ht
/-- C(e, ..) -/
theorem pe_new (h : OkM X.prog X.w X.K X.mg X.base CX0 k C "__init__" ps sp) (c : ClsIn X.K X.mg x C) (hr : Room (k + 1) X.A) (hg : Gl X x) (ha : PA X (e :: es) t) (hdb : (x == ("__debug__" : Str)) = false := by decide)
    (he : starEach (e :: es) X.env = (false, eval e X.env) :: starEach es X.env := by rfl) (hpl : (backTo pos (starEach es X.env)).any (·.1) = false := by rfl) : PE X (.Call (.Name x p) (e :: es) [] pos) (tMake C sp [] E0 t) := by
  obtain ⟨f, fd, hm, b, G⟩ := h
  exact pe_make ⟨c.makes, hm.at_, hm.fn, c.kp⟩ G hr hg c.mg b .nil pass0 ha hdb he hpl
theorem pe_new0 (h : OkM X.prog X.w X.K X.mg X.base CX0 k C "__init__" ps sp) (c : ClsIn X.K X.mg x C) (hr : Room (k + 1) X.A) (hg : Gl X x) (hdb : (x == ("__debug__" : Str)) = false := by decide) : PE X (.Call (.Name x p) [] [] pos) (tMake C sp [] E0 tNil) := by
  obtain ⟨f, fd, hm, b, G⟩ := h
  exact pe_make0 ⟨c.makes, hm.at_, hm.fn, c.kp⟩ G hr hg c.mg b .nil pass0 hdb
end
end TW

set_option Elab.async false
set_option linter.all false
set_option maxRecDepth 100000
namespace TW
open PySem PySem.Spec PyProof.Rows L2
def RowAt (H : Hp) (r : Addr) (row : List Int) : Prop := H r = some (.lst (row.map V.int))
theorem rowAt_same : ∀ (H H' : Hp) (r : Addr) (x : List Int), Same H H' → RowAt H r x → RowAt H' r x := fun _ _ _ _ s h => s _ _ h
theorem rowAt_X : ∀ (D : Addr) (H H' : Hp) (r : Addr) (x : List Int), r ≠ D → SameX D H H' → RowAt H r x → RowAt H' r x := fun D H H' r x n s h => s _ _ n h
abbrev GridAt (H : Hp) (a : Addr) (g : List (List Int)) : Prop := ListOf RowAt H a g
def RepX {α : Type} (Rx : Hp → Addr → α → Prop) (D : Addr) (out : List α) : Nat → V → Hp → Prop := fun i v H => ∃ r x, v = .ref r ∧ r ≠ D ∧ out[i]? = some x ∧ Rx H r x
theorem RepX.stay {α : Type} {Rx : Hp → Addr → α → Prop} (stX : ∀ D H H' r x, r ≠ D → SameX D H H' → Rx H r x → Rx H' r x) (D : Addr) (out : List α) : ∀ (i : Nat) (v : V) (H H' : Hp), RepX Rx D out i v H → SameX D H H' → RepX Rx D out i v H' :=
  fun i v H H' ⟨r, x, e, n, o, h⟩ s => ⟨r, x, e, n, o, stX D H H' r x n s h⟩
theorem AtTurn.list {α : Type} {Rx : Hp → Addr → α → Prop} {D : Addr} {H1 H : Hp} {out : List α} (A : AtTurn D H1 (RepX Rx D out) out.length H) : ListOf Rx H D out := by
  obtain ⟨acc, h1, h2, h3⟩ := A.acc
  have ex : ∃ refs : List Addr, acc = refs.map V.ref := by
    have : ∀ l : List V, (∀ v ∈ l, ∃ r, v = V.ref r) → ∃ refs : List Addr, l = refs.map V.ref := by
      intro l
      induction l with
      | nil => intro _; exact ⟨[], rfl⟩
      | cons v l ih =>
        intro h
        obtain ⟨r, rfl⟩ := h v List.mem_cons_self
        obtain ⟨rs, rfl⟩ := ih fun u hu => h u (List.mem_cons_of_mem _ hu)
        exact ⟨r :: rs, rfl⟩
    refine this acc fun v hv => ?_
    obtain ⟨i, hi, rfl⟩ := List.getElem_of_mem hv
    obtain ⟨r, x, e, _⟩ := h3 i _ (List.getElem?_eq_getElem hi)
    exact ⟨r, e⟩
  obtain ⟨refs, rfl⟩ := ex
  rw [List.length_map] at h2
  refine ⟨refs, h1, h2, fun r hr => ?_, fun i r x e1 e2 => ?_⟩
  · obtain ⟨i, hi, rfl⟩ := List.getElem_of_mem hr
    obtain ⟨r', x, e, n, _⟩ := h3 i (.ref refs[i]) (by rw [List.getElem?_map, List.getElem?_eq_getElem hi]; rfl)
    cases e
    exact n
  · obtain ⟨r', x', e, n, o, h⟩ := h3 i (.ref r) (by rw [List.getElem?_map, e1]; rfl)
    cases e
    rw [e2] at o
    cases o
    exact h
section
variable {α : Type} {Rx : Hp → Addr → α → Prop} {K : PySem.W.Frag} {g : TG} {te : TE} {ws : List Nat} {σ : L2.St} {H1 : Hp} {D : Addr} {Qd : Hp → Prop}
/-- [F(x) for x in xs], the results as Rx says -/
theorem lc_listX {a : Addr} {xs : List V} (stX : ∀ D H H' r x, r ≠ D → SameX D H H' → Rx H r x → Rx H' r x) (out : List α) (ho : out.length = xs.length) (hD : H1 D = none) (hx : SqL K H1 a xs) (hz : xs.length ≤ sizeLine)
    (hs : ∀ (i : Nat) (x : V) (y : α) (H : Hp) (Q' : VK), xs[i]? = some x → out[i]? = some y → Same H1 H → (∃ o, H D = some o) → (∀ r H4, Same H H4 → r ≠ D → Rx H4 r y → Q' (.ref r) H4) → g x (wipe σ ws) H fun σ2 H2 => wipe σ2 ws = wipe σ ws ∧ te σ2 H2 Q')
    (hd : ∀ H, Same H1 H → ListOf Rx H D out → Qd H) :
    ∃ W : Nat → Nat → Hp → Prop, (∃ m, W 0 m (upd H1 D (.lst []))) ∧ ∀ i m H, W i m H →
      ((Itl K a).stop i H ∧ Qd H) ∨ ((Itl K a).go i H ∧ ∃ Nx : Hp → Prop, (∀ H', Nx H' → ∃ m', m' < m ∧ W (i + 1) m' H') ∧ ∀ x H', (Itl K a).yld i H x H' → g x (wipe σ ws) H' fun σ2 H2 => wipe σ2 ws = wipe σ ws ∧ tYes σ2 H2 fun b H3 =>
        if b = true then te σ2 H3 fun y H4 => ∃ acc, H4 D = some (.lst acc) ∧ acc.length < sizeLine ∧ Nx (upd H4 D (.lst (acc ++ [y]))) else Nx H3) := by
  refine lc_list (xs := xs) (AtTurn D H1 (RepX Rx D out)) (AtTurn.start hD) (fun i H _ A => A.same.seq hx) (fun i x H ex A => ?_) (fun H A => hd H A.same (AtTurn.list (by rw [ho]; exact A)))
  have hi := (List.getElem?_eq_some_iff.mp ex).1
  have ey : out[i]? = some out[i] := List.getElem?_eq_getElem (by omega)
  rw [yes_eq]
  obtain ⟨acc, hacc, _⟩ := A.acc
  exact hs i x _ H _ ex ey A.same ⟨_, hacc⟩ fun r H4 s4 n h => A.next hD (RepX.stay stX D out) s4 (by omega) ⟨r, _, rfl, n, ey, h⟩
/-- over a range -/
theorem lc_rangeX {lo : Int} {n : Nat} (stX : ∀ D H H' r x, r ≠ D → SameX D H H' → Rx H r x → Rx H' r x) (out : List α) (ho : out.length = n) (hD : H1 D = none) (hz : n ≤ sizeLine)
    (hs : ∀ (i : Nat) (y : α) (H : Hp) (Q' : VK), i < n → out[i]? = some y → Same H1 H → (∃ o, H D = some o) → (∀ r H4, Same H H4 → r ≠ D → Rx H4 r y → Q' (.ref r) H4) → g (.int (lo + i)) (wipe σ ws) H fun σ2 H2 => wipe σ2 ws = wipe σ ws ∧ te σ2 H2 Q')
    (hd : ∀ H, Same H1 H → ListOf Rx H D out → Qd H) :
    ∃ W : Nat → Nat → Hp → Prop, (∃ m, W 0 m (upd H1 D (.lst []))) ∧ ∀ i m H, W i m H →
      ((Itr lo n).stop i H ∧ Qd H) ∨ ((Itr lo n).go i H ∧ ∃ Nx : Hp → Prop, (∀ H', Nx H' → ∃ m', m' < m ∧ W (i + 1) m' H') ∧ ∀ x H', (Itr lo n).yld i H x H' → g x (wipe σ ws) H' fun σ2 H2 => wipe σ2 ws = wipe σ ws ∧ tYes σ2 H2 fun b H3 =>
        if b = true then te σ2 H3 fun y H4 => ∃ acc, H4 D = some (.lst acc) ∧ acc.length < sizeLine ∧ Nx (upd H4 D (.lst (acc ++ [y]))) else Nx H3) := by
  refine lc_range (AtTurn D H1 (RepX Rx D out)) (AtTurn.start hD) (fun i H hi A => ?_) (fun H A => hd H A.same (AtTurn.list (by rw [ho]; exact A)))
  have ey : out[i]? = some out[i] := List.getElem?_eq_getElem (by omega)
  rw [yes_eq]
  obtain ⟨acc, hacc, _⟩ := A.acc
  exact hs i _ H _ hi ey A.same ⟨_, hacc⟩ fun r H4 s4 n h => A.next hD (RepX.stay stX D out) s4 (by omega) ⟨r, _, rfl, n, ey, h⟩
/-- numbers out of a list of anything -/
theorem lc_listV {a : Addr} {xs : List V} (out : List Int) (ho : out.length = xs.length) (hD : H1 D = none) (hx : SqL K H1 a xs) (hz : xs.length ≤ sizeLine)
    (hs : ∀ (i : Nat) (x : V) (y : Int) (H : Hp) (Q' : VK), xs[i]? = some x → out[i]? = some y → Same H1 H → (∀ H4, Same H H4 → Q' (.int y) H4) → g x (wipe σ ws) H fun σ2 H2 => wipe σ2 ws = wipe σ ws ∧ te σ2 H2 Q')
    (hd : ∀ H, Same H1 H → RowAt H D out → Qd H) :
    ∃ W : Nat → Nat → Hp → Prop, (∃ m, W 0 m (upd H1 D (.lst []))) ∧ ∀ i m H, W i m H →
      ((Itl K a).stop i H ∧ Qd H) ∨ ((Itl K a).go i H ∧ ∃ Nx : Hp → Prop, (∀ H', Nx H' → ∃ m', m' < m ∧ W (i + 1) m' H') ∧ ∀ x H', (Itl K a).yld i H x H' → g x (wipe σ ws) H' fun σ2 H2 => wipe σ2 ws = wipe σ ws ∧ tYes σ2 H2 fun b H3 =>
        if b = true then te σ2 H3 fun y H4 => ∃ acc, H4 D = some (.lst acc) ∧ acc.length < sizeLine ∧ Nx (upd H4 D (.lst (acc ++ [y]))) else Nx H3) := by
  refine lc_list (xs := xs) (AtTurn D H1 (isInts fun i => out.getD i 0)) (AtTurn.start hD) (fun i H _ A => A.same.seq hx) (fun i x H ex A => ?_) (fun H A => hd H A.same (AtTurn.ints (by rw [ho]; exact A)))
  have hi := (List.getElem?_eq_some_iff.mp ex).1
  have ey : out[i]? = some out[i] := List.getElem?_eq_getElem (by omega)
  rw [yes_eq]
  refine hs i x _ H _ ex ey A.same fun H4 s4 => A.next hD (isInts_stay D _) s4 (by omega) ?_
  show V.int _ = V.int _
  dsimp only
  rw [List.getD_eq_getElem?_getD, ey]
  rfl
end
theorem new_ne {H : Hp} {p D : Addr} (h : H p = none) (hD : ∃ o, H D = some o) : p ≠ D := by
  obtain ⟨o, e⟩ := hD
  exact (ne_of_none e h).symm
/-- a promise that a new grid comes out -/
def AnsG (H : Hp) (g : List (List Int)) (Q : VK) : Prop := ∀ p H', Same H H' → H p = none → GridAt H' p g → Q (.ref p) H'
theorem cut_from (l : List Int) (k : Nat) : cutV (l.map V.int) (some (k : Int)) none = (l.drop k).map V.int := by
  unfold cutV
  rw [HT.sIx_nat, HT.sIx_none, List.length_map, List.map_drop]
  by_cases h : k ≤ l.length
  · rw [Nat.min_eq_left h, List.take_of_length_le (by simp)]
  · rw [Nat.min_eq_right (by omega), List.drop_eq_nil_of_le (by simp), List.drop_eq_nil_of_le (by simp; omega)]
    simp
theorem cut_to (l : List Int) (k : Nat) : cutV (l.map V.int) none (some (k : Int)) = (l.take k).map V.int := by
  unfold cutV
  rw [HT.sIx_nat, HT.sIx_none, List.length_map, List.map_take, List.drop_zero, Nat.sub_zero]
  by_cases h : k ≤ l.length
  · rw [Nat.min_eq_left h]
  · rw [Nat.min_eq_right (by omega), List.take_of_length_le (by simp), List.take_of_length_le (by simp; omega)]
theorem cut_fromV (l : List V) (k : Nat) : cutV l (some (k : Int)) none = l.drop k := by
  unfold cutV
  rw [HT.sIx_nat, HT.sIx_none]
  by_cases h : k ≤ l.length
  · rw [Nat.min_eq_left h, List.take_of_length_le (by simp)]
  · rw [Nat.min_eq_right (by omega), List.drop_eq_nil_of_le (by simp), List.drop_eq_nil_of_le (by omega)]
    simp
theorem cut_toV (l : List V) (k : Nat) : cutV l none (some (k : Int)) = l.take k := by
  unfold cutV
  rw [HT.sIx_nat, HT.sIx_none, List.drop_zero, Nat.sub_zero]
  by_cases h : k ≤ l.length
  · rw [Nat.min_eq_left h]
  · rw [Nat.min_eq_right (by omega), List.take_of_length_le (Nat.le_refl _), List.take_of_length_le (by omega)]
theorem cut_mid (l : List Int) (i n : Nat) : cutV (l.map V.int) (some (i : Int)) (some ((i + n : Nat) : Int)) = ((l.drop i).take n).map V.int := by
  unfold cutV
  rw [HT.sIx_nat, HT.sIx_nat, List.length_map, List.map_take, List.map_drop]
  by_cases h : i ≤ l.length
  · rw [Nat.min_eq_left h]
    by_cases h2 : i + n ≤ l.length
    · rw [Nat.min_eq_left h2, Nat.add_sub_cancel_left]
    · rw [Nat.min_eq_right (by omega), List.take_of_length_le (by simp), List.take_of_length_le (by simp; omega)]
  · rw [Nat.min_eq_right (a := i) (b := l.length) (by omega), List.drop_eq_nil_of_le (by simp), List.drop_eq_nil_of_le (by simp; omega)]
    simp
end TW

set_option Elab.async false
set_option linter.all false
set_option maxRecDepth 100000
namespace TW
open PySem PyProof.Rows
abbrev IsZipF (h : Heap) (z TI TO : Addr) (f0 : Value) (f : Bool) : Prop :=
  h.get? z = some { cls := .type "zip", dict := none, data := .fields #[f0, .bool f, .bool false, .ref TI, .ref TO], slots := #[] }
section
variable {prog : Program} {w : World} {A : Around} {E : Value → Shared → Prop} {s : Shared}
theorem alive {a : Addr} {o : Obj} {Q : Option Obj → Shared → Prop} (ho : s.heap.get? a = some o) (h : Q (some o) s) : wpAny (model prog w) A (loadIfAlive a) Q E s := by
  have h' : Q (s.heap.get? a) s := by rw [ho]; exact h
  exact fun _ _ _ => h'
theorem owned_out {z TI TO T : Addr} {f : Bool} {oT : Obj} {Q : Bool → Shared → Prop} (gz : IsZipF s.heap z TI TO (rawInt T) f) (gT : s.heap.get? T = some oT) (h : ∀ h', IsZipF h' z TI TO (rawInt T) true → Heap.SameBut z s.heap h' → Q false { s with heap := h' }) :
    wpAny (model prog w) A (Builtin.SmallTypes.ownedTupleIsFree (.ref z)) Q E s := by
  unfold Builtin.SmallTypes.ownedTupleIsFree
  refine wpAny_bind (wpAny_field gz rfl (x := rawInt T) rfl ?_)
  show wpAny _ _ (loadIfAlive ((T : Int).toNat) >>= _) _ _ _
  rw [Int.toNat_natCast]
  refine wpAny_bind (alive gT ?_)
  simp only [Option.isNone_some, Bool.false_eq_true, if_false]
  refine wpAny_bind (wpAny_field gz rfl (x := .bool f) rfl ?_)
  cases f with
  | true =>
    rw [if_neg (show ¬ ((Value.bool true != Value.bool true) = true) from Bool.false_ne_true)]
    exact wpAny_pure (h s.heap gz (Heap.SameBut.refl _ _))
  | false =>
    rw [if_pos (show (Value.bool false != Value.bool true) = true from rfl)]
    refine wpAny_bind (wpAny_setField_rec gz (by simp) fun h' g' s' => ?_)
    exact wpAny_pure (h h' g' s')
theorem zip3_out {z TI TO i1 i2 i3 l1 l2 l3 T : Addr} {k : Nat} {f : Bool} {oT : Obj} {xs ys zs : Array Value} {x y u : Value} {Q : Value → Shared → Prop} (D : Apart3 z TI TO i1 i2 i3 l1 l2 l3)
    (gz : IsZipF s.heap z TI TO (rawInt T) f) (gT : s.heap.get? T = some oT) (gI : IsTrip s.heap TI (.ref i1) (.ref i2) (.ref i3))
    (h1 : s.heap.IsListIter i1 l1 k) (h2 : s.heap.IsListIter i2 l2 k) (h3 : s.heap.IsListIter i3 l3 k) (hl1 : s.heap.IsList l1 xs) (hl2 : s.heap.IsList l2 ys) (hl3 : s.heap.IsList l3 zs)
    (hx : xs[k]? = some x) (hy : ys[k]? = some y) (hu : zs[k]? = some u)
    (fin : ∀ h', IsZipF h' z TI TO (rawInt T) true → h'.IsListIter i1 l1 (k + 1) → h'.IsListIter i2 l2 (k + 1) → h'.IsListIter i3 l3 (k + 1) → IsTrip h' s.heap.objs.size x y u → h'.objs.size = s.heap.objs.size + 1 →
      KeepZ z TO i1 i2 i3 s.heap h' → (∀ ob, s.heap.get? TO = some ob → h'.get? TO = some ob) → Q (.ref s.heap.objs.size) { s with heap := h' }) :
    wpAny (model prog w) A (Builtin.«zip.__next__» ⟨[.ref z], []⟩) (fun r s' => ∃ v, r = .done (.ret v) ∧ Q v s') E s := by
  obtain ⟨n1z, n1O, n1I⟩ := D.n1
  obtain ⟨n2z, n2O, n2I⟩ := D.n2
  obtain ⟨n3z, n3O, n3I⟩ := D.n3
  obtain ⟨n12, n13, n23⟩ := D.ab
  obtain ⟨m1z, m1O, m11, m12, m13⟩ := D.m1
  obtain ⟨m2z, m2O, m21, m22, m23⟩ := D.m2
  obtain ⟨m3z, m3O, m31, m32, m33⟩ := D.m3
  have nOz := D.to_
  show wpAny _ _ (field (.ref z) 2 >>= _) _ _ s
  refine wpAny_bind (wpAny_field gz rfl (x := .bool false) rfl ?_)
  show wpAny _ _ (field (.ref z) 3 >>= _) _ _ s
  refine wpAny_bind (wpAny_field gz rfl (x := .ref TI) rfl ?_)
  refine wpAny_bind (wpAny_seqItems gI rfl ?_)
  show wpAny _ _ (Builtin.SmallTypes.ownedTupleIsFree (.ref z) >>= _) _ _ s
  refine wpAny_bind (owned_out gz gT fun hA gA sA => ?_)
  simp only [Bool.false_eq_true, if_false]
  simp only [← Array.forIn_toList, List.forIn_cons, List.forIn_nil]
  refine wpAny_bind ?_
  refine wpAny_bind (wpAny_bind (wpAny_holding ?_))
  show wpAny _ _ (Builtin.SmallTypes.nextOf (.ref i1) >>= _) _ _ _
  refine wpAny_bind (wpAny_nextOf_list_item (h1.extBut sA.extBut n1z) (hl1.extBut sA.extBut m1z) hx fun hB iB sB => wpAny_pure ?_)
  refine wpAny_pure ?_
  refine wpAny_bind (wpAny_bind (wpAny_holding ?_))
  show wpAny _ _ (Builtin.SmallTypes.nextOf (.ref i2) >>= _) _ _ _
  refine wpAny_bind (wpAny_nextOf_list_item ((h2.extBut sA.extBut n2z).extBut sB.extBut (Ne.symm n12)) ((hl2.extBut sA.extBut m2z).extBut sB.extBut m21) hy fun hD iD sD => wpAny_pure ?_)
  refine wpAny_pure ?_
  refine wpAny_bind (wpAny_bind (wpAny_holding ?_))
  show wpAny _ _ (Builtin.SmallTypes.nextOf (.ref i3) >>= _) _ _ _
  refine wpAny_bind (wpAny_nextOf_list_item (((h3.extBut sA.extBut n3z).extBut sB.extBut (Ne.symm n13)).extBut sD.extBut (Ne.symm n23)) (((hl3.extBut sA.extBut m3z).extBut sB.extBut m31).extBut sD.extBut m32) hu fun hF iF sF => wpAny_pure ?_)
  refine wpAny_pure (wpAny_pure ?_)
  refine wpAny_bind (wpAny_newTuple (hsz := by show 3 ≤ sizeLine; decide) ?_)
  have sz : hF.objs.size = s.heap.objs.size := by rw [sF.1, sD.1, sB.1, sA.1]
  have up : ∀ p ob, p ≠ z → p ≠ i1 → p ≠ i2 → p ≠ i3 → s.heap.get? p = some ob → (hF.push { cls := .type "tuple", data := .seq #[x, y, u] }).get? p = some ob := fun p ob p1 p2 p3 p4 q =>
    Heap.get?_push_of_some _ (sF.extBut _ _ p4 (sD.extBut _ _ p3 (sB.extBut _ _ p2 (sA.extBut _ _ p1 q))))
  refine wpAny_pure ⟨_, rfl, ?_⟩
  show Q (.ref hF.objs.size) _
  have tS : IsTrip (hF.push { cls := .type "tuple", data := .seq #[x, y, u] }) hF.objs.size x y u := Heap.get?_push_size _ rfl
  rw [sz] at tS ⊢
  refine fin _ ?_ ?_ ?_ ?_ tS (by rw [Heap.size_push, sz]) (fun p ob p1 _ p3 p4 p5 q => up p ob p1 p3 p4 p5 q) fun ob q => up TO ob nOz (Ne.symm n1O) (Ne.symm n2O) (Ne.symm n3O) q
  · exact Heap.get?_push_of_some _ (sF.extBut _ _ (Ne.symm n3z) (sD.extBut _ _ (Ne.symm n2z) (sB.extBut _ _ (Ne.symm n1z) gA)))
  · exact ((iB.extBut sD.extBut n12).extBut sF.extBut n13).at fun ob q => Heap.get?_push_of_some _ q
  · exact (iD.extBut sF.extBut n23).at fun ob q => Heap.get?_push_of_some _ q
  · exact iF.at fun ob q => Heap.get?_push_of_some _ q
theorem zip3_out_stop {z TI TO i1 i2 i3 l1 l2 l3 T : Addr} {k : Nat} {f : Bool} {oT : Obj} {xs : Array Value} {Q : Fin → Shared → Prop} (calm : A.handled = none) (D : Apart3 z TI TO i1 i2 i3 l1 l2 l3)
    (gz : IsZipF s.heap z TI TO (rawInt T) f) (gT : s.heap.get? T = some oT) (gI : IsTrip s.heap TI (.ref i1) (.ref i2) (.ref i3)) (h1 : s.heap.IsListIter i1 l1 k) (hl1 : s.heap.IsList l1 xs) (hx : xs[k]? = none)
    (fin : ∀ h' e, KeepZ z TO i1 i2 i3 s.heap h' → (∃ ob, h'.get? e = some ob ∧ ob.cls = .type "StopIteration") → E (.ref e) { s with heap := h' }) :
    wpAny (model prog w) A (Builtin.«zip.__next__» ⟨[.ref z], []⟩) Q E s := by
  obtain ⟨n1z, n1O, n1I⟩ := D.n1
  obtain ⟨m1z, m1O, m11, m12, m13⟩ := D.m1
  show wpAny _ _ (field (.ref z) 2 >>= _) _ _ s
  refine wpAny_bind (wpAny_field gz rfl (x := .bool false) rfl ?_)
  show wpAny _ _ (field (.ref z) 3 >>= _) _ _ s
  refine wpAny_bind (wpAny_field gz rfl (x := .ref TI) rfl ?_)
  refine wpAny_bind (wpAny_seqItems gI rfl ?_)
  show wpAny _ _ (Builtin.SmallTypes.ownedTupleIsFree (.ref z) >>= _) _ _ s
  refine wpAny_bind (owned_out gz gT fun hA gA sA => ?_)
  simp only [Bool.false_eq_true, if_false]
  simp only [← Array.forIn_toList, List.forIn_cons, List.forIn_nil]
  refine wpAny_bind ?_
  refine wpAny_bind (wpAny_bind (wpAny_holding ?_))
  show wpAny _ _ (Builtin.SmallTypes.nextOf (.ref i1) >>= _) _ _ _
  refine wpAny_bind (wpAny_nextOf_list_end calm (h1.extBut sA.extBut n1z) (hl1.extBut sA.extBut m1z) hx fun hB e sB ⟨ob, qe, qc⟩ => ?_)
  exact fin hB e (fun p o p1 p2 p3 p4 p5 q => sB _ _ p3 (sA.extBut _ _ p1 q)) ⟨ob, qe, qc⟩
/-- where the zip stands, its tuples kept in the list at S -/
def ZSt (h : Heap) (z TI TO i1 i2 i3 l1 l2 l3 S : Addr) (i : Nat) : Prop := IsTrip h TI (.ref i1) (.ref i2) (.ref i3) ∧ h.IsListIter i1 l1 i ∧ h.IsListIter i2 l2 i ∧ h.IsListIter i3 l3 i ∧ (∃ oO, h.get? TO = some oO) ∧
  ((IsZip h z TI TO .none ∧ ∃ a b c, IsTrip h TO a b c) ∨ ∃ (T : Addr) (oT : Obj) (f : Bool), IsZipF h z TI TO (rawInt T) f ∧ h.get? T = some oT ∧ T ≠ z ∧ T ≠ TO ∧ T ≠ i1 ∧ T ≠ i2 ∧ T ≠ i3 ∧ T ≠ S)
theorem ZSt.keep {h h' : Heap} {z TI TO i1 i2 i3 l1 l2 l3 S : Addr} {i : Nat} (st : ZSt h z TI TO i1 i2 i3 l1 l2 l3 S i) (nS : S ≠ z ∧ S ≠ TI ∧ S ≠ TO ∧ S ≠ i1 ∧ S ≠ i2 ∧ S ≠ i3) (k : ∀ b o, b ≠ S → h.get? b = some o → h'.get? b = some o) : ZSt h' z TI TO i1 i2 i3 l1 l2 l3 S i := by
  obtain ⟨gI, j1, j2, j3, ⟨oO, gO'⟩, g⟩ := st
  obtain ⟨nz, nI, nO, n1, n2, n3⟩ := nS
  refine ⟨k _ _ (Ne.symm nI) gI, j1.at fun o q => k _ o (Ne.symm n1) q, j2.at fun o q => k _ o (Ne.symm n2) q, j3.at fun o q => k _ o (Ne.symm n3) q, ⟨oO, k _ _ (Ne.symm nO) gO'⟩, ?_⟩
  rcases g with ⟨g, a, b, c, gO⟩ | ⟨T, oT, f, g, gT, r⟩
  · exact .inl ⟨k _ _ (Ne.symm nz) g, a, b, c, k _ _ (Ne.symm nO) gO⟩
  · exact .inr ⟨T, oT, f, k _ _ (Ne.symm nz) g, k _ _ r.2.2.2.2.2 gT, r⟩
theorem zip3_step {z TI TO i1 i2 i3 l1 l2 l3 S : Addr} {k : Nat} {xs ys zs : Array Value} {x y u : Value} {Q : Option Value → Shared → Prop} (D : Apart3 z TI TO i1 i2 i3 l1 l2 l3) (st : ZSt s.heap z TI TO i1 i2 i3 l1 l2 l3 S k) (hS : S < s.heap.objs.size) (hlt : z < s.heap.objs.size ∧ TO < s.heap.objs.size ∧ i1 < s.heap.objs.size ∧ i2 < s.heap.objs.size ∧ i3 < s.heap.objs.size)
    (hl1 : s.heap.IsList l1 xs) (hl2 : s.heap.IsList l2 ys) (hl3 : s.heap.IsList l3 zs) (hx : xs[k]? = some x) (hy : ys[k]? = some y) (hu : zs[k]? = some u)
    (fin : ∀ h', ZSt h' z TI TO i1 i2 i3 l1 l2 l3 S (k + 1) → IsTrip h' s.heap.objs.size x y u → h'.objs.size = s.heap.objs.size + 1 → KeepZ z TO i1 i2 i3 s.heap h' → Q (some (.ref s.heap.objs.size)) { s with heap := h' }) :
    wpAny (model prog w) A (pyNext (.ref z)) Q E s := by
  obtain ⟨lz, lO, a1, a2, a3⟩ := hlt
  obtain ⟨n1z, n1O, n1I⟩ := D.n1
  obtain ⟨n2z, n2O, n2I⟩ := D.n2
  obtain ⟨n3z, n3O, n3I⟩ := D.n3
  obtain ⟨tIz, tIO⟩ := D.ti
  have keepI : ∀ h', KeepZ z TO i1 i2 i3 s.heap h' → IsTrip s.heap TI (.ref i1) (.ref i2) (.ref i3) → IsTrip h' TI (.ref i1) (.ref i2) (.ref i3) := fun h' kz g => kz _ _ tIz tIO (Ne.symm n1I) (Ne.symm n2I) (Ne.symm n3I) g
  obtain ⟨gI, j1, j2, j3, ⟨oO, gO'⟩, ⟨g, a, b, c, gO⟩ | ⟨T, oT, f, g, gT, nTz, nTO, nT1, nT2, nT3, nTS⟩⟩ := st
  · refine pyNext_zip3 D g gI gO j1 j2 j3 hl1 hl2 hl3 hx hy hu fun h' b1 b2 b3 b4 b5 b6 b7 b8 => fin h' ⟨keepI h' b8 gI, b3, b4, b5, ⟨_, b2⟩, .inr ⟨s.heap.objs.size, _, false, b1, b6, ?_⟩⟩ b6 b7 b8
    exact ⟨Nat.ne_of_gt lz, Nat.ne_of_gt lO, Nat.ne_of_gt a1, Nat.ne_of_gt a2, Nat.ne_of_gt a3, Nat.ne_of_gt hS⟩
  · have ty : s.TypeIs (.ref z) "zip" := ⟨_, g, rfl⟩
    unfold pyNext
    refine wpAny_bind (wpAny_attempt (wpAny_callSpecial?_slot (name := Str.ofString "__next__") ty F.slot_zip_next (wpAny_call_entry F.slot_zip_next ty F.entry_zip_next ?_ (F.args_zip_next_1 _))))
    exact zip3_out D g gT gI j1 j2 j3 hl1 hl2 hl3 hx hy hu fun h' b1 b3 b4 b5 b6 b7 b8 b9 => wpAny_pure (fin h' ⟨keepI h' b8 gI, b3, b4, b5, ⟨oO, b9 _ gO'⟩, .inr ⟨T, oT, true, b1, b8 _ _ nTz nTO nT1 nT2 nT3 gT, nTz, nTO, nT1, nT2, nT3, nTS⟩⟩ b6 b7 b8)
theorem zip3_last {z TI TO i1 i2 i3 l1 l2 l3 S : Addr} {k : Nat} {xs ys zs : Array Value} {Q : Option Value → Shared → Prop} (calm : A.handled = none) (D : Apart3 z TI TO i1 i2 i3 l1 l2 l3) (st : ZSt s.heap z TI TO i1 i2 i3 l1 l2 l3 S k)
    (hl1 : s.heap.IsList l1 xs) (hl2 : s.heap.IsList l2 ys) (hl3 : s.heap.IsList l3 zs) (hx : xs[k]? = none) (fin : ∀ h', KeepZ z TO i1 i2 i3 s.heap h' → Q none { s with heap := h' }) :
    wpAny (model prog w) A (pyNext (.ref z)) Q E s := by
  obtain ⟨gI, j1, j2, j3, _, ⟨g, a, b, c, gO⟩ | ⟨T, oT, f, g, gT, _⟩⟩ := st
  · exact pyNext_zip3_end calm D g gI gO j1 j2 j3 hl1 hl2 hl3 (.inl hx) fin
  · have ty : s.TypeIs (.ref z) "zip" := ⟨_, g, rfl⟩
    unfold pyNext
    refine wpAny_bind (wpAny_attempt (wpAny_callSpecial?_slot (name := Str.ofString "__next__") ty F.slot_zip_next (wpAny_call_entry F.slot_zip_next ty F.entry_zip_next ?_ (F.args_zip_next_1 _))))
    refine zip3_out_stop calm D g gT gI j1 hl1 hx fun h' e kz ⟨ob, qe, qc⟩ => ?_
    exact wpAny_bind (wpAny_isInstance (T := "StopIteration") (b := true) ⟨ob, qe, qc⟩ isSubtype_stop (wpAny_pure (fin _ kz)))
end
theorem zip_no_len : typeLookup (.type "zip") "__len__" = pure none := by rw [typeLookup_type, builtinLookup_eq_fast]; kernel_rfl
theorem zip_no_hint : typeLookup (.type "zip") "__length_hint__" = pure none := by rw [typeLookup_type, builtinLookup_eq_fast]; kernel_rfl
section
variable {prog : Program} {w : World} {A : Around} {E : Value → Shared → Prop} {s : Shared} {R : Result → Shared → Prop}
theorem zext {z TI TO S : Addr} {c0 : Nat} (gz : IsZip s.heap z TI TO .none) (hSz : S ≠ z) (res : Value) (hS : s.heap.get? S = some { cls := .type "list", data := .seq #[] c0 })
    (key : ∀ (h : Heap) (c1 : Nat), (∀ b o, b ≠ S → s.heap.get? b = some o → h.get? b = some o) → h.get? S = some { cls := .type "list", data := .seq #[] c1 } → codeAny (model prog w) A (.builtin "list.extend.loop" ⟨[.ref S, .ref z, res], []⟩) R { s with heap := h }) :
    wpAny (model prog w) A.in1 (Builtin.List.listExtendWith (.ref S) (.ref z) res)
      (fun fin s' => match fin with | .done f => R (.ok f) s' | .again c' => c'.quiet = true ∧ codeAny (model prog w) A c' R s') (fun e s' => R (.error e) s') s := by
  have ty : s.TypeIs (.ref z) "zip" := ⟨_, gz, rfl⟩
  unfold Builtin.List.listExtendWith
  refine wpAny_bind (wpAny_typeOf ty ?_)
  have h1 : Builtin.List.listSameRef (.ref S) (.ref z) = false := by simp [Builtin.List.listSameRef, hSz]
  have h2 : (Value.type "zip" == Value.type "list") = false := by decide
  have h3 : (Value.type "zip" == Value.type "tuple") = false := by decide
  simp only [h1, h2, h3, Bool.or_false, Bool.false_eq_true, if_false]
  refine wpAny_bind (wpAny_pyIter_zip gz ?_)
  refine wpAny_bind (wpAny_holding ?_)
  unfold Builtin.List.listLengthHint
  refine wpAny_bind (wpAny_specialOf ty zip_no_len ?_)
  show wpAny _ A.in1 (specialOf (Value.ref z) (Str.ofString "__length_hint__") >>= _) _ _ _
  refine wpAny_bind (wpAny_specialOf ty zip_no_hint ?_)
  refine wpAny_pure ?_
  show wpAny _ A.in1 (rule "list.extend.makes-room" >>= fun _ => Builtin.List.listTouch (.ref S) >>= fun _ =>
    again (.builtin "list.extend.loop" ⟨[.ref S, .ref z, res], []⟩)) _ _ _
  refine wpAny_bind (wpAny_rule ?_)
  refine wpAny_bind ?_
  show wpAny _ A.in1 (updateSeq S (·.push .none) >>= fun _ => updateSeq S (·.pop)) _ _ _
  refine wpAny_bind (wpAny_updateSeq hS rfl ?_)
  have hS₂ := Heap.get?_update_self (Obj.mapSeq (·.push Value.none)) hS rfl
  refine wpAny_updateSeq (hz := by seq_fits) hS₂ rfl ?_
  have hS₃ := Heap.get?_update_self (Obj.mapSeq (·.pop)) hS₂ rfl
  exact wpAny_pure ⟨plainId_quiet PySem.F.plain_extend_loop _, key _ _ (fun b o hb e => (Heap.get?_update_other _ _ (Ne.symm hb)).trans ((Heap.get?_update_other _ _ (Ne.symm hb)).trans e)) hS₃⟩
theorem zinit {z TI TO S : Addr} (gz : IsZip s.heap z TI TO .none) (hSz : S ≠ z) (hS : s.heap.get? S = some { cls := .type "list", data := .seq #[] })
    (key : ∀ (h : Heap) (c1 : Nat), (∀ b o, b ≠ S → s.heap.get? b = some o → h.get? b = some o) → h.get? S = some { cls := .type "list", data := .seq #[] c1 } → codeAny (model prog w) A (.builtin "list.extend.loop" ⟨[.ref S, .ref z, .none], []⟩) R { s with heap := h }) :
    wpAny (model prog w) A.in1 (Builtin.«list.__init__» ⟨[.ref S, .ref z], []⟩)
      (fun fin s' => match fin with | .done f => R (.ok f) s' | .again c' => c'.quiet = true ∧ codeAny (model prog w) A c' R s') (fun e s' => R (.error e) s') s := by
  show wpAny _ _ (do let old ← Builtin.List.listItems (.ref S); Builtin.List.listUpdate (.ref S) (fun _ => #[]); letGo old.toList.reverse; Builtin.List.listExtendWith (.ref S) (.ref z) .none) _ _ s
  refine wpAny_bind ?_
  unfold Builtin.List.listItems
  refine wpAny_bind (wpAny_seqItems hS rfl (wpAny_pure ?_))
  show wpAny _ _ (updateSeq S (fun _ => #[]) >>= fun _ => letGo (#[] : Array Value).toList.reverse >>= fun _ => Builtin.List.listExtendWith (.ref S) (.ref z) .none) _ _ s
  refine wpAny_bind (wpAny_updateSeq hS rfl ?_)
  have hS₂ := Heap.get?_update_self (Obj.mapSeq (fun _ => (#[] : Array Value))) hS rfl
  have oth : ∀ b o, b ≠ S → s.heap.get? b = some o → (s.heap.update S (Obj.mapSeq (fun _ => (#[] : Array Value)))).get? b = some o :=
    fun b o hb e => (Heap.get?_update_other _ _ (Ne.symm hb)).trans e
  refine wpAny_bind (wpAny_letGo ?_)
  exact zext (A := A) (oth z _ (Ne.symm hSz) gz) hSz .none hS₂ fun h c1 hk hS3 => key h c1 (fun b o hb e => hk b o hb (oth b o hb e)) hS3
theorem zcall {z TI TO : Addr} {Q : Value → Shared → Prop} (gz : IsZip s.heap z TI TO .none)
    (key : ∀ (h : Heap) (c1 : Nat), (∀ b o, s.heap.get? b = some o → h.get? b = some o) → h.get? s.heap.objs.size = some { cls := .type "list", data := .seq #[] c1 } →
      ∀ R : Result → Shared → Prop, (∀ s', Q (.ref s.heap.objs.size) s' → R (.ok (.ret .none)) s') → codeAny (model prog w) A.in1 (.builtin "list.extend.loop" ⟨[.ref s.heap.objs.size, .ref z, .none], []⟩) R { s with heap := h }) :
    wpAny (model prog w) A (call (.type "list") [.ref z]) Q E s := by
  refine callType_codes (Q₁ := fun obj s₁ => obj = .ref s.heap.objs.size ∧ s₁ = { s with heap := s.heap.push { cls := .type "list", data := .seq #[] } }) PySem.F.called_list (PySem.F.typeCall_list_1 _) PySem.F.entry_list_init
    (code_list_new _ ⟨rfl, rfl⟩) fun obj s₁ h₁ => ?_
  obtain ⟨rfl, rfl⟩ := h₁
  have hS : (s.heap.push { cls := .type "list", data := .seq #[] }).get? s.heap.objs.size = some { cls := .type "list", data := .seq #[] } := Heap.get?_push_size _ rfl
  have hz : z < s.heap.objs.size := Heap.lt_size gz
  refine ⟨⟨_, hS, rfl⟩, PySem.F.args_list_init_2 _ _, zinit (A := A.in1) (Heap.get?_push_of_some _ gz) (Nat.ne_of_gt hz) hS fun h c1 hk hS3 => ?_⟩
  exact key h c1 (fun b o e => hk b o (Nat.ne_of_lt (Heap.lt_size e)) (Heap.get?_push_of_some _ e)) hS3 _ fun s' q => ⟨rfl, q⟩
end
end TW

set_option Elab.async false
set_option linter.all false
set_option maxRecDepth 100000
namespace TW
open PySem PySem.Spec PyProof.Rows L2
def TripAt (H : Hp) (r : Addr) (x : Int × Int × Int) : Prop := H r = some (.tup [.int x.1, .int x.2.1, .int x.2.2])
theorem tripAt_same : ∀ (H H' : Hp) (r : Addr) (x : Int × Int × Int), Same H H' → TripAt H r x → TripAt H' r x := fun _ _ _ _ s h => s _ _ h
section
variable {X : Cx} {pins : List (Addr × Obj)} {σ : L2.St} {H1 : Hp}
theorem zloop {us vs ws : List Int} {z TI TO i1 i2 i3 a b c S : Addr} {A : Around} {R : Result → Shared → Prop} (hh : A.handled = none) (D : Apart3 z TI TO i1 i2 i3 a b c) (nS : S ≠ z ∧ S ≠ TI ∧ S ≠ TO ∧ S ≠ i1 ∧ S ≠ i2 ∧ S ≠ i3)
    (ha : SqL X.K H1 a (us.map V.int)) (hb : SqL X.K H1 b (vs.map V.int)) (hc : SqL X.K H1 c (ws.map V.int)) (hv : us.length = vs.length) (hw : us.length = ws.length) (hSn : H1 S = none) (res : Value)
    (fin : ∀ H s, Inv X pins σ H s → Same H1 H → ListOf TripAt H S (us.zip (vs.zip ws)) → R (.ok (.ret res)) s) :
    ∀ (k i : Nat) (s : Shared) (H : Hp), us.length - i = k → i ≤ us.length → Inv X pins σ H s → (∀ p ∈ [z, TI, TO, i1, i2, i3], FpOk X pins H p) → ZSt s.heap z TI TO i1 i2 i3 a b c S i → Same H1 H → ListOf TripAt H S ((us.zip (vs.zip ws)).take i) →
      codeAny (model X.prog X.w) A (.builtin "list.extend.loop" ⟨[.ref S, .ref z, res], []⟩) R s := by
  intro k
  induction k with
  | zero =>
    intro i s H hk hi I hf st s1 L
    have hin : i = us.length := by omega
    obtain ⟨its, rv, p1, _⟩ := I.list (s1.seq ha)
    obtain ⟨its2, rv2, p2, _⟩ := I.list (s1.seq hb)
    obtain ⟨its3, rv3, p3, _⟩ := I.list (s1.seq hc)
    refine codeAny_builtin PySem.F.entry_extend_loop ?_
    rw [Around.under_plainId PySem.F.plain_extend_loop _]
    show wpAny _ A.in1 (pyNext (.ref z) >>= _) _ _ _
    refine wpAny_bind (zip3_last (A := A.in1) hh D st p1.isList p2.isList p3.isList (by have := rv.length; simp at this ⊢; omega) fun h' kz => ?_)
    refine wpAny_pure (fin H _ (I.turnedL (t' := s.toks) (ch := [z, TI, TO, i1, i2, i3]) (fun p o hb q => kz p o (fun q' => hb (by simp [q'])) (fun q' => hb (by simp [q'])) (fun q' => hb (by simp [q'])) (fun q' => hb (by simp [q'])) (fun q' => hb (by simp [q'])) q) hf) s1 ?_)
    rw [List.take_of_length_le (by simp; omega)] at L
    exact L
  | succ k ih =>
    intro i s H hk hi I hf st s1 L
    have hlt : i < us.length := by omega
    obtain ⟨its, rv, p1, zz⟩ := I.list (s1.seq ha)
    obtain ⟨its2, rv2, p2, _⟩ := I.list (s1.seq hb)
    obtain ⟨its3, rv3, p3, _⟩ := I.list (s1.seq hc)
    obtain ⟨w1, hw1, ru1⟩ := rv.get (show (us.map V.int)[i]? = some (.int us[i]) by rw [List.getElem?_map, List.getElem?_eq_getElem hlt]; rfl)
    obtain ⟨w2, hw2, ru2⟩ := rv2.get (show (vs.map V.int)[i]? = some (.int vs[i]) by rw [List.getElem?_map, List.getElem?_eq_getElem (by omega)]; rfl)
    obtain ⟨w3, hw3, ru3⟩ := rv3.get (show (ws.map V.int)[i]? = some (.int ws[i]) by rw [List.getElem?_map, List.getElem?_eq_getElem (by omega)]; rfl)
    obtain ⟨refs, g1, g2, g0, g3⟩ := id L
    have hlen : refs.length = i := by rw [g2, List.length_take, List.length_zip, List.length_zip]; omega
    obtain ⟨zl, sits, n, sr, sl, se⟩ := I.lstM g1
    have hSl : S < s.heap.objs.size := Heap.lt_size se
    have olt : ∀ p ∈ [z, TI, TO, i1, i2, i3], p < s.heap.objs.size := by
      obtain ⟨gI, ⟨o1, e1, _⟩, ⟨o2, e2, _⟩, ⟨o3, e3, _⟩, ⟨oO, gO⟩, gg⟩ := st
      intro p hp
      have e' : p = z ∨ p = TI ∨ p = TO ∨ p = i1 ∨ p = i2 ∨ p = i3 := by simpa using hp
      rcases e' with q | q | q | q | q | q
      · rw [q]; rcases gg with ⟨g, _⟩ | ⟨_, _, _, g, _⟩ <;> exact Heap.lt_size g
      · rw [q]; exact Heap.lt_size gI
      · rw [q]; exact Heap.lt_size gO
      · rw [q]; exact Heap.lt_size e1
      · rw [q]; exact Heap.lt_size e2
      · rw [q]; exact Heap.lt_size e3
    refine codeAny_builtin PySem.F.entry_extend_loop ?_
    rw [Around.under_plainId PySem.F.plain_extend_loop _]
    show wpAny _ A.in1 (pyNext (.ref z) >>= _) _ _ _
    refine wpAny_bind (zip3_step (A := A.in1) D st hSl ⟨olt z (by simp), olt TO (by simp), olt i1 (by simp), olt i2 (by simp), olt i3 (by simp)⟩ p1.isList p2.isList p3.isList (x := w1) (y := w2) (u := w3) (by simpa using hw1) (by simpa using hw2) (by simpa using hw3) fun h' st' hT hsz kz => ?_)
    have new : ObjOk X.prog X.w (upd H s.heap.objs.size (.tup [.int us[i], .int vs[i], .int ws[i]])) h' s.heap.objs.size (.tup [.int us[i], .int vs[i], .int ws[i]]) :=
      ⟨by show 3 ≤ sizeLine; decide, [w1, w2, w3], .cons ru1 (.cons ru2 (.cons ru3 .nil)), ⟨_, hT, rfl, _, rfl⟩⟩
    have fresh : H s.heap.objs.size = none := I.hok.fresh (Nat.le_refl _)
    have I1 : Inv X pins σ (upd H s.heap.objs.size (.tup [.int us[i], .int vs[i], .int ws[i]])) { s with heap := h' } :=
      I.turnedNew (t' := s.toks) (ch := [z, TI, TO, i1, i2, i3]) (fun p o hb q => kz p o (fun q' => hb (by simp [q'])) (fun q' => hb (by simp [q'])) (fun q' => hb (by simp [q'])) (fun q' => hb (by simp [q'])) (fun q' => hb (by simp [q'])) q) hf (Nat.le_refl _) new
    have s2 := same_upd (o := .tup [.int us[i], .int vs[i], .int ws[i]]) fresh
    obtain ⟨zl2, sits2, n2, sr2, sl2, se2⟩ := I1.lstM (s2 _ _ g1)
    show wpAny _ A.in1 (updateSeq S (·.push (Value.ref s.heap.objs.size)) >>= _) _ _ _
    refine wpAny_bind ?_
    have I2 := I1.lset (its' := sits2 ++ [Value.ref s.heap.objs.size]) (f := (·.push (Value.ref s.heap.objs.size))) (t' := s.toks) (s2 _ _ g1) se2 (by simp) (sr2.append (.cons (show RelV (.ref s.heap.objs.size) _ from rfl) .nil)) (by rw [List.length_append, List.length_map, hlen]; rw [List.length_map] at zz; show i + 1 ≤ _; omega)
    have hsz2 : sits2.length = i := by rw [← sl2, List.length_map, hlen]
    refine wpAny_updateSeq se2 rfl (wpAny_pure ⟨plainId_quiet PySem.F.plain_extend_loop _, ih (i + 1) _ _ (by omega) hlt I2 (fun p hp => ?_) (st'.keep nS fun b o hb e => (Heap.get?_update_other _ _ (Ne.symm hb)).trans e) ?_ ?_⟩) ?_ ?_
    · obtain ⟨_, r⟩ := hf p hp
      have nSp : p ≠ S := by
        have e' : p = z ∨ p = TI ∨ p = TO ∨ p = i1 ∨ p = i2 ∨ p = i3 := by simpa using hp
        obtain ⟨n1, n2, n3, n4, n5, n6⟩ := nS
        rcases e' with q | q | q | q | q | q <;> rw [q] <;> (apply Ne.symm; assumption)
      refine ⟨?_, r⟩
      rw [upd_ne nSp, upd_ne (Nat.ne_of_lt (olt p hp))]
      exact (hf p hp).1
    · intro b o e
      rw [upd_ne (ne_of_none e hSn)]
      exact s2 _ _ (s1 _ _ e)
    · have ez : (us.zip (vs.zip ws)).take (i + 1) = (us.zip (vs.zip ws)).take i ++ [(us[i], vs[i], ws[i])] := by
        rw [List.take_succ, (List.getElem?_zip_eq_some (z := (us[i], vs[i], ws[i]))).mpr ⟨List.getElem?_eq_getElem hlt, (List.getElem?_zip_eq_some (z := (vs[i], ws[i]))).mpr ⟨List.getElem?_eq_getElem (by omega), List.getElem?_eq_getElem (by omega)⟩⟩]
        rfl
      obtain ⟨refs', k1, k2, k3⟩ := L.snoc (x := (us[i], vs[i], ws[i])) (p := s.heap.objs.size) s2 (fun r y o hn q => by show upd _ _ _ _ = _; rw [upd_ne hn]; exact q) (fun r y q => tripAt_same _ _ _ _ s2 q) (Nat.ne_of_gt hSl) upd_same
      have er : refs' = refs := by
        have e1 := (s2 _ _ g1).symm.trans k1
        simp only [Option.some.injEq, HO.lst.injEq] at e1
        exact ((List.map_inj_right (fun x y q => V.ref.inj q)).mp e1).symm
      rw [er] at k3
      rw [ez]
      exact k3
    · rw [List.size_toArray, hsz2]
      rw [List.length_map] at zz
      omega
    · show (sits2.toArray.push (Value.ref s.heap.objs.size)).size ≤ sizeLine + 1
      rw [Array.size_push, List.size_toArray, hsz2]
      rw [List.length_map] at zz
      omega
/-- list(zip(a, b, c)), three lists of numbers, equally long -/
def tLZ (K : PySem.W.Frag) (ta : TA) : TE := fun σ H Q => ta σ H fun vs H1 => ∃ (a b c : Addr) (us ws zs : List Int), vs = [.ref a, .ref b, .ref c] ∧ SqL K H1 a (us.map V.int) ∧ SqL K H1 b (ws.map V.int) ∧ SqL K H1 c (zs.map V.int) ∧ us.length = ws.length ∧ us.length = zs.length ∧
  ∀ p H', Same H1 H' → H1 p = none → ListOf TripAt H' p (us.zip (ws.zip zs)) → Q (.ref p) H'
end
theorem pe_listZip3 {X : Cx} {e e2 e3 : Expr} {ta : TA} {p q pos1 pos : Pos} (hc : X.calm = true) (hgl : Gl X "list") (hml : X.mg "list" = none) (hg : Gl X "zip") (hm : X.mg "zip" = none) (ha : PA X [e, e2, e3] ta)
    (hs1 : starEach [.Call (.Name "zip" p) [e, e2, e3] [] pos] X.env = [(false, eval (.Call (.Name "zip" p) [e, e2, e3] [] pos) X.env)] := by rfl)
    (hs : starEach [e, e2, e3] X.env = (false, eval e X.env) :: starEach [e2, e3] X.env := by rfl) (hpl : (backTo pos (starEach [e2, e3] X.env)).any (·.1) = false := by rfl) :
    PE X (.Call (.Name "list" q) [.Call (.Name "zip" p) [e, e2, e3] [] pos] [] pos1) (tLZ X.K ta) := by
  intro pins s σ H Q I h
  refine wpAny_Call_Name_kw (ld_blt I hgl hml boot_list ?_ (by decide) (by decide))
  refine PyProof.Rows.callWith_type1 ?_ hs1 rfl
  rw [hs1]
  show wpAny _ _ (spliced [(false, eval (.Call (.Name "zip" p) [e, e2, e3] [] pos) X.env)]) _ _ s
  refine Calls.spliced_cons ?_
  refine Call_ (ld_blt I hg hm boot_zip5 (PyProof.Rows.callWith_type1 (thn (ha pos pins s σ H _ I h) fun us s1 ⟨vs, H1, I1, r1, q1⟩ => ?_) hs hpl))
  obtain ⟨a, b, c, l1, l2, l3, ex, hqx, hqy, hqz, e12, e13, fin⟩ := q1
  subst ex
  obtain ⟨u1, u2, u3, rfl, r, r', r''⟩ : ∃ u1 u2 u3, us = [u1, u2, u3] ∧ RelV (.ref a) u1 ∧ RelV (.ref b) u2 ∧ RelV (.ref c) u3 := by
    cases r1 with
    | cons r rr =>
      cases rr with
      | cons r' rr =>
        cases rr with
        | cons r'' rr =>
          cases rr
          exact ⟨_, _, _, rfl, r, r', r''⟩
  cases r
  cases r'
  cases r''
  obtain ⟨its, rv, p1, _⟩ := I1.list hqx
  obtain ⟨its2, rv2, p2, _⟩ := I1.list hqy
  obtain ⟨its3, rv3, p3, _⟩ := I1.list hqz
  have la : a < s1.heap.objs.size := p1.lt
  have lb : b < s1.heap.objs.size := p2.lt
  have lc : c < s1.heap.objs.size := p3.lt
  refine call_zip3 p1.isList p2.isList p3.isList fun h' hz hTI hTO h1 h2 h3 hk => ?_
  have I2 : Inv X pins σ H1 { s1 with heap := h' } := I1.kept (t' := s1.toks) hk
  have D : Apart3 (s1.heap.objs.size + 5) (s1.heap.objs.size + 3) (s1.heap.objs.size + 4) s1.heap.objs.size (s1.heap.objs.size + 1) (s1.heap.objs.size + 2) a b c := by
    generalize s1.heap.objs.size = n at *
    have hA : ∀ l : Addr, l < n → l ≠ n + 5 ∧ l ≠ n + 4 ∧ l ≠ n ∧ l ≠ n + 1 ∧ l ≠ n + 2 := fun l hl =>
      ⟨Nat.ne_of_lt (Nat.lt_of_lt_of_le hl (Nat.le_add_right n 5)), Nat.ne_of_lt (Nat.lt_of_lt_of_le hl (Nat.le_add_right n 4)), Nat.ne_of_lt hl, Nat.ne_of_lt (Nat.lt_of_lt_of_le hl (Nat.le_add_right n 1)), Nat.ne_of_lt (Nat.lt_of_lt_of_le hl (Nat.le_add_right n 2))⟩
    refine ⟨fun i hi => ?_, ⟨?_, ?_⟩, ?_, ⟨?_, ?_, ?_⟩, fun l hl => ?_⟩
    · have e' : i = n ∨ i = n + 1 ∨ i = n + 2 := by simpa using hi
      rcases e' with q | q | q
      · subst q; exact ⟨Nat.ne_of_lt (Nat.lt_add_of_pos_right (by decide)), Nat.ne_of_lt (Nat.lt_add_of_pos_right (by decide)), Nat.ne_of_lt (Nat.lt_add_of_pos_right (by decide))⟩
      · subst q; exact ⟨Nat.ne_of_lt (Nat.add_lt_add_left (by decide) n), Nat.ne_of_lt (Nat.add_lt_add_left (by decide) n), Nat.ne_of_lt (Nat.add_lt_add_left (by decide) n)⟩
      · subst q; exact ⟨Nat.ne_of_lt (Nat.add_lt_add_left (by decide) n), Nat.ne_of_lt (Nat.add_lt_add_left (by decide) n), Nat.ne_of_lt (Nat.add_lt_add_left (by decide) n)⟩
    · exact Nat.ne_of_lt (Nat.add_lt_add_left (by decide) n)
    · exact Nat.ne_of_lt (Nat.add_lt_add_left (by decide) n)
    · exact Nat.ne_of_lt (Nat.add_lt_add_left (by decide) n)
    · exact Nat.ne_of_lt (Nat.lt_add_of_pos_right (by decide))
    · exact Nat.ne_of_lt (Nat.lt_add_of_pos_right (by decide))
    · exact Nat.ne_of_lt (Nat.add_lt_add_left (by decide) n)
    · have e' : l = a ∨ l = b ∨ l = c := by simpa using hl
      rcases e' with q | q | q
      · subst q; exact hA _ la
      · subst q; exact hA _ lb
      · subst q; exact hA _ lc
  refine Calls.spliced_nil ?_
  refine zcall (s := { s1 with heap := h' }) hz fun h2' c1 hk2 hS R hR => ?_
  have hn0 : H1 h'.objs.size = none := I2.hok.fresh (Nat.le_refl _)
  have I3 : Inv X pins σ (upd H1 h'.objs.size (.lst [])) { s1 with heap := h2' } := I2.laid (t' := s1.toks) hk2 (Nat.le_refl _) (show ObjOk X.prog X.w _ h2' _ (.lst []) from ⟨Nat.zero_le _, [], c1, .nil, hS⟩)
  have z5 : s1.heap.objs.size + 5 < h'.objs.size := Heap.lt_size hz
  have lt : ∀ j, j ≤ 5 → s1.heap.objs.size + j < h'.objs.size := fun j hj => Nat.lt_of_le_of_lt (Nat.add_le_add_left hj _) z5
  have hne : ∀ j, j ≤ 5 → h'.objs.size ≠ s1.heap.objs.size + j := fun j hj => Nat.ne_of_gt (lt j hj)
  refine zloop (X := X) (pins := pins) (σ := σ) (H1 := H1) (us := l1) (vs := l2) (ws := l3) (A := X.A.in1) (I1.ok.hd hc) D ⟨hne 5 (by decide), hne 3 (by decide), hne 4 (by decide), hne 0 (by decide), hne 1 (by decide), hne 2 (by decide)⟩ hqx hqy hqz e12 e13 hn0 .none
    (fun H' s' I' sm L => hR s' ⟨.ref h'.objs.size, H', I', rfl, fin _ _ sm hn0 L⟩) l1.length 0 _ _ (Nat.sub_zero _) (Nat.zero_le _) I3 (fun pp hpm => ?_) ?_ (same_upd hn0) (ListOf.nil upd_same)
  · have e' : pp = s1.heap.objs.size + 5 ∨ pp = s1.heap.objs.size + 3 ∨ pp = s1.heap.objs.size + 4 ∨ pp = s1.heap.objs.size ∨ pp = s1.heap.objs.size + 1 ∨ pp = s1.heap.objs.size + 2 := by simpa using hpm
    obtain ⟨j, hj, rfl⟩ : ∃ j, j ≤ 5 ∧ pp = s1.heap.objs.size + j := by
      rcases e' with z | z | z | z | z | z
      · exact ⟨5, by decide, z⟩
      · exact ⟨3, by decide, z⟩
      · exact ⟨4, by decide, z⟩
      · exact ⟨0, by decide, z⟩
      · exact ⟨1, by decide, z⟩
      · exact ⟨2, by decide, z⟩
    refine I1.fpOk (Nat.le_add_right _ _) ?_
    rw [upd_ne (Nat.ne_of_lt (lt j hj))]
    exact I1.hok.fresh (Nat.le_add_right _ _)
  · exact ⟨hk2 _ _ hTI, h1.at fun o q => hk2 _ o q, h2.at fun o q => hk2 _ o q, h3.at fun o q => hk2 _ o q, ⟨_, hk2 _ _ hTO⟩, .inl ⟨hk2 _ _ hz, _, _, _, hk2 _ _ hTO⟩⟩
end TW

set_option Elab.async false
set_option linter.all false
set_option maxRecDepth 100000
set_option maxHeartbeats 8000000
namespace T06
open PySem PySem.Spec PyProof.Rows L2 TW
def top (i : Nat) : Stmt := PySem.Challenge.pw_tilewise_s06_put.main.body.getD i (.Pass ⟨0, 0, 0, 0⟩)
abbrev sHalf : Stmt := top 2
abbrev sRight : Stmt := top 3
abbrev sLifts : Stmt := top 4
abbrev sHalveRow : Stmt := top 5
abbrev sColumn : Stmt := top 6
abbrev sTurned : Stmt := top 7
abbrev sHalveCorner : Stmt := top 8
abbrev sPlaces : Stmt := top 11
abbrev sLowest : Stmt := top 24
abbrev sNumber : Stmt := top 25
abbrev sCrcTable : Stmt := top 26
abbrev sCrcOf : Stmt := top 27
abbrev sFramed : Stmt := top 28
abbrev sHeadOf : Stmt := top 29
abbrev sTable : Stmt := top 30
abbrev sTiles : Stmt := top 31
abbrev sOpened : Stmt := top 32
abbrev sBetween : Stmt := top 37
abbrev sNumbersIn : Stmt := top 38
abbrev sCheck : Stmt := top 39
abbrev sFlat : Stmt := top 41
abbrev sCutRows : Stmt := top 42
abbrev sSizes : Stmt := top 43
abbrev sThree : Stmt := top 44
abbrev sBandsOf : Stmt := top 45
abbrev sMixed : Stmt := top 47
abbrev sUnsigned : Stmt := top 52
abbrev sOnes : Stmt := top 53
abbrev sTellNumber : Stmt := top 54
abbrev sTellBand : Stmt := top 55
abbrev sPlanesOf : Stmt := top 57
abbrev sPlainCode : Stmt := top 58
abbrev sShortCode : Stmt := top 59
abbrev sTileCode : Stmt := top 60
abbrev sCheckTile : Stmt := top 62
abbrev sPutAnswer : Stmt := top 63
abbrev sMain : Stmt := top 64
abbrev sInitPlace : Stmt := inClass (top 10) 0
abbrev sInitHead : Stmt := inClass (top 22) 0
abbrev sInRange : Stmt := inClass (top 22) 1
abbrev sHeadBytes : Stmt := inClass (top 22) 2
abbrev sHeadPlaces : Stmt := inClass (top 22) 3
abbrev sInitParts : Stmt := inClass (top 23) 0
abbrev sInitWriter : Stmt := inClass (top 50) 0
abbrev sTell : Stmt := inClass (top 50) 1
abbrev sAllBytes : Stmt := inClass (top 50) 2
abbrev sInitPace : Stmt := inClass (top 51) 0
abbrev sLowBits : Stmt := inClass (top 51) 1
abbrev sTake : Stmt := inClass (top 51) 2
def allIn (lo hi : Int) (ns : List Int) : Bool := ns.all fun n => decide (lo ≤ n) && decide (n ≤ hi)
def spBetween (K : PySem.W.Frag) : Sp := fun vs H Q _ => ∃ (a : Addr) (ns : List Int) (lo hi : Int), vs = [.ref a, .int lo, .int hi] ∧ SqL K H a (ns.map V.int) ∧ Q (.bl (allIn lo hi ns)) H
theorem all_low {ns : List Int} {lo m : Int} (h : (ns = [] ∧ m = lo) ∨ (m ∈ ns ∧ ∀ y, y ∈ ns → m ≤ y)) : lo ≤ m ↔ ∀ n ∈ ns, lo ≤ n := by
  rcases h with ⟨rfl, rfl⟩ | ⟨h1, h2⟩
  · simp
  · exact ⟨fun z n hn => Int.le_trans z (h2 n hn), fun z => z m h1⟩
theorem all_high {ns : List Int} {hi m : Int} (h : (ns = [] ∧ m = hi) ∨ (m ∈ ns ∧ ∀ y, y ∈ ns → y ≤ m)) : m ≤ hi ↔ ∀ n ∈ ns, n ≤ hi := by
  rcases h with ⟨rfl, rfl⟩ | ⟨h1, h2⟩
  · simp
  · exact ⟨fun z n hn => Int.le_trans (h2 n hn) z, fun z => z m h1⟩
theorem allIn_iff {lo hi : Int} {ns : List Int} : allIn lo hi ns = true ↔ (∀ n ∈ ns, lo ≤ n) ∧ ∀ n ∈ ns, n ≤ hi := by
  unfold allIn
  rw [List.all_eq_true]
  simp only [Bool.and_eq_true, decide_eq_true_eq]
  exact ⟨fun h => ⟨fun n hn => (h n hn).1, fun n hn => (h n hn).2⟩, fun h n hn => ⟨h.1 n hn, h.2 n hn⟩⟩
section
variable {P : Program} {w : World} {K : PySem.W.Frag} {mg : Str → Option Value} {base : Heap}
theorem scBetween : FnScope ["numbers", "lowest", "highest"] ["numbers", "lowest", "highest"] (defScope sBetween) := ⟨rfl, rfl, rfl, by decide +kernel, rfl, by decide +kernel, by decide +kernel⟩
theorem ok_between (D : DefAt K mg "all_between" sBetween) (zMin : mg "min" = none) (zMax : mg "max" = none) : OkF P w K mg base CX0 1 "all_between" ["numbers", "lowest", "highest"] (spBetween K) := by
  refine D.ok scBetween (fun _ _ _ _ _ _ us hl => match us, hl with | [_, _, _], _ => rfl) (fun vs H Q E h => ?_) (fun f cdv A outer s H vs Q E hr h => ?_)
  · obtain ⟨a, ns, lo, hi, rfl, _⟩ := h
    rfl
  · obtain ⟨a, ns, lo, hi, rfl, hS, k⟩ := h
    refine ⟨_, pss_one (ps_ret (pe_and (pe_cmpR op_ge (pe_dflt (cr_minD rfl) (by rfl) zMin boot_min (pa_cons (pv 0) pa_nil) (pv 1)) (pv 1) (nomark _))
      (pe_one (pe_cmpR op_le (pe_dflt (cr_maxD rfl) (by rfl) zMax boot_max (pa_cons (pv 0) pa_nil) (pv 2)) (pv 2) (nomark _))))), ?_⟩
    have low : ∀ m, ((ns = [] ∧ m = lo) ∨ (m ∈ ns ∧ ∀ y, y ∈ ns → m ≤ y)) → ∀ M, ((ns = [] ∧ M = hi) ∨ (M ∈ ns ∧ ∀ y, y ∈ ns → y ≤ M)) → (decide (lo ≤ m) && decide (M ≤ hi)) = allIn lo hi ns := fun m hm M hM => by
      rw [Bool.eq_iff_iff, allIn_iff, Bool.and_eq_true, decide_eq_true_eq, decide_eq_true_eq, all_low hm, all_high hM]
    have high : ∀ m, ((ns = [] ∧ m = lo) ∨ (m ∈ ns ∧ ∀ y, y ∈ ns → m ≤ y)) → decide (lo ≤ m) = true → ∀ M, ((ns = [] ∧ M = hi) ∨ (M ∈ ns ∧ ∀ y, y ∈ ns → y ≤ M)) → Q (.bl (decide (M ≤ hi))) H := fun m hm c M hM => by
      have e := low m hm M hM
      rw [c, Bool.true_and] at e
      rw [e]
      exact k
    have lo2 : ∀ m, ((ns = [] ∧ m = lo) ∨ (m ∈ ns ∧ ∀ y, y ∈ ns → m ≤ y)) → decide (lo ≤ m) = false → Q (.bl false) H := fun m hm c => by
      have e : allIn lo hi ns = false := by
        rw [Bool.eq_false_iff]
        intro z
        have := (all_low hm).mpr (allIn_iff.mp z).1
        rw [decide_eq_false_iff_not] at c
        exact c this
      rw [← e]
      exact k
    refine ⟨_, rfl, _, rfl, a, ns, lo, rfl, rfl, hS, fun en => ?_, fun m h1 h2 => ?_⟩
    · refine ⟨_, rfl, _, _, rfl, rfl, _, rfl, ite2 (fun c => ?_) (fun c => lo2 lo (.inl ⟨en, rfl⟩) (by simpa using c))⟩
      exact ⟨_, rfl, _, rfl, a, ns, hi, rfl, rfl, hS, fun en => ⟨_, rfl, _, _, rfl, rfl, high lo (.inl ⟨en, rfl⟩) c hi (.inl ⟨en, rfl⟩)⟩, fun M h3 h4 => ⟨_, rfl, _, _, rfl, rfl, high lo (.inl ⟨en, rfl⟩) c M (.inr ⟨h3, h4⟩)⟩⟩
    · refine ⟨_, rfl, _, _, rfl, rfl, _, rfl, ite2 (fun c => ?_) (fun c => lo2 m (.inr ⟨h1, h2⟩) (by simpa using c))⟩
      exact ⟨_, rfl, _, rfl, a, ns, hi, rfl, rfl, hS, fun en => ⟨_, rfl, _, _, rfl, rfl, high m (.inr ⟨h1, h2⟩) c hi (.inl ⟨en, rfl⟩)⟩, fun M h3 h4 => ⟨_, rfl, _, _, rfl, rfl, high m (.inr ⟨h1, h2⟩) c M (.inr ⟨h3, h4⟩)⟩⟩
end

def placeF (x y w h : Int) : List (Str × V) := putF "height" (.int h) (putF "width" (.int w) (putF "y" (.int y) (putF "x" (.int x) [])))
theorem placeF_w (x y w h : Int) : (placeF x y w h).lookup ("width" : Str) = some (.int w) := by
  unfold placeF
  rw [lookup_putF, if_neg (by decide +kernel), lookup_putF, if_pos rfl]
theorem placeF_h (x y w h : Int) : (placeF x y w h).lookup ("height" : Str) = some (.int h) := by
  unfold placeF
  rw [lookup_putF, if_pos rfl]
def PlaceAt (C : Addr) (H : Hp) (p : Addr) (q : Sp21.Part) : Prop := ∃ dx, H p = some (.ins C dx (placeF q.x q.y q.w q.h))
theorem placeAt_same {C : Addr} : ∀ (H H' : Hp) (r : Addr) (x : Sp21.Part), Same H H' → PlaceAt C H r x → PlaceAt C H' r x := fun _ _ _ _ s ⟨dx, h⟩ => ⟨dx, s _ _ h⟩
/-- what the top has made of the class -/
structure PlaceTxt (K : PySem.W.Frag) (mg : Str → Option Value) (C : Addr) : Prop extends ClsIn K mg "Place" C where
  nx : NoAttr K C "x"
  ny : NoAttr K C "y"
  nw : NoAttr K C "width"
  nh : NoAttr K C "height"
def spInitPlace (C : Addr) : Sp := fun vs H Q _ => ∃ (p dx : Addr) (q : Sp21.Part), vs = [.ref p, .int q.x, .int q.y, .int q.w, .int q.h] ∧ H p = some (.ins C dx []) ∧ ∀ H', PlaceAt C H' p q → (∀ b o, H b = some o → b ≠ p → H' b = some o) → Q .non H'
def spPlaces (C : Addr) : Sp := fun vs H Q _ => ∃ f : Sp21.Head, HeadOk f ∧ vs = [.int f.wide, .int f.high, .int f.e] ∧ ∀ a H', Same H H' → H a = none → ListOf (PlaceAt C) H' a (places f) → Q (.ref a) H'
section
variable {P : Program} {w : World} {K : PySem.W.Frag} {mg : Str → Option Value} {base : Heap}
theorem scInitPlace : FnScope ["self", "x", "y", "width", "height"] ["self", "x", "y", "width", "height"] (defScope sInitPlace) := ⟨rfl, rfl, rfl, by decide +kernel, rfl, by decide +kernel, by decide +kernel⟩
theorem ok_initPlace {C : Addr} (D : MethAt K C "__init__" "Place.__init__" sInitPlace) (T : PlaceTxt K mg C) : OkM P w K mg base CX0 1 C "__init__" ["self", "x", "y", "width", "height"] (spInitPlace C) := by
  refine D.ok scInitPlace (fun _ _ _ _ _ _ us hl => match us, hl with | [_, _, _, _, _], _ => rfl) (fun vs H Q E h => ?_) (fun f cdv A outer s H vs Q E hr h => ?_)
  · obtain ⟨p, dx, q, rfl, _⟩ := h
    rfl
  · obtain ⟨p, dx, q, rfl, hp, k⟩ := h
    refine ⟨_, pss_cons (ps_fld (pv 0) (pv 1) rfl) (pss_cons (ps_fld (pv 0) (pv 2) rfl) (pss_cons (ps_fld (pv 0) (pv 3) rfl) (pss_one (ps_fld (pv 0) (pv 4) rfl)))), ?_⟩
    refine ⟨_, rfl, _, rfl, p, C, dx, _, rfl, hp, T.cl, T.nx, by decide, ?_⟩
    refine ⟨_, rfl, _, rfl, p, C, dx, _, rfl, upd_same, T.cl, T.ny, small_f (putF_le (Nat.le_refl 0)), ?_⟩
    refine ⟨_, rfl, _, rfl, p, C, dx, _, rfl, upd_same, T.cl, T.nw, small_f (putF_le (putF_le (Nat.le_refl 0))), ?_⟩
    refine ⟨_, rfl, _, rfl, p, C, dx, _, rfl, upd_same, T.cl, T.nh, small_f (putF_le (putF_le (putF_le (Nat.le_refl 0)))), ?_⟩
    refine k _ ⟨dx, upd_same⟩ fun b o e hb => ?_
    rw [upd_ne hb, upd_ne hb, upd_ne hb, upd_ne hb]
    exact e
theorem size_up {n s : Nat} (h0 : 0 < s) (hn : 0 < n) : Builtin.Range.rangeSize 0 (n : Int) (s : Int) = (((n + s - 1) / s : Nat) : Int) := by
  unfold Builtin.Range.rangeSize
  rw [if_pos (by omega), if_pos (by omega)]
  have e : (n : Int) - 0 - 1 = ((n - 1 : Nat) : Int) := by omega
  have : (n + s - 1) / s = (n - 1) / s + 1 := by
    rw [show n + s - 1 = (n - 1) + s by omega, Nat.add_div_right _ h0]
  rw [e, ← Int.natCast_ediv, this]
  omega
theorem rg_up {n s : Nat} (h0 : 0 < s) (h1 : s ≤ 256) (hn : 0 < n) (hn2 : n ≤ 256) : RgC 0 (n : Int) (s : Int) ((n + s - 1) / s) := by
  have hq : (n + s - 1) / s ≤ n + s - 1 := Nat.div_le_self _ _
  refine ⟨by omega, by omega, ?_, size_up h0 hn⟩
  unfold Builtin.Range.small
  rw [size_up h0 hn]
  generalize (n + s - 1) / s = q at hq
  simp only [Builtin.Range.rangeFitsLong, Bool.and_eq_true, Bool.or_eq_true, decide_eq_true_eq, beq_iff_eq, show (s : Int) > 0 by omega, if_true]
  omega
theorem across_le {f : Sp21.Head} (h : HeadOk f) : f.across ≤ 256 := by
  have := side_bounds h
  have := h.wide
  exact Nat.div_le_of_le_mul (by omega)
theorem down_le {f : Sp21.Head} (h : HeadOk f) : f.down ≤ 256 := by
  have := side_bounds h
  have := h.high
  exact Nat.div_le_of_le_mul (by omega)
theorem scPlaces : FnScope ["wide", "high", "e", "side", "places", "y", "x"] ["wide", "high", "e"] (defScope sPlaces) := ⟨rfl, rfl, rfl, by decide +kernel, rfl, by decide +kernel, by decide +kernel⟩
theorem ok_places {C : Addr} (D : DefAt K mg "tile_places" sPlaces) (zR : mg "range" = none) (zMin : mg "min" = none) (T : PlaceTxt K mg C) (oI : OkM P w K mg base CX0 1 C "__init__" ["self", "x", "y", "width", "height"] (spInitPlace C)) :
    OkF P w K mg base CX0 3 "tile_places" ["wide", "high", "e"] (spPlaces C) := by
  refine D.ok scPlaces (fun _ _ _ _ _ _ us hl => match us, hl with | [_, _, _], _ => rfl) (fun vs H Q E h => ?_) (fun f cdv A outer s H vs Q E hr h => ?_)
  · obtain ⟨f, _, rfl, _⟩ := h
    rfl
  · obtain ⟨f, hf, rfl, k⟩ := h
    have hs := side_bounds hf
    have hw := hf.wide
    have hh := hf.high
    have he := hf.e
    refine ⟨_, pss_cons (ps_set (i := 3) scPlaces.nd rfl (Or.inl rfl) (pe_op op_shl pe_int (pv 2)))
      (pss_cons (ps_set (i := 4) scPlaces.nd rfl (Or.inl rfl) (pe_lst pa_nil))
      (pss_cons (ps_for PassesOwn.never rfl (pi_range3 rfl zR (pa_cons pe_int (pa_cons (pv 1) (pa_cons (pv 3) pa_nil)))) (pg_name (i := 5) scPlaces.nd rfl (Or.inl rfl))
        (pss_one (ps_for PassesOwn.never rfl (pi_range3 rfl zR (pa_cons pe_int (pa_cons (pv 0) (pa_cons (pv 3) pa_nil)))) (pg_name (i := 6) scPlaces.nd rfl (Or.inl rfl))
          (pss_one (ps_expr (pe_bm PySem.F.plainAttrs_list PySem.F.slot_list_append PySem.F.type_list_append mt_append (pv 4)
            (pa_cons (pe_new oI T.toClsIn hr rfl (pa_cons (pv 6) (pa_cons (pv 5) (pa_cons (pe_callB (call_min2 rfl) (by rfl) zMin boot_min (pa_cons (pv 3) (pa_cons (pe_op op_sub (pv 0) (pv 6)) pa_nil)))
              (pa_cons (pe_callB (call_min2 rfl) (by rfl) zMin boot_min (pa_cons (pv 3) (pa_cons (pe_op op_sub (pv 1) (pv 5)) pa_nil))) pa_nil))))) pa_nil)))))))
      (pss_one (ps_ret (pv 4))))), ?_⟩
    -- side, places
    refine ⟨_, rfl, 1, f.e, rfl, rfl, ⟨by omega, by omega, by decide⟩, ?_⟩
    have es : (1 : Int) * 2 ^ ((f.e : Int)).toNat = ((2 ^ f.e : Nat) : Int) := by
      rw [Int.one_mul, Int.toNat_natCast]
      exact (Int.natCast_pow 2 f.e).symm
    dsimp only
    rw [es]
    refine ⟨Nat.zero_le _, fun a ha => ?_⟩
    -- the rows
    refine ⟨_, rfl, _, rfl, 0, (f.high : Int), ((2 ^ f.e : Nat) : Int), f.down, rfl, rg_up (by omega) hs.2 hh.1 hh.2, ?_⟩
    refine for_rangeC (fun j σ H2 => ∃ u v, σ = [some (.int f.wide), some (.int f.high), some (.int f.e), some (.int ((2 ^ f.e : Nat) : Int)), some (.ref a), u, v] ∧ Same H H2 ∧
      ListOf (PlaceAt C) H2 a ((List.range j).flatMap fun j => (List.range f.across).map fun i => placeAt f i j)) ⟨none, none, rfl, same_upd ha, ListOf.nil upd_same⟩ ?_ ?_
    · rintro j σ H2 hj ⟨u, v, rfl, s2, L2'⟩
      -- the places of a row
      refine ⟨_, rfl, _, rfl, 0, (f.wide : Int), ((2 ^ f.e : Nat) : Int), f.across, rfl, rg_up (by omega) hs.2 hw.1 hw.2, ?_⟩
      refine for_rangeC (fun i σ H3 => ∃ v, σ = [some (.int f.wide), some (.int f.high), some (.int f.e), some (.int ((2 ^ f.e : Nat) : Int)), some (.ref a), some (.int (0 + (j : Int) * ((2 ^ f.e : Nat) : Int))), v] ∧ Same H H3 ∧
        ListOf (PlaceAt C) H3 a (((List.range j).flatMap fun j => (List.range f.across).map fun i => placeAt f i j) ++ (List.range i).map fun i => placeAt f i j)) ⟨v, rfl, s2, by simpa using L2'⟩ ?_ ?_
      · rintro i σ H3 hi ⟨v, rfl, s3, L3⟩
        have hx : i * 2 ^ f.e < f.wide := (ceil_bounds (by omega) hw.1).2 i hi
        have hy : j * 2 ^ f.e < f.high := (ceil_bounds (by omega) hh.1).2 j hj
        obtain ⟨refs, g1, g2, _, g3⟩ := id L3
        refine ⟨_, rfl, .inl ⟨rfl, _, SqL.of g1⟩, ?_⟩
        refine ⟨_, rfl, _, rfl, _, rfl, _, rfl, _, rfl, _, _, rfl, rfl, _, _, rfl, _, rfl, _, rfl, _, rfl, _, _, rfl, rfl, _, _, rfl, fun p dx np ndx ne => ?_⟩
        have eqs : ([.ref p, .int (0 + (i : Int) * ((2 ^ f.e : Nat) : Int)), .int (0 + (j : Int) * ((2 ^ f.e : Nat) : Int)), .int (if (f.wide : Int) - (0 + (i : Int) * ((2 ^ f.e : Nat) : Int)) < ((2 ^ f.e : Nat) : Int) then (f.wide : Int) - (0 + (i : Int) * ((2 ^ f.e : Nat) : Int)) else ((2 ^ f.e : Nat) : Int)), .int (if (f.high : Int) - (0 + (j : Int) * ((2 ^ f.e : Nat) : Int)) < ((2 ^ f.e : Nat) : Int) then (f.high : Int) - (0 + (j : Int) * ((2 ^ f.e : Nat) : Int)) else ((2 ^ f.e : Nat) : Int))] : List V)
            = [.ref p, .int (placeAt f i j).x, .int (placeAt f i j).y, .int (placeAt f i j).w, .int (placeAt f i j).h] := by
          have e1 : (0 + (i : Int) * ((2 ^ f.e : Nat) : Int)) = ((i * 2 ^ f.e : Nat) : Int) := by rw [Int.zero_add, Int.natCast_mul]
          have e2 : (0 + (j : Int) * ((2 ^ f.e : Nat) : Int)) = ((j * 2 ^ f.e : Nat) : Int) := by rw [Int.zero_add, Int.natCast_mul]
          have e3 : (if (f.wide : Int) - ((i * 2 ^ f.e : Nat) : Int) < ((2 ^ f.e : Nat) : Int) then (f.wide : Int) - ((i * 2 ^ f.e : Nat) : Int) else ((2 ^ f.e : Nat) : Int)) = ((min (2 ^ f.e) (f.wide - i * 2 ^ f.e) : Nat) : Int) := by split <;> omega
          have e4 : (if (f.high : Int) - ((j * 2 ^ f.e : Nat) : Int) < ((2 ^ f.e : Nat) : Int) then (f.high : Int) - ((j * 2 ^ f.e : Nat) : Int) else ((2 ^ f.e : Nat) : Int)) = ((min (2 ^ f.e) (f.high - j * 2 ^ f.e) : Nat) : Int) := by split <;> omega
          rw [e1, e2, e3, e4]
          rfl
        refine ⟨p, dx, placeAt f i j, eqs, upd_same, fun H4 pl kp => ⟨rfl, ?_⟩⟩
        have s4 : Same H3 H4 := Same.made np ndx kp
        obtain ⟨refs', h1, h2, h3⟩ := L3.snoc (p := p) s4 (fun r y o hn ⟨d, z⟩ => ⟨d, by rw [upd_ne hn]; exact z⟩) (fun r y z => placeAt_same _ _ _ _ s4 z) (ne_of_none g1 np).symm pl
        have hcount : refs'.length ≤ 65536 := by
          rw [h2, List.length_append, List.length_map, List.length_range, flatMap_length_const (n := f.across) (fun j _ => by rw [List.length_map, List.length_range]), List.length_range]
          have a1 : f.across ≤ 256 := across_le hf
          have : j < 256 := Nat.lt_of_lt_of_le hj (down_le hf)
          have := Nat.mul_le_mul (show j ≤ 255 by omega) a1
          omega
        refine ⟨a, _, _, rfl, rfl, h1, by rw [List.length_map, sizeLine_eq]; omega, _, rfl, fun b o z => ?_, ?_⟩
        · rw [upd_ne (ne_of_none z ha)]
          exact s4 _ _ (s3 _ _ z)
        · rw [List.range_succ, List.map_append, ← List.append_assoc]
          exact h3
      · rintro σ H3 ⟨v, rfl, s3, L3⟩
        refine ⟨_, v, rfl, s3, ?_⟩
        rw [List.range_succ, List.flatMap_append]
        simpa using L3
    · rintro σ H2 ⟨u, v, rfl, s2, L2'⟩
      exact ⟨_, rfl, k a H2 s2 ha L2'⟩
end

def headF (k w h e v : Int) : List (Str × V) := putF "levels" (.int v) (putF "e" (.int e) (putF "high" (.int h) (putF "wide" (.int w) (putF "kinds" (.int k) []))))
theorem headF_k (k w h e v : Int) : (headF k w h e v).lookup ("kinds" : Str) = some (.int k) := by
  unfold headF
  rw [lookup_putF, if_neg (by decide +kernel), lookup_putF, if_neg (by decide +kernel), lookup_putF, if_neg (by decide +kernel), lookup_putF, if_neg (by decide +kernel), lookup_putF, if_pos rfl]
theorem headF_w (k w h e v : Int) : (headF k w h e v).lookup ("wide" : Str) = some (.int w) := by
  unfold headF
  rw [lookup_putF, if_neg (by decide +kernel), lookup_putF, if_neg (by decide +kernel), lookup_putF, if_neg (by decide +kernel), lookup_putF, if_pos rfl]
theorem headF_h (k w h e v : Int) : (headF k w h e v).lookup ("high" : Str) = some (.int h) := by
  unfold headF
  rw [lookup_putF, if_neg (by decide +kernel), lookup_putF, if_neg (by decide +kernel), lookup_putF, if_pos rfl]
theorem headF_e (k w h e v : Int) : (headF k w h e v).lookup ("e" : Str) = some (.int e) := by
  unfold headF
  rw [lookup_putF, if_neg (by decide +kernel), lookup_putF, if_pos rfl]
theorem headF_v (k w h e v : Int) : (headF k w h e v).lookup ("levels" : Str) = some (.int v) := by
  unfold headF
  rw [lookup_putF, if_pos rfl]
theorem headF_no (k w h e v : Int) {m : Str} (h1 : ¬ m = "levels") (h2 : ¬ m = "e") (h3 : ¬ m = "high") (h4 : ¬ m = "wide") (h5 : ¬ m = "kinds") : (headF k w h e v).lookup m = none := by
  unfold headF
  rw [lookup_putF, if_neg h1, lookup_putF, if_neg h2, lookup_putF, if_neg h3, lookup_putF, if_neg h4, lookup_putF, if_neg h5]
  rfl
/-- a head with any numbers in it -/
def HeadIs (C : Addr) (H : Hp) (p : Addr) (k w h e v : Int) : Prop := ∃ dx, H p = some (.ins C dx (headF k w h e v))
abbrev HeadAt (C : Addr) (H : Hp) (p : Addr) (f : Sp21.Head) : Prop := HeadIs C H p f.kinds f.wide f.high f.e f.levels
theorem HeadIs.same {C : Addr} {H H' : Hp} {p : Addr} {k w h e v : Int} (x : HeadIs C H p k w h e v) (s : Same H H') : HeadIs C H' p k w h e v := x.imp fun _ h => s _ _ h
structure HeadTxt (K : PySem.W.Frag) (mg : Str → Option Value) (C : Addr) : Prop extends ClsIn K mg "Head" C where
  nk : NoAttr K C "kinds"
  nw : NoAttr K C "wide"
  nh : NoAttr K C "high"
  ne : NoAttr K C "e"
  nv : NoAttr K C "levels"
def rangeB (k w h e v : Int) : Bool := decide (1 ≤ k ∧ k ≤ 4 ∧ 1 ≤ w ∧ w ≤ 256 ∧ 1 ≤ h ∧ h ≤ 256 ∧ 4 ≤ e ∧ e ≤ 8 ∧ 0 ≤ v ∧ v ≤ 5)
def spInitHead (C : Addr) : Sp := fun vs H Q _ => ∃ (p dx : Addr) (k w h e v : Int), vs = [.ref p, .int k, .int w, .int h, .int e, .int v] ∧ H p = some (.ins C dx []) ∧ ∀ H', HeadIs C H' p k w h e v → (∀ b o, H b = some o → b ≠ p → H' b = some o) → Q .non H'
def spInRange (C : Addr) : Sp := fun vs H Q _ => ∃ (p : Addr) (k w h e v : Int), vs = [.ref p] ∧ HeadIs C H p k w h e v ∧ Q (.bl (rangeB k w h e v)) H
def spHeadPlaces (CP C : Addr) : Sp := fun vs H Q _ => ∃ (p : Addr) (f : Sp21.Head), vs = [.ref p] ∧ HeadAt C H p f ∧ HeadOk f ∧ ∀ a H', Same H H' → H a = none → ListOf (PlaceAt CP) H' a (places f) → Q (.ref a) H'
section
variable {P : Program} {w : World} {K : PySem.W.Frag} {mg : Str → Option Value} {base : Heap}
theorem scInitHead : FnScope ["self", "kinds", "wide", "high", "e", "levels"] ["self", "kinds", "wide", "high", "e", "levels"] (defScope sInitHead) := ⟨rfl, rfl, rfl, by decide +kernel, rfl, by decide +kernel, by decide +kernel⟩
theorem ok_initHead {C : Addr} (D : MethAt K C "__init__" "Head.__init__" sInitHead) (T : HeadTxt K mg C) : OkM P w K mg base CX0 1 C "__init__" ["self", "kinds", "wide", "high", "e", "levels"] (spInitHead C) := by
  refine D.ok scInitHead (fun _ _ _ _ _ _ us hl => match us, hl with | [_, _, _, _, _, _], _ => rfl) (fun vs H Q E h => ?_) (fun f cdv A outer s H vs Q E hr h => ?_)
  · obtain ⟨p, dx, k, w, h, e, v, rfl, _⟩ := h
    rfl
  · obtain ⟨p, dx, k1, w1, h1, e1, v1, rfl, hp, k⟩ := h
    refine ⟨_, pss_cons (ps_fld (pv 0) (pv 1) rfl) (pss_cons (ps_fld (pv 0) (pv 2) rfl) (pss_cons (ps_fld (pv 0) (pv 3) rfl) (pss_cons (ps_fld (pv 0) (pv 4) rfl) (pss_one (ps_fld (pv 0) (pv 5) rfl))))), ?_⟩
    refine ⟨_, rfl, _, rfl, p, C, dx, _, rfl, hp, T.cl, T.nk, by decide, ?_⟩
    refine ⟨_, rfl, _, rfl, p, C, dx, _, rfl, upd_same, T.cl, T.nw, small_f (putF_le (Nat.le_refl 0)), ?_⟩
    refine ⟨_, rfl, _, rfl, p, C, dx, _, rfl, upd_same, T.cl, T.nh, small_f (putF_le (putF_le (Nat.le_refl 0))), ?_⟩
    refine ⟨_, rfl, _, rfl, p, C, dx, _, rfl, upd_same, T.cl, T.ne, small_f (putF_le (putF_le (putF_le (Nat.le_refl 0)))), ?_⟩
    refine ⟨_, rfl, _, rfl, p, C, dx, _, rfl, upd_same, T.cl, T.nv, small_f (putF_le (putF_le (putF_le (putF_le (Nat.le_refl 0))))), ?_⟩
    refine k _ ⟨dx, upd_same⟩ fun b o e hb => ?_
    rw [upd_ne hb, upd_ne hb, upd_ne hb, upd_ne hb, upd_ne hb]
    exact e
theorem scInRange : FnScope ["self"] ["self"] (defScope sInRange) := ⟨rfl, rfl, rfl, by decide +kernel, rfl, by decide +kernel, by decide +kernel⟩
theorem ok_inRange {C : Addr} (D : MethAt K C "in_range" "Head.in_range" sInRange) (T : HeadTxt K mg C) (cM : ∃ t, mg "MOST_LEVELS" = some (.int 5 t)) : OkM P w K mg base CX0 1 C "in_range" ["self"] (spInRange C) := by
  obtain ⟨t1, cM⟩ := cM
  refine D.ok scInRange (fun _ _ _ _ _ _ us hl => match us, hl with | [_], _ => rfl) (fun vs H Q E h => ?_) (fun f cdv A outer s H vs Q E hr h => ?_)
  · obtain ⟨p, k, w, h, e, v, rfl, _⟩ := h
    rfl
  · obtain ⟨p, k1, w1, h1, e1, v1, rfl, ⟨dx, hp⟩, k⟩ := h
    refine ⟨_, pss_one (ps_ret (pe_and (pe_chain op_le op_le pe_int (pe_fld (pv 0) rfl) pe_int) (pe_and (pe_chain op_le op_le pe_int (pe_fld (pv 0) rfl) pe_int) (pe_and (pe_chain op_le op_le pe_int (pe_fld (pv 0) rfl) pe_int)
      (pe_and (pe_chain op_le op_le pe_int (pe_fld (pv 0) rfl) pe_int) (pe_one (pe_chain op_le op_le pe_int (pe_fld (pv 0) rfl) (pe_glob (v := .int 5) (by rfl) cM ⟨t1, rfl⟩)))))))), ?_⟩
    have no : ∀ {c : Prop} [Decidable c], (¬ c → rangeB k1 w1 h1 e1 v1 = false) → ¬ (decide c = true) → Q (.bl false) H := fun hh hc => by
      rw [← hh (fun z => hc (decide_eq_true z))]
      exact k
    have fin : ∀ z : Bool, rangeB k1 w1 h1 e1 v1 = z → Q (.bl z) H := fun z hz => by rw [← hz]; exact k
    have rf : ¬ (1 ≤ k1 ∧ k1 ≤ 4 ∧ 1 ≤ w1 ∧ w1 ≤ 256 ∧ 1 ≤ h1 ∧ h1 ≤ 256 ∧ 4 ≤ e1 ∧ e1 ≤ 8 ∧ 0 ≤ v1 ∧ v1 ≤ 5) → rangeB k1 w1 h1 e1 v1 = false := fun z => decide_eq_false z
    refine ⟨_, rfl, p, C, dx, _, _, rfl, hp, T.cl, T.nk, headF_k .., _, _, rfl, rfl, _, rfl, ite2 (fun a1 => ?_) (fun a1 => ⟨_, rfl, iteF (no (fun z => rf (by omega)) a1)⟩)⟩
    refine ⟨_, _, rfl, rfl, _, rfl, ite2 (fun a2 => ?_) (no (fun z => rf (by omega)))⟩
    refine ⟨_, rfl, p, C, dx, _, _, rfl, hp, T.cl, T.nw, headF_w .., _, _, rfl, rfl, _, rfl, ite2 (fun a3 => ?_) (fun a1 => ⟨_, rfl, iteF (no (fun z => rf (by omega)) a1)⟩)⟩
    refine ⟨_, _, rfl, rfl, _, rfl, ite2 (fun a4 => ?_) (no (fun z => rf (by omega)))⟩
    refine ⟨_, rfl, p, C, dx, _, _, rfl, hp, T.cl, T.nh, headF_h .., _, _, rfl, rfl, _, rfl, ite2 (fun a5 => ?_) (fun a1 => ⟨_, rfl, iteF (no (fun z => rf (by omega)) a1)⟩)⟩
    refine ⟨_, _, rfl, rfl, _, rfl, ite2 (fun a6 => ?_) (no (fun z => rf (by omega)))⟩
    refine ⟨_, rfl, p, C, dx, _, _, rfl, hp, T.cl, T.ne, headF_e .., _, _, rfl, rfl, _, rfl, ite2 (fun a7 => ?_) (fun a1 => ⟨_, rfl, iteF (no (fun z => rf (by omega)) a1)⟩)⟩
    refine ⟨_, _, rfl, rfl, _, rfl, ite2 (fun a8 => ?_) (no (fun z => rf (by omega)))⟩
    refine ⟨_, rfl, p, C, dx, _, _, rfl, hp, T.cl, T.nv, headF_v .., _, _, rfl, rfl, _, rfl, ite2 (fun a9 => ?_) (fun a1 => no (fun z => rf (by omega)) a1)⟩
    refine ⟨_, _, rfl, rfl, fin _ ?_⟩
    simp only [decide_eq_true_eq] at a1 a2 a3 a4 a5 a6 a7 a8 a9
    unfold rangeB
    simp only [a1, a2, a3, a4, a5, a6, a7, a8, a9, true_and]
theorem scHeadPlaces : FnScope ["self"] ["self"] (defScope sHeadPlaces) := ⟨rfl, rfl, rfl, by decide +kernel, rfl, by decide +kernel, by decide +kernel⟩
theorem ok_headPlaces {CP C : Addr} (D : MethAt K C "places" "Head.places" sHeadPlaces) (T : HeadTxt K mg C) (oP : OkF P w K mg base CX0 3 "tile_places" ["wide", "high", "e"] (spPlaces CP)) : OkM P w K mg base CX0 4 C "places" ["self"] (spHeadPlaces CP C) := by
  refine D.ok scHeadPlaces (fun _ _ _ _ _ _ us hl => match us, hl with | [_], _ => rfl) (fun vs H Q E h => ?_) (fun f cdv A outer s H vs Q E hr h => ?_)
  · obtain ⟨p, f, rfl, _⟩ := h
    rfl
  · obtain ⟨p, f, rfl, ⟨dx, hp⟩, hf, k⟩ := h
    refine ⟨_, pss_one (ps_ret (pe_f0 oP hr rfl (pa_cons (pe_fld (pv 0) rfl) (pa_cons (pe_fld (pv 0) rfl) (pa_cons (pe_fld (pv 0) rfl) pa_nil))))), ?_⟩
    exact ⟨_, rfl, p, C, dx, _, _, rfl, hp, T.cl, T.nw, headF_w .., _, rfl, p, C, dx, _, _, rfl, hp, T.cl, T.nh, headF_h .., _, rfl, p, C, dx, _, _, rfl, hp, T.cl, T.ne, headF_e .., f, hf, rfl, k⟩
end

abbrev B (b : List Nat) : List V := (Sp21.ints b).map V.int
theorem B_get {b : List Nat} {i : Nat} (h : i < b.length) : (B b)[i]? = some (.int (b.getD i 0 : Nat)) := by
  show ((Sp21.ints b).map V.int)[i]? = _
  unfold Sp21.ints
  rw [List.map_map, List.getElem?_map, List.getElem?_eq_getElem h]
  simp [List.getD_eq_getElem?_getD, h]
theorem B_len (b : List Nat) : (B b).length = b.length := by simp [B, Sp21.ints]
theorem B_cut (b : List Nat) (i n : Nat) : cutV (B b) (some (i : Int)) (some ((i + n : Nat) : Int)) = B ((b.drop i).take n) := by
  unfold cutV
  rw [HT.sIx_nat, HT.sIx_nat, B_len]
  show (((Sp21.ints b).map V.int).drop _).take _ = ((Sp21.ints ((b.drop i).take n)).map V.int)
  unfold Sp21.ints
  rw [List.map_take, List.map_take, List.map_drop, List.map_drop]
  by_cases h : i ≤ b.length
  · rw [Nat.min_eq_left h]
    by_cases h2 : i + n ≤ b.length
    · rw [Nat.min_eq_left h2, Nat.add_sub_cancel_left]
    · rw [Nat.min_eq_right (by omega), List.take_of_length_le (by simp), List.take_of_length_le (by simp; omega)]
  · rw [Nat.min_eq_right (a := i) (b := b.length) (by omega), List.drop_eq_nil_of_le (by simp), List.drop_eq_nil_of_le (by simp; omega)]
    simp
theorem B_to (b : List Nat) (n : Nat) : cutV (B b) none (some (n : Int)) = B (b.take n) := by
  unfold cutV
  rw [HT.sIx_nat, HT.sIx_none, B_len, List.drop_zero, Nat.sub_zero]
  show ((Sp21.ints b).map V.int).take _ = (Sp21.ints (b.take n)).map V.int
  unfold Sp21.ints
  rw [List.map_take, List.map_take]
  by_cases h : n ≤ b.length
  · rw [Nat.min_eq_left h]
  · rw [Nat.min_eq_right (by omega), List.take_of_length_le (by simp), List.take_of_length_le (by simp; omega)]
def CodeAt (H : Hp) (p : Addr) (c : List Nat) : Prop := H p = some (.lst (B c))
theorem codeAt_same : ∀ (H H' : Hp) (r : Addr) (x : List Nat), Same H H' → CodeAt H r x → CodeAt H' r x := fun _ _ _ _ s h => s _ _ h
def Bytes (b : List Nat) : Prop := ∀ x ∈ b, x < 256

def partsF (hp ca : Addr) : List (Str × V) := putF "codes" (.ref ca) (putF "head" (.ref hp) [])
theorem partsF_head (hp ca : Addr) : (partsF hp ca).lookup ("head" : Str) = some (.ref hp) := by
  unfold partsF
  rw [lookup_putF, if_neg (by decide +kernel), lookup_putF, if_pos rfl]
theorem partsF_codes (hp ca : Addr) : (partsF hp ca).lookup ("codes" : Str) = some (.ref ca) := by
  unfold partsF
  rw [lookup_putF, if_pos rfl]
structure PartsTxt (K : PySem.W.Frag) (mg : Str → Option Value) (C : Addr) : Prop extends ClsIn K mg "Parts" C where
  nh : NoAttr K C "head"
  nc : NoAttr K C "codes"
structure PartsAt (C CH : Addr) (H : Hp) (p : Addr) (f : Sp21.Head) (l : List (List Nat)) : Prop where
  ex : ∃ dx hp ca, H p = some (.ins C dx (partsF hp ca)) ∧ HeadAt CH H hp f ∧ ListOf CodeAt H ca l
def spInitParts (C : Addr) : Sp := fun vs H Q _ => ∃ (p dx hp ca : Addr), vs = [.ref p, .ref hp, .ref ca] ∧ H p = some (.ins C dx []) ∧ ∀ H', (∃ dx, H' p = some (.ins C dx (partsF hp ca))) → (∀ b o, H b = some o → b ≠ p → H' b = some o) → Q .non H'
def spNumber (K : PySem.W.Frag) : Sp := fun vs H Q _ => ∃ (a : Addr) (b : List Nat), vs = [.ref a] ∧ SqL K H a (B b) ∧ Bytes b ∧ b.length ≤ 1000 ∧ ∀ H', Same H H' → Q (.int (numOf b : Nat)) H'
def spHeadOf (K : PySem.W.Frag) (C CN : Addr) : Sp := fun vs H Q E => ∃ (a : Addr) (b : List Nat), vs = [.ref a] ∧ SqL K H a (B b) ∧ Bytes b ∧ b.length ≤ 2000000 ∧
  (∀ f, headP b = some f → ∀ p H', Same H H' → H p = none → HeadAt C H' p f → Q (.ref p) H') ∧ (headP b = none → ∀ H', Same H H' → E (.ref CN) none H')
def spTable (K : PySem.W.Frag) : Sp := fun vs H Q _ => ∃ (a : Addr) (b : List Nat) (n : Nat), vs = [.ref a, .int n] ∧ SqL K H a (B b) ∧ Bytes b ∧ b.length ≤ 2000000 ∧ n ≤ 1000 ∧ Ans H ((Sp21.ints (lengthsOf b n)).map V.int) Q
def spTiles (K : PySem.W.Frag) (C CN : Addr) : Sp := fun vs H Q E => ∃ (a h : Addr) (b : List Nat) (f : Sp21.Head), vs = [.ref a, .ref h] ∧ SqL K H a (B b) ∧ Bytes b ∧ b.length ≤ 2000000 ∧ HeadAt C H h f ∧ HeadOk f ∧
  (∀ l, tilesP b f = some l → ∀ p H', Same H H' → H p = none → ListOf CodeAt H' p l → Q (.ref p) H') ∧ (tilesP b f = none → ∀ H', Same H H' → E (.ref CN) none H')
def spOpened (K : PySem.W.Frag) (CP CH CN : Addr) : Sp := fun vs H Q E => ∃ (a : Addr) (b : List Nat), vs = [.ref a] ∧ SqL K H a (B b) ∧ Bytes b ∧ b.length ≤ 2000000 ∧
  (∀ f l, Sp21.headOf b = some (f, l) → ∀ p H', Same H H' → PartsAt CP CH H' p f l → Q (.ref p) H') ∧ (Sp21.headOf b = none → ∀ H', Same H H' → E (.ref CN) none H')
section
variable {P : Program} {w : World} {K : PySem.W.Frag} {mg : Str → Option Value} {base : Heap}
theorem scInitParts : FnScope ["self", "head", "codes"] ["self", "head", "codes"] (defScope sInitParts) := ⟨rfl, rfl, rfl, by decide +kernel, rfl, by decide +kernel, by decide +kernel⟩
theorem ok_initParts {C : Addr} (D : MethAt K C "__init__" "Parts.__init__" sInitParts) (T : PartsTxt K mg C) : OkM P w K mg base CX0 1 C "__init__" ["self", "head", "codes"] (spInitParts C) := by
  refine D.ok scInitParts (fun _ _ _ _ _ _ us hl => match us, hl with | [_, _, _], _ => rfl) (fun vs H Q E h => ?_) (fun f cdv A outer s H vs Q E hr h => ?_)
  · obtain ⟨p, dx, hp, ca, rfl, _⟩ := h
    rfl
  · obtain ⟨p, dx, hp, ca, rfl, h1, k⟩ := h
    refine ⟨_, pss_cons (ps_fld (pv 0) (pv 1) rfl) (pss_one (ps_fld (pv 0) (pv 2) rfl)), ?_⟩
    refine ⟨_, rfl, _, rfl, p, C, dx, _, rfl, h1, T.cl, T.nh, by decide, ?_⟩
    refine ⟨_, rfl, _, rfl, p, C, dx, _, rfl, upd_same, T.cl, T.nc, small_f (putF_le (Nat.le_refl 0)), ?_⟩
    refine k _ ⟨dx, upd_same⟩ fun b o e hb => ?_
    rw [upd_ne hb, upd_ne hb]
    exact e
theorem scNumber : FnScope ["some_bytes", "number", "i", "byte"] ["some_bytes"] (defScope sNumber) := ⟨rfl, rfl, rfl, by decide +kernel, rfl, by decide +kernel, by decide +kernel⟩
theorem ok_number (D : DefAt K mg "number_of" sNumber) (zE : mg "enumerate" = none) : OkF P w K mg base CX0 1 "number_of" ["some_bytes"] (spNumber K) := by
  refine D.ok scNumber (fun _ _ _ _ _ _ us hl => match us, hl with | [_], _ => rfl) (fun vs H Q E h => ?_) (fun f cdv A outer s H vs Q E hr h => ?_)
  · obtain ⟨a, b, rfl, _⟩ := h
    rfl
  · obtain ⟨a, b, rfl, hS, hb, hl, k⟩ := h
    refine ⟨_, pss_cons (ps_set (i := 1) scNumber.nd rfl (Or.inl rfl) pe_int)
      (pss_cons (ps_for PassesOwn.never rfl (pi_enum rfl zE (pa_cons (pv 0) pa_nil)) (pg_tup rfl (pgs_cons (pg_name (i := 2) scNumber.nd rfl (Or.inl rfl)) (pgs_cons (pg_name (i := 3) scNumber.nd rfl (Or.inl rfl)) pgs_nil)))
        (pss_one (ps_aug (i := 1) scNumber.nd rfl (Or.inl rfl) (pe_op op_shl (pv 3) (pe_op op_mul pe_int (pv 2))) ip_or)))
      (pss_one (ps_ret (pv 1)))), ?_⟩
    refine ⟨_, rfl, a, _, rfl, hS, for_enum (K := K) (xs := B b) (fun i σ H2 => ∃ u v, σ = [some (.ref a), some (.int (numOf (b.take i) : Nat)), u, v] ∧ Same H H2) ⟨none, none, rfl, Same.refl H⟩ (fun i σ H2 _ ⟨_, _, _, s2⟩ => s2.seq hS) ?_ ?_⟩
    · rintro i x T σ H2 hx hT ⟨u, v, rfl, s2⟩
      have hi : i < b.length := by have := (List.getElem?_eq_some_iff.mp hx).1; rwa [B_len] at this
      rw [B_get hi] at hx
      cases hx
      have hbyte := getD_byte hb i
      refine ⟨T, _, rfl, SqT.of upd_same, rfl, _, _, rfl, _, _, rfl, rfl, _, rfl, _, rfl, _, rfl, _, _, rfl, rfl, .inl ⟨by decide, by decide⟩, _, _, rfl, rfl, ⟨by omega, by omega, by omega⟩, _, _, rfl, rfl, some (.int (i : Nat)), some (.int (b.getD i 0 : Nat)), ?_, s2.new hT⟩
      have e1 : (8 * (i : Int)).toNat = 8 * i := by omega
      have e2 : numOf (b.take (i + 1)) = numOf (b.take i) + b.getD i 0 * 256 ^ i := by
        have : b.take (i + 1) = b.take i ++ [b.getD i 0] := by
          rw [List.take_succ, List.getElem?_eq_getElem hi]
          simp [List.getD_eq_getElem?_getD, hi]
        rw [this, numOf_snoc, List.length_take, Nat.min_eq_left (by omega)]
      have e3 : (256 : Nat) ^ i = 2 ^ (8 * i) := by rw [Nat.pow_mul]
      have lt : numOf (b.take i) < 2 ^ (8 * i) := by
        have := numOf_lt (l := b.take i) fun x hx => hb x (List.mem_of_mem_take hx)
        rwa [List.length_take, Nat.min_eq_left (by omega), e3] at this
      have e4 : Builtin.bitOr ((numOf (b.take i) : Nat) : Int) (((b.getD i 0 : Nat) : Int) * 2 ^ (8 * (i : Int)).toNat) = ((numOf (b.take (i + 1)) : Nat) : Int) := by
        rw [e1, Bits.bitOr_join (k := 8 * i) (by omega) (by exact_mod_cast lt) (by omega), e2, e3]
        push_cast
        rfl
      show [some (V.ref a), some (V.int _), some (V.int _), some (V.int _)] = _
      rw [e4]
    · rintro σ H2 ⟨u, v, rfl, s2⟩
      refine ⟨_, rfl, ?_⟩
      rw [B_len, List.take_length]
      exact k H2 s2
theorem scHeadOf : FnScope ["coded", "head"] ["coded"] (defScope sHeadOf) := ⟨rfl, rfl, rfl, by decide +kernel, rfl, by decide +kernel, by decide +kernel⟩
theorem first4 {b : List Nat} (h : 4 ≤ b.length) : PyData.eqv (.tuple ((Sp21.ints (b.take 4)).map PyData.int)) (.tuple ([84, 73, 76, 83].map PyData.int)) = decide (b.take 4 = [84, 73, 76, 83]) := by
  match b, h with
  | x0 :: x1 :: x2 :: x3 :: r, _ =>
    simp only [List.take, Sp21.ints, List.map]
    rw [Bool.eq_iff_iff]
    simp [PyData.eqv, PyData.eqvAll, and_assoc]
    omega
theorem dpAll_ints {K : PySem.W.Frag} {H : Hp} : ∀ (l : List Int), DpAll K H (l.map V.int) (l.map PyData.int)
  | [] => .nil
  | x :: l => .cons (.int x) (dpAll_ints l)
theorem ok_headOf {C CN : Addr} {ta : Addr} (D : DefAt K mg "head_of" sHeadOf) (zLen : mg "len" = none) (zTup : mg "tuple" = none) (cH : ∃ t, mg "HEAD_LENGTH" = some (.int 9 t)) (cF : mg "FIRST_BYTES" = some (.ref ta)) (hF : ∀ H, SqT K H ta ([84, 73, 76, 83].map V.int))
    (T : HeadTxt K mg C) (cN : ExcAt K mg "NotACode" CN) (oI : OkM P w K mg base CX0 1 C "__init__" ["self", "kinds", "wide", "high", "e", "levels"] (spInitHead C)) (oR : OkM P w K mg base CX0 1 C "in_range" ["self"] (spInRange C)) :
    OkF P w K mg base (CX1 P w) 3 "head_of" ["coded"] (spHeadOf K C CN) := by
  obtain ⟨t1, cH⟩ := cH
  refine D.okx scHeadOf (fun _ _ _ _ _ _ us hl => match us, hl with | [_], _ => rfl) (fun vs H Q E h => ?_) (fun f cdv A outer s H vs Q E hr h X hX => ?_)
  · obtain ⟨a, b, rfl, _⟩ := h
    rfl
  · subst hX
    obtain ⟨a, b, rfl, hS, hb, hl, k1, k2⟩ := h
    have hr1 : Room 1 _ := hr.mono (by decide)
    refine ⟨_, pss_cons (ps_if (pw_or (pt_cmpR op_lt (pe_callB call_len_seq (by rfl) zLen PySem.boot_len (pa_cons (pv 0) pa_nil)) (pe_glob (v := .int 9) (by rfl) cH ⟨t1, rfl⟩) (nomark _))
          (pw_or1 (pt_cmpR (op_neD hr.units) (pe_callTy call_tuple_of (by rfl) zTup boot_tuple (pa_cons (pe_slice sl_list (pv 0) po_none (po_some pe_int)) pa_nil)) (pe_glob (v := .ref ta) (by rfl) cF rfl) (nomark _)))).pt
        (pss_one (ps_raise plain_cx rfl rfl cN)) pss_nil)
      (pss_cons (ps_set (i := 1) scHeadOf.nd rfl (Or.inl rfl) (pe_new oI T.toClsIn hr rfl (pa_cons (pe_ix ix_list (pv 0) pe_int (fun _ _ => rfl)) (pa_cons (pe_op op_add (pe_ix ix_list (pv 0) pe_int (fun _ _ => rfl)) pe_int)
        (pa_cons (pe_op op_add (pe_ix ix_list (pv 0) pe_int (fun _ _ => rfl)) pe_int) (pa_cons (pe_ix ix_list (pv 0) pe_int (fun _ _ => rfl)) (pa_cons (pe_ix ix_list (pv 0) pe_int (fun _ _ => rfl)) pa_nil)))))))
      (pss_cons (ps_if (pt_not (pt_val (pe_m0' oR T.cl hr1 pass0 (pv 1)))) (pss_one (ps_raise plain_cx rfl rfl cN)) pss_nil)
      (pss_one (ps_ret (pv 1))))), ?_⟩
    have hlen : ((B b).length : Int) = (b.length : Int) := by rw [B_len]
    refine ⟨_, rfl, a, _, rfl, .inl hS, _, _, rfl, rfl, _, rfl, ?_⟩
    rw [hlen]
    refine ite2 (fun c1 => ?_) (fun c1 => ?_)
    · have c1 : b.length < 9 := by have := of_decide_eq_true c1; omega
      refine iteT (k2 ?_ H (Same.refl H))
      unfold headP
      rw [if_pos (.inl c1)]
    · have c1 : ¬ b.length < 9 := fun z => c1 (decide_eq_true (by omega))
      refine ⟨_, rfl, _, rfl, a, _, rfl, hS, fun p1 hp1 => ?_⟩
      rw [show (4 : Int) = ((4 : Nat) : Int) from rfl, B_to]
      refine ⟨p1, _, rfl, .inl ⟨SqL.of upd_same, fun p2 hp2 => ?_⟩⟩
      have s2 := (same_upd (o := .lst (B (b.take 4))) hp1).new (o := .tup (B (b.take 4))) hp2
      refine ⟨.tuple ((Sp21.ints (b.take 4)).map PyData.int), .tuple (([84, 73, 76, 83] : List Int).map PyData.int), .tup (SqT.of upd_same) (dpAll_ints _), .tup (hF _) (dpAll_ints [84, 73, 76, 83]), ?_, by decide, _, rfl, ?_⟩
      · match b, c1 with
        | x0 :: x1 :: x2 :: x3 :: r, _ => rfl
        | [], z => exact absurd (by decide) z
        | [_], z => exact absurd (by show 1 < 9; decide) z
        | [_, _], z => exact absurd (by show 2 < 9; decide) z
        | [_, _, _], z => exact absurd (by show 3 < 9; decide) z
      rw [first4 (by omega)]
      refine ite2 (fun c2 => ?_) (fun c2 => ?_)
      · refine k2 ?_ _ s2
        unfold headP
        rw [if_pos (.inr (by simpa using c2))]
      · have c2 : b.take 4 = [84, 73, 76, 83] := by simpa using c2
        -- the head
        have at_ : ∀ i : Nat, i < 9 → atI (B b) (i : Int) = some (.int (b.getD i 0 : Nat)) := fun i hi => atI_nat (B_get (by omega))
        have hS2 := s2.seq hS
        refine ⟨_, rfl, a, _, _, _, rfl, rfl, hS2, at_ 4 (by decide), _, rfl, a, _, _, _, rfl, rfl, hS2, at_ 5 (by decide), _, _, rfl, rfl, _, rfl, a, _, _, _, rfl, rfl, hS2, at_ 6 (by decide), _, _, rfl, rfl, _, rfl, a, _, _, _, rfl, rfl, hS2, at_ 7 (by decide), _, rfl, a, _, _, _, rfl, rfl, hS2, at_ 8 (by decide), fun p dx np ndx ne => ?_⟩
        refine ⟨p, dx, _, _, _, _, _, rfl, upd_same, fun H3 hd kp => ⟨rfl, ?_⟩⟩
        have s3 := s2.trans (Same.made np ndx kp)
        obtain ⟨dx', g3⟩ := id hd
        refine ⟨_, rfl, p, dx', _, rfl, g3, headF_no _ _ _ _ _ (by decide +kernel) (by decide +kernel) (by decide +kernel) (by decide +kernel) (by decide +kernel), p, _, _, _, _, _, rfl, hd, _, rfl, ?_⟩
        have h5 := getD_byte hb 5
        have h6 := getD_byte hb 6
        have er : rangeB ((b.getD 4 0 : Nat) : Int) ((b.getD 5 0 : Nat) + 1 : Int) ((b.getD 6 0 : Nat) + 1 : Int) ((b.getD 7 0 : Nat) : Int) ((b.getD 8 0 : Nat) : Int) = decide (1 ≤ b.getD 4 0 ∧ b.getD 4 0 ≤ 4 ∧ 4 ≤ b.getD 7 0 ∧ b.getD 7 0 ≤ 8 ∧ b.getD 8 0 ≤ 5) := by
          unfold rangeB
          rw [Bool.eq_iff_iff, decide_eq_true_eq, decide_eq_true_eq]
          omega
        by_cases c3 : 1 ≤ b.getD 4 0 ∧ b.getD 4 0 ≤ 4 ∧ 4 ≤ b.getD 7 0 ∧ b.getD 7 0 ≤ 8 ∧ b.getD 8 0 ≤ 5
        · rw [er, decide_eq_true c3]
          refine iteF ⟨_, rfl, k1 ⟨b.getD 4 0, b.getD 5 0 + 1, b.getD 6 0 + 1, b.getD 7 0, b.getD 8 0⟩ ?_ p H3 s3 (s2.free np) ?_⟩
          · unfold headP
            rw [if_neg (by rintro (z | z); exact c1 z; exact z c2), if_pos c3]
          · show HeadIs C H3 p _ _ _ _ _
            have e5 : (((b.getD 5 0 + 1 : Nat)) : Int) = ((b.getD 5 0 : Nat) : Int) + 1 := by omega
            have e6 : (((b.getD 6 0 + 1 : Nat)) : Int) = ((b.getD 6 0 : Nat) : Int) + 1 := by omega
            dsimp only
            rw [e5, e6]
            exact hd
        · rw [er, decide_eq_false c3]
          refine iteT (k2 ?_ H3 s3)
          unfold headP
          rw [if_neg (by rintro (z | z); exact c1 z; exact z c2), if_neg c3]
end

theorem ints_len (l : List Nat) : (Sp21.ints l).length = l.length := by simp [Sp21.ints]
theorem cutInto_len {α : Type} : ∀ (ns : List Nat) (l : List α), (Sp21.cutInto ns l).length = ns.length
  | [], _ => rfl
  | n :: r, l => congrArg (· + 1) (cutInto_len r (l.drop n))
theorem lengths_len (b : List Nat) (n : Nat) : (lengthsOf b n).length = n := by simp [lengthsOf]
theorem cutInto_get {α : Type} : ∀ (ns : List Nat) (l : List α) (i n : Nat), ns[i]? = some n → (Sp21.cutInto ns l)[i]? = some ((l.drop (ns.take i).sum).take n)
  | [], _, _, _, h => by simp at h
  | m :: r, l, 0, n, h => by
    have e : m = n := Option.some.inj h
    subst e
    simp [Sp21.cutInto]
  | m :: r, l, i + 1, n, h => by
    have ih := cutInto_get r (l.drop m) i n h
    show (Sp21.cutInto r (l.drop m))[i]? = _
    rw [ih, List.drop_drop]
    simp
theorem ints_sum : ∀ l : List Nat, (Sp21.ints l).sum = ((l.sum : Nat) : Int)
  | [] => rfl
  | x :: l => by
    show ((x : Int) :: Sp21.ints l).sum = _
    rw [List.sum_cons, List.sum_cons, ints_sum l]
    omega
def spCheck (K : PySem.W.Frag) : Sp := fun vs H Q _ => ∃ (a : Addr) (b : List Nat), vs = [.ref a] ∧ SqL K H a (B b) ∧ Bytes b ∧ b.length ≤ 1048576 ∧ Q .non H
theorem bytes_in {b : List Nat} (hb : Bytes b) : allIn 0 255 (Sp21.ints b) = true := by
  rw [allIn_iff]
  have h : ∀ n ∈ Sp21.ints b, 0 ≤ n ∧ n ≤ 255 := fun n hn => by
    obtain ⟨x, hx, rfl⟩ := List.mem_map.mp hn
    have := hb x hx
    omega
  exact ⟨fun n hn => (h n hn).1, fun n hn => (h n hn).2⟩
section
variable {P : Program} {w : World} {K : PySem.W.Frag} {mg : Str → Option Value} {base : Heap}
theorem scCheck : FnScope ["coded"] ["coded"] (defScope sCheck) := ⟨rfl, rfl, rfl, by decide +kernel, rfl, by decide +kernel, by decide +kernel⟩
theorem ok_check (D : DefAt K mg "check_bytes" sCheck) (zLen : mg "len" = none) (cM : ∃ t, mg "MOST_BYTES" = some (.int 1048576 t)) (cH : ∃ t, mg "HIGHEST_BYTE" = some (.int 255 t))
    (oB : OkF P w K mg base CX0 1 "all_between" ["numbers", "lowest", "highest"] (spBetween K)) : OkF P w K mg base CX0 2 "check_bytes" ["coded"] (spCheck K) := by
  obtain ⟨t1, cM⟩ := cM
  obtain ⟨t2, cH⟩ := cH
  refine D.ok scCheck (fun _ _ _ _ _ _ us hl => match us, hl with | [_], _ => rfl) (fun vs H Q E h => ?_) (fun f cdv A outer s H vs Q E hr h => ?_)
  · obtain ⟨a, b, rfl, _⟩ := h
    rfl
  · obtain ⟨a, b, rfl, hS, hb, hl, k⟩ := h
    refine ⟨_, pss_one (ps_if (pw_or (pt_cmpR op_gt (pe_callB call_len_seq (by rfl) zLen PySem.boot_len (pa_cons (pv 0) pa_nil)) (pe_glob (v := .int 1048576) (by rfl) cM ⟨t1, rfl⟩) (nomark _))
      (pw_or1 (pt_not (pt_val (pe_f0 oB hr (by rfl) (pa_cons (pv 0) (pa_cons pe_int (pa_cons (pe_glob (v := .int 255) (by rfl) cH ⟨t2, rfl⟩) pa_nil)))))))).pt pss_never pss_nil), ?_⟩
    refine ⟨_, rfl, a, _, rfl, .inl hS, _, _, rfl, rfl, _, rfl, ?_⟩
    have e : decide ((1048576 : Int) < ((B b).length : Int)) = false := decide_eq_false (by rw [B_len]; omega)
    rw [e]
    refine iteF ⟨_, rfl, a, Sp21.ints b, 0, 255, rfl, hS, _, rfl, ?_⟩
    rw [bytes_in hb]
    exact iteF k
theorem scTable : FnScope ["coded", "many", "starts", "i", "start"] ["coded", "many"] (defScope sTable) := ⟨rfl, rfl, rfl, by decide +kernel, rfl, by decide +kernel, by decide +kernel⟩
theorem ok_table (D : DefAt K mg "table_of" sTable) (zR : mg "range" = none) (cH : ∃ t, mg "HEAD_LENGTH" = some (.int 9 t)) (oN : OkF P w K mg base CX0 1 "number_of" ["some_bytes"] (spNumber K)) :
    OkF P w K mg base CX0 2 "table_of" ["coded", "many"] (spTable K) := by
  obtain ⟨t1, cH⟩ := cH
  refine D.ok scTable (fun _ _ _ _ _ _ us hl => match us, hl with | [_, _], _ => rfl) (fun vs H Q E h => ?_) (fun f cdv A outer s H vs Q E hr h => ?_)
  · obtain ⟨a, b, n, rfl, _⟩ := h
    rfl
  · obtain ⟨a, b, n, rfl, hS, hb, hl, hn, k⟩ := h
    refine ⟨_, pss_cons (ps_setLc (i := 2) (own := [("i", 3)]) (g := gName 3) rfl scTable.nd rfl rfl (sw_true rfl rfl rfl (by decide +kernel)) (pi_range1 rfl zR (pa_cons (pv 1) pa_nil)) (blkOk_by (by kernel_rfl))
        (fun s H C cl fp => pg_name (i := 3) scTable.nd rfl (Or.inl rfl)) (fun s H C cl fp => pts_nil) (fun s H C cl fp => pe_op op_add (pe_glob (v := .int 9) (by rfl) cH ⟨t1, rfl⟩) (pe_op op_mul pe_int (pv 3))))
      (pss_one (ps_ret (pe_lc (own := [("start", 4)]) (g := gName 4) (te := tCall (spNumber K) [] E0 (tCons (tSl (rSlL K) (tVar 0) (tPart (tVar 4)) (tPart (tOp (rI0 fun i j => .int (i + j)) (tVar 4) (tC (.int 3))))) tNil)) rfl scTable.nd (pi_list (pv 2)) (blkOk_by (by kernel_rfl))
        (fun s H C cl fp => pg_name (i := 4) scTable.nd rfl (Or.inl rfl)) (fun s H C cl fp => pts_nil)
        (fun s H C cl fp => pe_f0 oN hr (by rfl) (pa_cons (pe_slice sl_list (pv 0) (po_some (pv 4)) (po_some (pe_op op_add (pv 4) pe_int))) pa_nil))))), ?_⟩
    refine ⟨_, rfl, (n : Int), rfl, by omega, by omega, fun D1 hD1 => ?_⟩
    refine lc_rangeI (fun i => (9 : Int) + 3 * (i : Int)) hD1 (line_ge (by omega)) (fun i H2 Q' hi _ hq => ?_) (fun H2 s2 g2 => ?_)
    · refine ⟨rfl, _, rfl, _, _, rfl, rfl, .inl ⟨by decide, by decide⟩, _, _, rfl, rfl, ?_⟩
      rw [Int.zero_add]
      exact hq _ (Same.refl _)
    · rw [Int.toNat_natCast] at g2
      have sA : Same H H2 := s2
      refine ⟨_, rfl, D1, rfl, ⟨_, SqL.of g2⟩, fun D2 hD2 => ?_⟩
      refine lc_listI (fun st => ((numOf ((b.drop st.toNat).take 3) : Nat) : Int)) hD2 (SqL.of g2) (by rw [List.length_map, List.length_range]; exact line_ge (by omega)) (fun i u H3 Q' hu s3 hq => ?_) (fun H3 s3 g3 => ?_)
      · have hi : i < n := by have := (List.getElem?_eq_some_iff.mp hu).1; simpa using this
        have eu : u = ((9 + 3 * i : Nat) : Int) := by
          rw [List.getElem?_map, List.getElem?_range hi] at hu
          have := Option.some.inj hu
          dsimp only at this
          omega
        subst eu
        have e3 : (((9 + 3 * i : Nat) : Int) + 3) = ((9 + 3 * i + 3 : Nat) : Int) := by omega
        refine ⟨rfl, _, rfl, _, rfl, _, rfl, _, rfl, _, _, rfl, rfl, _, rfl, a, _, rfl, (sA.trans s3).seq hS, fun p hp => ?_⟩
        rw [e3, B_cut]
        refine ⟨p, _, rfl, SqL.of upd_same, fun x hx => hb x (List.mem_of_mem_drop (List.mem_of_mem_take hx)), ?_, fun H4 s4 => ?_⟩
        · rw [List.length_take]; omega
        · rw [Int.toNat_natCast] at hq
          exact hq H4 ((same_upd hp).trans s4)
      · refine k D2 H3 (sA.trans s3) (sA.free hD2) ?_
        have e : ((List.range n).map fun (i : Nat) => (9 : Int) + 3 * (i : Int)).map (fun st => ((numOf ((b.drop st.toNat).take 3) : Nat) : Int)) = Sp21.ints (lengthsOf b n) := by
          unfold lengthsOf Sp21.ints
          rw [List.map_map, List.map_map]
          refine List.map_congr_left fun i _ => ?_
          show ((numOf ((b.drop ((9 : Int) + 3 * (i : Int)).toNat).take 3) : Nat) : Int) = _
          rw [show ((9 : Int) + 3 * (i : Int)).toNat = 9 + 3 * i by omega]
          rfl
        rw [g3, e]
end

theorem any_zero {l : List Nat} : (l.any fun x => x == 0) = decide (∃ x ∈ l, x = 0) := by
  rw [Bool.eq_iff_iff, List.any_eq_true, decide_eq_true_eq]
  simp
theorem take_sum_succ {l : List Nat} {i n : Nat} (h : l[i]? = some n) : (l.take (i + 1)).sum = (l.take i).sum + n := by
  rw [List.take_succ, h]
  simp
section
variable {P : Program} {w : World} {K : PySem.W.Frag} {mg : Str → Option Value} {base : Heap}
theorem scTiles : FnScope ["coded", "head", "many", "lengths", "start", "codes", "length"] ["coded", "head"] (defScope sTiles) := ⟨rfl, rfl, rfl, by decide +kernel, rfl, by decide +kernel, by decide +kernel⟩
theorem ok_tiles {CP C CN : Addr} (D : DefAt K mg "tile_codes_of" sTiles) (zLen : mg "len" = none) (zMin : mg "min" = none) (zSum : mg "sum" = none) (cH : ∃ t, mg "HEAD_LENGTH" = some (.int 9 t)) (cC : ∃ t, mg "CRC_LENGTH" = some (.int 4 t)) (T : HeadTxt K mg C) (cN : ExcAt K mg "NotACode" CN)
    (oP : OkM P w K mg base CX0 4 C "places" ["self"] (spHeadPlaces CP C)) (oT : OkF P w K mg base CX0 2 "table_of" ["coded", "many"] (spTable K)) :
    OkF P w K mg base (CX1 P w) 5 "tile_codes_of" ["coded", "head"] (spTiles K C CN) := by
  obtain ⟨t1, cH⟩ := cH
  obtain ⟨t2, cC⟩ := cC
  refine D.okx scTiles (fun _ _ _ _ _ _ us hl => match us, hl with | [_, _], _ => rfl) (fun vs H Q E h => ?_) (fun f cdv A outer s H vs Q E hr h X hX => ?_)
  · obtain ⟨a, hh, b, f, rfl, _⟩ := h
    rfl
  · subst hX
    obtain ⟨a, hh, b, f, rfl, hS, hb, hl, hd, hf, k1, k2⟩ := h
    have hr2 : Room 2 _ := hr.mono (by decide)
    refine ⟨_, pss_cons (ps_set (i := 2) scTiles.nd rfl (Or.inl rfl) (pe_callB call_len_seq (by rfl) zLen PySem.boot_len (pa_cons (pe_m0' oP T.cl hr pass0 (pv 1)) pa_nil)))
      (pss_cons (ps_set (i := 3) scTiles.nd rfl (Or.inl rfl) (pe_f0 oT hr2 rfl (pa_cons (pv 0) (pa_cons (pv 2) pa_nil))))
      (pss_cons (ps_set (i := 4) scTiles.nd rfl (Or.inl rfl) (pe_op op_add (pe_glob (v := .int 9) (by rfl) cH ⟨t1, rfl⟩) (pe_op op_mul pe_int (pv 2))))
      (pss_cons (ps_if (pw_or (pt_cmpR op_lt (pe_callB (cr_min rfl) (by rfl) zMin boot_min (pa_cons (pv 3) pa_nil)) pe_int (nomark _))
          (pw_or1 (pt_cmpR op_ne (pe_op op_add (pe_op op_add (pv 4) (pe_callB (cr_sum rfl) (by rfl) zSum boot_sum (pa_cons (pv 3) pa_nil))) (pe_glob (v := .int 4) (by rfl) cC ⟨t2, rfl⟩)) (pe_callB call_len_seq (by rfl) zLen PySem.boot_len (pa_cons (pv 0) pa_nil)) (nomark _)))).pt
        (pss_one (ps_raise plain_cx rfl rfl cN)) pss_nil)
      (pss_cons (ps_set (i := 5) scTiles.nd rfl (Or.inl rfl) (pe_lst pa_nil))
      (pss_cons (ps_fr fun hfr => ps_for (passes_fly plain_cx hfr) rfl (pi_list (pv 3)) (pg_name (i := 6) scTiles.nd rfl (Or.inl rfl))
        (pss_cons (ps_expr (pe_bm PySem.F.plainAttrs_list PySem.F.slot_list_append PySem.F.type_list_append mt_append (pv 5) (pa_cons (pe_slice sl_list (pv 0) (po_some (pv 4)) (po_some (pe_op op_add (pv 4) (pv 6)))) pa_nil)))
        (pss_one (ps_aug (i := 4) scTiles.nd rfl (Or.inl rfl) (pv 6) ip_add))))
      (pss_one (ps_ret (pv 5)))))))), ?_⟩
    obtain ⟨dx, hp⟩ := id hd
    have hn : f.tiles ≤ 256 := tiles_le hf
    have hpl : (places f).length = f.tiles := by rw [← places_eq hf, List.length_map, List.length_range]
    refine ⟨_, rfl, hh, dx, _, rfl, hp, headF_no _ _ _ _ _ (by decide +kernel) (by decide +kernel) (by decide +kernel) (by decide +kernel) (by decide +kernel), hh, f, rfl, hd, hf, fun pa H1 s1 n1 L1 => ?_⟩
    obtain ⟨refs, g1, g2, _, _⟩ := L1
    refine ⟨pa, _, rfl, .inl (SqL.of g1), ?_⟩
    rw [List.length_map, g2, hpl]
    -- the table
    refine ⟨_, rfl, _, rfl, a, b, f.tiles, rfl, s1.seq hS, hb, hl, by omega, fun la H2 s2 n2 g3 => ?_⟩
    have sA := s1.trans s2
    generalize hlens : lengthsOf b f.tiles = lens at g3
    have llen : lens.length = f.tiles := by rw [← hlens]; exact lengths_len _ _
    have small : ∀ x ∈ lens, x < 16777216 := fun x hx => by
      rw [← hlens] at hx
      obtain ⟨i, _, rfl⟩ := List.mem_map.mp hx
      have := numOf_lt (l := (b.drop (9 + 3 * i)).take 3) fun x hx => hb x (List.mem_of_mem_drop (List.mem_of_mem_take hx))
      have l3 : ((b.drop (9 + 3 * i)).take 3).length ≤ 3 := by rw [List.length_take]; omega
      have := Nat.pow_le_pow_right (n := 256) (by decide) l3
      omega
    have tp : tilesP b f = if (lens.any fun x => x == 0) = true ∨ 9 + 3 * f.tiles + lens.sum + 4 ≠ b.length then none else some (Sp21.cutInto lens (b.drop (9 + 3 * f.tiles))) := by
      unfold tilesP
      simp only [hlens]
    refine ⟨_, rfl, _, _, rfl, rfl, .inl ⟨by decide, by decide⟩, _, _, rfl, rfl, ?_⟩
    have e9 : (9 : Int) + 3 * (f.tiles : Int) = ((9 + 3 * f.tiles : Nat) : Int) := by omega
    dsimp only
    rw [e9]
    have tpos := tiles_pos hf
    -- the tests
    refine ⟨_, rfl, la, Sp21.ints lens, rfl, SqL.of g3, by rw [ints_len]; omega, fun m hm hmin => ?_⟩
    obtain ⟨m0, hm0, rfl⟩ := List.mem_map.mp hm
    refine ⟨_, _, rfl, rfl, _, rfl, ite2 (fun c1 => ?_) (fun c1 => ?_)⟩
    · have c1 : m0 = 0 := by have := of_decide_eq_true c1; omega
      refine iteT (k2 ?_ H2 sA)
      rw [tp, if_pos (.inl (by rw [any_zero]; exact decide_eq_true ⟨m0, hm0, c1⟩))]
    · have c1 : (lens.any fun x => x == 0) = false := by
        rw [any_zero]
        refine decide_eq_false ?_
        rintro ⟨x, hx, rfl⟩
        have := hmin _ (List.mem_map.mpr ⟨0, hx, rfl⟩)
        exact c1 (decide_eq_true (by omega))
      refine ⟨_, rfl, _, rfl, la, Sp21.ints lens, rfl, SqL.of g3, _, _, rfl, rfl, _, _, rfl, rfl, _, rfl, a, _, rfl, .inl (sA.seq hS), rfl, _, rfl, ?_⟩
      rw [ints_sum, B_len]
      have ed : (!decide (V.int (((9 + 3 * f.tiles : Nat) : Int) + ((lens.sum : Nat) : Int) + 4) = V.int (b.length : Int))) = decide (9 + 3 * f.tiles + lens.sum + 4 ≠ b.length) := by
        rw [Bool.eq_iff_iff, Bool.not_eq_true', decide_eq_false_iff_not, decide_eq_true_eq]
        constructor
        · intro z q
          exact z (by congr 1; omega)
        · intro z q
          injection q with q
          omega
      rw [ed]
      refine ite2 (fun c2 => k2 (by rw [tp, if_pos (.inr (of_decide_eq_true c2))]) H2 sA) (fun c2 => ?_)
      have c2 : 9 + 3 * f.tiles + lens.sum + 4 = b.length := Decidable.of_not_not fun z => c2 (decide_eq_true z)
      have tp2 : tilesP b f = some (Sp21.cutInto lens (b.drop (9 + 3 * f.tiles))) := by rw [tp, if_neg (by rintro (z | z); rw [c1] at z; cases z; exact z c2)]
      -- the codes
      refine ⟨Nat.zero_le _, fun ca hca => ?_⟩
      have sC := sA.new (o := .lst []) hca
      refine ⟨_, rfl, la, rfl, ⟨_, SqL.of ((same_upd hca) _ _ g3)⟩, for_list (K := K) (a := la) (xs := (Sp21.ints lens).map V.int) (fun i σ H3 => ∃ v, σ = [some (.ref a), some (.ref hh), some (.int f.tiles), some (.ref la), some (.int ((9 + 3 * f.tiles + (lens.take i).sum : Nat) : Int)), some (.ref ca), v] ∧ Same H2 H3 ∧
        ListOf CodeAt H3 ca ((Sp21.cutInto lens (b.drop (9 + 3 * f.tiles))).take i)) ⟨none, rfl, same_upd hca, ListOf.nil upd_same⟩ (fun i σ H3 _ ⟨_, _, s3, _⟩ => SqL.of (s3 _ _ g3)) ?_ ?_⟩
      · rintro i y σ H3 hy ⟨v, rfl, s3, L3⟩
        obtain ⟨z, hz, rfl⟩ := ints_get hy
        have hi : i < lens.length := by have := (List.getElem?_eq_some_iff.mp hz).1; rwa [ints_len] at this
        have hx : lens[i]? = some lens[i] := List.getElem?_eq_getElem hi
        have ez : z = ((lens[i] : Nat) : Int) := by
          unfold Sp21.ints at hz
          rw [List.getElem?_map, hx] at hz
          exact (Option.some.inj hz).symm
        subst ez
        obtain ⟨refs3, r1, r2, _, _⟩ := id L3
        have e2 : (((9 + 3 * f.tiles + (lens.take i).sum : Nat) : Int) + ((lens[i] : Nat) : Int)) = ((9 + 3 * f.tiles + (lens.take i).sum + lens[i] : Nat) : Int) := by omega
        refine ⟨_, rfl, .inl ⟨rfl, _, SqL.of r1⟩, _, rfl, _, rfl, _, rfl, _, rfl, _, rfl, _, _, rfl, rfl, _, rfl, a, _, rfl, (sA.trans s3).seq hS, fun p hp3 => ?_⟩
        rw [e2, B_cut]
        have s4 := same_upd (o := .lst (B ((b.drop (9 + 3 * f.tiles + (lens.take i).sum)).take lens[i]))) hp3
        have nc : p ≠ ca := (ne_of_none r1 hp3).symm
        obtain ⟨refs', h1, h2, h3⟩ := L3.snoc (p := p) s4 (fun r y o hn z => by
            show (upd _ ca o) r = _
            rw [upd_ne hn]; exact z) (fun r y z => codeAt_same _ _ _ _ s4 z) nc (show CodeAt _ p _ from upd_same)
        have hcl : refs'.length ≤ 256 := by rw [h2, List.length_take]; omega
        refine ⟨ca, _, _, rfl, rfl, h1, by rw [List.length_map, sizeLine_eq]; omega, ?_⟩
        refine ⟨_, rfl, _, rfl, _, _, rfl, rfl, some (.int ((lens[i] : Nat) : Int)), ?_, fun b' o' z => ?_, ?_⟩
        · rw [take_sum_succ hx]
          show [some (V.ref a), some (V.ref hh), some (V.int _), some (V.ref la), some (V.int (((9 + 3 * f.tiles + (lens.take i).sum : Nat) : Int) + ((lens[i] : Nat) : Int))), some (V.ref ca), some (V.int _)] = _
          rw [e2, Nat.add_assoc]
        · rw [upd_ne (ne_of_none z hca)]
          exact s4 _ _ (s3 _ _ z)
        · have eg := cutInto_get lens (b.drop (9 + 3 * f.tiles)) i lens[i] hx
          rw [List.drop_drop] at eg
          rw [List.take_succ, eg]
          exact h3
      · rintro σ H3 ⟨v, rfl, s3, L3⟩
        refine ⟨_, rfl, k1 _ tp2 ca H3 (sA.trans s3) (sA.free hca) ?_⟩
        rw [List.length_map, ints_len, List.take_of_length_le (by rw [cutInto_len]; exact Nat.le_refl _)] at L3
        exact L3
end

section
variable {P : Program} {w : World} {K : PySem.W.Frag} {mg : Str → Option Value} {base : Heap}
theorem scOpened : FnScope ["coded", "head"] ["coded"] (defScope sOpened) := ⟨rfl, rfl, rfl, by decide +kernel, rfl, by decide +kernel, by decide +kernel⟩
theorem ok_opened {CP CH CN : Addr} (D : DefAt K mg "opened" sOpened) (T : PartsTxt K mg CP) (oI : OkM P w K mg base CX0 1 CP "__init__" ["self", "head", "codes"] (spInitParts CP))
    (oH : OkF P w K mg base (CX1 P w) 3 "head_of" ["coded"] (spHeadOf K CH CN)) (oT : OkF P w K mg base (CX1 P w) 5 "tile_codes_of" ["coded", "head"] (spTiles K CH CN)) :
    OkF P w K mg base (CX1 P w) 6 "opened" ["coded"] (spOpened K CP CH CN) := by
  refine D.okx scOpened (fun _ _ _ _ _ _ us hl => match us, hl with | [_], _ => rfl) (fun vs H Q E h => ?_) (fun f cdv A outer s H vs Q E hr h X hX => ?_)
  · obtain ⟨a, b, rfl, _⟩ := h
    rfl
  · subst hX
    obtain ⟨a, b, rfl, hS, hb, hl, k1, k2⟩ := h
    refine ⟨_, pss_cons (ps_set (i := 1) scOpened.nd rfl (Or.inl rfl) (pe_f oH (hr.mono (by decide)) rfl (passes1 plain_cx) (pa_cons (pv 0) pa_nil)))
      (pss_one (ps_ret (pe_new oI T.toClsIn (hr.mono (by decide)) rfl (pa_cons (pv 1) (pa_cons (pe_f oT hr rfl (passes1 plain_cx) (pa_cons (pv 0) (pa_cons (pv 1) pa_nil))) pa_nil))))), ?_⟩
    have eo := headOf_eq hb
    refine ⟨_, rfl, a, b, rfl, hS, hb, hl, fun f hf hp H1 s1 n1 hd => ?_, fun hn H1 s1 => k2 (by rw [eo, hn]; rfl) H1 s1⟩
    have fok := headP_ok hb hf
    refine ⟨_, rfl, _, rfl, _, rfl, a, hp, b, f, rfl, s1.seq hS, hb, hl, hd, fok, fun l ht ca H2 s2 n2 L2' => ?_, fun ht H2 s2 => k2 (by rw [eo, hf]; show (tilesP b f).map _ = none; rw [ht]; rfl) H2 (s1.trans s2)⟩
    intro p dx np ndx ne
    refine ⟨p, dx, hp, ca, rfl, upd_same, fun H3 ⟨dx', g3⟩ kp => ⟨rfl, ?_⟩⟩
    have s3 : Same H2 H3 := Same.made np ndx kp
    refine k1 f l (by rw [eo, hf]; show (tilesP b f).map _ = _; rw [ht]; rfl) p H3 ((s1.trans s2).trans s3) ⟨dx', hp, ca, g3, hd.same (s2.trans s3), L2'.same codeAt_same s3⟩
end

theorem headOf_tiles {b : List Nat} {f : Sp21.Head} {l : List (List Nat)} (hb : Bytes b) (h : Sp21.headOf b = some (f, l)) : HeadOk f ∧ l.length = f.tiles := by
  rw [headOf_eq hb] at h
  cases e : headP b with
  | none => rw [e] at h; cases h
  | some g =>
    rw [e] at h
    have h : (tilesP b g).map (fun l => (g, l)) = some (f, l) := h
    cases e2 : tilesP b g with
    | none => rw [e2] at h; cases h
    | some m =>
      rw [e2] at h
      cases h
      refine ⟨headP_ok hb e, ?_⟩
      unfold tilesP at e2
      dsimp only at e2
      split at e2
      · cases e2
      · cases e2
        rw [cutInto_len, lengths_len]
theorem nat_bytes {ns : List Int} (h : ∀ n ∈ ns, 0 ≤ n ∧ n ≤ 255) : ∃ b : List Nat, ns = Sp21.ints b ∧ Bytes b ∧ b.length = ns.length := by
  refine ⟨ns.map Int.toNat, ?_, fun x hx => ?_, by rw [List.length_map]⟩
  · unfold Sp21.ints
    rw [List.map_map]
    conv => lhs; rw [← List.map_id ns]
    refine List.map_congr_left fun x hx => ?_
    have := h x hx
    show x = ((x.toNat : Nat) : Int)
    omega
  · obtain ⟨n, hn, rfl⟩ := List.mem_map.mp hx
    have := h n hn
    omega
theorem nats_ints (b : List Nat) : Sp21Neutral.nats (Sp21.ints b) = b := by
  unfold Sp21Neutral.nats Sp21.ints
  rw [List.map_map]
  conv => rhs; rw [← List.map_id b]
  exact List.map_congr_left fun x _ => Int.toNat_natCast x
theorem bytesOk_of {b : List Nat} (hb : Bytes b) (hl : b.length ≤ 1048576) : Sp21.bytesOk b = true := by
  unfold Sp21.bytesOk Sp21.BYTES
  rw [Bool.and_eq_true, List.all_eq_true]
  exact ⟨decide_eq_true hl, fun x hx => decide_eq_true (hb x hx)⟩

def spRight (K : PySem.W.Frag) : Sp := fun vs H Q _ => ∃ (a : Addr) (ev : List Int) (c : Nat), vs = [.ref a, .int c] ∧ SqL K H a (ev.map V.int) ∧ 0 < ev.length ∧ ev.length ≤ 8000000 ∧ Ans H ((rightOdds ev c).map V.int) Q
def spLifts : Sp := fun vs H Q _ => ∃ (a : Addr) (d : List Int), vs = [.ref a] ∧ H a = some (.lst (d.map V.int)) ∧ d.length ≤ 4000000 ∧ Ans H ((TW.lifts d).map V.int) Q
def spHalveRow (K : PySem.W.Frag) : Sp := fun vs H Q _ => ∃ (a : Addr) (row : List Int), vs = [.ref a] ∧ SqL K H a (row.map V.int) ∧ row.length ≤ 4000000 ∧ Ans H ((TW.halveRow row).map V.int) Q
theorem cut_from1 (l : List Int) : cutV (l.map V.int) (some 1) none = (l.drop 1).map V.int := cut_from l 1
theorem cut_to1 (l : List Int) : cutV (l.map V.int) none (some 1) = (l.take 1).map V.int := cut_to l 1
theorem cut_last (l : List Int) : cutV (l.map V.int) (some (-1)) none = (l.drop (l.length - 1)).map V.int := by
  unfold cutV
  have e : HT.sIx (l.map V.int).length 0 (some (-1)) = l.length - 1 := by
    show (if (-1 : Int) < 0 then ((-1 : Int) + ((l.map V.int).length : Int)).toNat else min (-1 : Int).toNat (l.map V.int).length) = l.length - 1
    rw [if_pos (by decide), List.length_map]
    omega
  rw [e, HT.sIx_none, List.map_drop, List.take_of_length_le (by simp)]
theorem step_pick (l : List Int) (i : Nat) (hi : i ≤ l.length) : stepV (l.map V.int) i 2 = (pick l i 2 ((l.length - i + 1) / 2)).map V.int := by
  have en : (l.length - i + 2 - 1) / 2 = (l.length - i + 1) / 2 := by omega
  unfold stepV pick
  rw [List.length_map, en, List.map_map]
  have : ∀ ms : List Nat, (∀ m ∈ ms, m < (l.length - i + 1) / 2) → ms.filterMap (fun m => (l.map V.int)[i + m * 2]?) = ms.map (V.int ∘ fun m => l.getD (i + m * 2) 0) := by
    intro ms
    induction ms with
    | nil => intro _; rfl
    | cons m ms ih =>
      intro h
      have hm : i + m * 2 < l.length := by have := h m List.mem_cons_self; omega
      rw [List.filterMap_cons, List.getElem?_map, List.getElem?_eq_getElem hm, ih fun q hq => h q (List.mem_cons_of_mem _ hq), List.map_cons]
      simp [List.getD_eq_getElem?_getD, hm]
  exact this _ fun m hm => by simpa using hm
section
variable {P : Program} {w : World} {K : PySem.W.Frag} {mg : Str → Option Value} {base : Heap}
theorem scRight : FnScope ["evens", "count", "right"] ["evens", "count"] (defScope sRight) := ⟨rfl, rfl, rfl, by decide +kernel, rfl, by decide +kernel, by decide +kernel⟩
theorem ok_right (D : DefAt K mg "right_of_odds" sRight) (zLen : mg "len" = none) : OkF P w K mg base CX0 1 "right_of_odds" ["evens", "count"] (spRight K) := by
  refine D.ok scRight (fun _ _ _ _ _ _ us hl => match us, hl with | [_, _], _ => rfl) (fun vs H Q E h => ?_) (fun f cdv A outer s H vs Q E hr h => ?_)
  · obtain ⟨a, ev, c, rfl, _⟩ := h
    rfl
  · obtain ⟨a, ev, c, rfl, hS, h0, hl, k⟩ := h
    -- right = evens[1:]; if len(right) < count: right.append(evens[-1]); return right
    refine ⟨_, pss_cons (ps_set (i := 2) scRight.nd rfl (Or.inl rfl) (pe_slice sl_list (pv 0) (po_some pe_int) po_none))
      (pss_cons (ps_if (pt_cmpR op_lt (pe_callB call_len_seq (by rfl) zLen PySem.boot_len (pa_cons (pv 2) pa_nil)) (pv 1) (nomark _))
        (pss_one (ps_expr (pe_bm PySem.F.plainAttrs_list PySem.F.slot_list_append PySem.F.type_list_append mt_append (pv 2) (pa_cons (pe_ix ix_list (pv 0) (pe_un un_neg pe_int) (fun _ _ => rfl)) pa_nil)))) pss_nil)
      (pss_one (ps_ret (pv 2)))), ?_⟩
    refine ⟨_, rfl, _, rfl, a, _, rfl, hS, fun p hp => ?_⟩
    rw [cut_from1]
    refine ⟨_, rfl, p, _, rfl, .inl (SqL.of upd_same), _, rfl, _, _, rfl, rfl, _, rfl, ite2 (fun c1 => ?_) (fun c1 => ?_)⟩
    · have c2 : (ev.drop 1).length < c := by
        have := of_decide_eq_true c1
        rw [List.length_map] at this
        omega
      refine ⟨_, rfl, .inl ⟨rfl, _, SqL.of upd_same⟩, _, rfl, _, rfl, a, _, _, .int (ev.getD (ev.length - 1) 0), rfl, rfl, (same_upd hp).seq hS, ?_, p, _, _, rfl, rfl, upd_same, ?_, _, rfl, ?_⟩
      · have e1 : ev = ev.take (ev.length - 1) ++ [ev.getD (ev.length - 1) 0] := by
          apply List.ext_getElem?
          intro j
          by_cases hj : j < ev.length - 1
          · rw [List.getElem?_append_left (by rw [List.length_take]; omega), List.getElem?_take, if_pos hj]
          · rw [List.getElem?_append_right (by rw [List.length_take]; omega), List.length_take, Nat.min_eq_left (by omega)]
            by_cases hj2 : j = ev.length - 1
            · subst hj2
              rw [Nat.sub_self]
              simp [List.getD_eq_getElem?_getD, show ev.length - 1 < ev.length by omega]
            · rw [List.getElem?_eq_none (by omega), List.getElem?_eq_none (by simp; omega)]
        have e2 : ev.map V.int = (ev.take (ev.length - 1)).map V.int ++ [V.int (ev.getD (ev.length - 1) 0)] := by
          conv => lhs; rw [e1]
          rw [List.map_append]
          rfl
        rw [e2]
        exact atI_last _ _
      · rw [List.length_map, List.length_drop]
        exact Nat.lt_of_lt_of_le (by omega) (line_ge (n := 8000000) (by omega))
      · refine k p _ (fun b o e => ?_) hp ?_
        · rw [upd_ne (ne_of_none e hp), upd_ne (ne_of_none e hp)]; exact e
        · rw [upd_same]
          unfold rightOdds
          rw [if_pos c2, List.map_append]
          rfl
    · have c2 : ¬ (ev.drop 1).length < c := by
        intro z
        refine c1 (decide_eq_true ?_)
        rw [List.length_map]
        omega
      refine ⟨_, rfl, k p _ (same_upd hp) hp ?_⟩
      rw [upd_same]
      unfold rightOdds
      rw [if_neg c2]
theorem scLifts : FnScope ["differences", "before", "behind", "left", "right"] ["differences"] (defScope sLifts) := ⟨rfl, rfl, rfl, by decide +kernel, rfl, by decide +kernel, by decide +kernel⟩
theorem ok_lifts (D : DefAt K mg "lifts" sLifts) (zZip : mg "zip" = none) : OkF P w K mg base CX0 1 "lifts" ["differences"] spLifts := by
  refine D.ok scLifts (fun _ _ _ _ _ _ us hl => match us, hl with | [_], _ => rfl) (fun vs H Q E h => ?_) (fun f cdv A outer s H vs Q E hr h => ?_)
  · obtain ⟨a, d, rfl, _⟩ := h
    rfl
  · obtain ⟨a, d, rfl, ha, hl, k⟩ := h
    have hz := line_ge (n := 8000001) (by omega)
    refine ⟨_, pss_cons (ps_set (i := 1) scLifts.nd rfl (Or.inl rfl) (pe_op op_cat (pe_slice sl_list (pv 0) po_none (po_some pe_int)) (pv 0)))
      (pss_cons (ps_set (i := 2) scLifts.nd rfl (Or.inl rfl) (pe_op op_cat (pv 0) (pe_slice sl_list (pv 0) (po_some (pe_un un_neg pe_int)) po_none)))
      (pss_one (ps_ret (pe_lc (own := [("left", 3), ("right", 4)]) (g := gTup K 2 (gCons (gName 3) (gCons (gName 4) gNil))) rfl scLifts.nd (pi_zip rfl zZip (pa_cons (pv 1) (pa_cons (pv 2) pa_nil))) (blkOk_by (by kernel_rfl))
        (fun s H C cl fp => pg_tup rfl (pgs_cons (pg_name (i := 3) scLifts.nd rfl (Or.inl rfl)) (pgs_cons (pg_name (i := 4) scLifts.nd rfl (Or.inl rfl)) pgs_nil))) (fun s H C cl fp => pts_nil)
        (fun s H C cl fp => pe_op op_fdiv (pe_op op_add (pe_op op_add (pv 3) (pv 4)) pe_int) pe_int))))), ?_⟩
    -- before = differences[:1] + differences
    refine ⟨_, rfl, _, rfl, a, _, rfl, SqL.of ha, fun p1 hp1 => ?_⟩
    rw [cut_to1]
    have a1 : (upd H p1 (.lst ((d.take 1).map V.int))) a = some (.lst (d.map V.int)) := by rw [upd_ne (ne_of_none ha hp1)]; exact ha
    refine ⟨_, rfl, p1, a, _, _, rfl, rfl, upd_same, a1, (by simp only [List.length_map, List.length_take]; omega), fun p2 hp2 => ?_⟩
    have s2 : Same H (upd (upd H p1 (.lst ((d.take 1).map V.int))) p2 (.lst ((d.take 1).map V.int ++ d.map V.int))) := (same_upd hp1).new hp2
    -- behind = differences + differences[-1:]
    refine ⟨_, rfl, _, rfl, _, rfl, _, rfl, a, _, rfl, SqL.of (s2 _ _ ha), fun p3 hp3 => ?_⟩
    rw [cut_last]
    have s3 := s2.new (o := .lst ((d.drop (d.length - 1)).map V.int)) hp3
    refine ⟨a, p3, _, _, rfl, rfl, s3 _ _ ha, upd_same, (by simp only [List.length_map, List.length_drop]; omega), fun p4 hp4 => ?_⟩
    have s4 := s3.new (o := .lst (d.map V.int ++ (d.drop (d.length - 1)).map V.int)) hp4
    rw [← List.map_append, ← List.map_append]
    rw [← List.map_append, ← List.map_append] at s4
    -- the comprehension
    have n42 : p2 ≠ p4 := ne_of_none (by rw [upd_ne (ne_of_none (upd_same) hp3)]; exact upd_same) hp4
    have g2 : ∀ o3 o4, (upd (upd (upd (upd H p1 (.lst ((d.take 1).map V.int))) p2 (.lst ((d.take 1 ++ d).map V.int))) p3 o3) p4 o4) p2 = some (.lst ((d.take 1 ++ d).map V.int)) := fun o3 o4 => by
      rw [upd_ne n42, upd_ne (ne_of_none (upd_same) hp3)]
      exact upd_same
    refine ⟨_, rfl, _, rfl, p2, p4, _, _, rfl, SqL.of (g2 _ _), SqL.of upd_same, fun D hD => ?_⟩
    refine lc_zipI (fun u v => (u + v + 2) / 4) hD (SqL.of (g2 _ _)) (SqL.of upd_same) (by rw [List.length_append, List.length_take]; omega) (fun u v T H' Q' hT _ hq => ?_) (fun H' sm hD' => ?_)
    · refine ⟨T, _, rfl, SqT.of upd_same, rfl, _, _, rfl, _, _, rfl, rfl, rfl, _, rfl, _, rfl, _, _, rfl, rfl, _, _, rfl, rfl, _, _, rfl, rfl, ⟨by decide, by decide⟩, hq _ (same_upd hT)⟩
    · refine k D H' (Same.trans s4 sm) (s4.free hD) ?_
      rw [hD']
      rfl

theorem scHalve : FnScope ["row", "evens", "odds", "rights", "differences", "means", "x", "left", "right", "lift"] ["row"] (defScope sHalveRow) := ⟨rfl, rfl, rfl, by decide +kernel, rfl, by decide +kernel, by decide +kernel⟩
theorem ok_halveRow (D : DefAt K mg "halve_row" sHalveRow) (zLen : mg "len" = none) (zList : mg "list" = none) (zZip : mg "zip" = none) (oR : OkF P w K mg base CX0 1 "right_of_odds" ["evens", "count"] (spRight K)) (oL : OkF P w K mg base CX0 1 "lifts" ["differences"] spLifts) :
    OkF P w K mg base CX0 2 "halve_row" ["row"] (spHalveRow K) := by
  refine D.ok scHalve (fun _ _ _ _ _ _ us hl => match us, hl with | [_], _ => rfl) (fun vs H Q E h => ?_) (fun f cdv A outer s H vs Q E hr h => ?_)
  · obtain ⟨a, d, rfl, _⟩ := h
    rfl
  · obtain ⟨a, row, rfl, hS, hl, k⟩ := h
    have hz := line_ge (n := 8000001) (by omega)
    refine ⟨_, pss_cons (ps_if (pt_cmpR op_lt (pe_callB call_len_seq (by rfl) zLen PySem.boot_len (pa_cons (pv 0) pa_nil)) pe_int (nomark _))
        (pss_one (ps_ret (pe_callTy call_list_of (by rfl) zList boot_list (pa_cons (pv 0) pa_nil)))) pss_nil)
      (pss_cons (ps_set (i := 1) scHalve.nd rfl (Or.inl rfl) (pe_step (pv 0) pe_int pe_int))
      (pss_cons (ps_set (i := 2) scHalve.nd rfl (Or.inl rfl) (pe_step (pv 0) pe_int pe_int))
      (pss_cons (ps_set (i := 3) scHalve.nd rfl (Or.inl rfl) (pe_f0 oR hr rfl (pa_cons (pv 1) (pa_cons (pe_callB call_len_seq (by rfl) zLen PySem.boot_len (pa_cons (pv 2) pa_nil)) pa_nil))))
      (pss_cons (ps_setLc (i := 4) (own := [("x", 6), ("left", 7), ("right", 8)]) (g := gTup K 3 (gCons (gName 6) (gCons (gName 7) (gCons (gName 8) gNil)))) rfl scHalve.nd rfl rfl (sw_true rfl rfl rfl (by decide +kernel)) (pi_zip3 rfl zZip (pa_cons (pv 2) (pa_cons (pv 1) (pa_cons (pv 3) pa_nil)))) (blkOk_by (by kernel_rfl))
        (fun s H C cl fp => pg_tup rfl (pgs_cons (pg_name (i := 6) scHalve.nd rfl (Or.inl rfl)) (pgs_cons (pg_name (i := 7) scHalve.nd rfl (Or.inl rfl)) (pgs_cons (pg_name (i := 8) scHalve.nd rfl (Or.inl rfl)) pgs_nil)))) (fun s H C cl fp => pts_nil)
        (fun s H C cl fp => pe_op op_sub (pv 6) (pe_op op_fdiv (pe_op op_add (pv 7) (pv 8)) pe_int)))
      (pss_cons (ps_setLc (i := 5) (own := [("x", 6), ("lift", 9)]) (g := gTup K 2 (gCons (gName 6) (gCons (gName 9) gNil))) rfl scHalve.nd rfl rfl (sw_true rfl rfl rfl (by decide +kernel)) (pi_zip rfl zZip (pa_cons (pv 1) (pa_cons (pe_f0 oL hr rfl (pa_cons (pv 4) pa_nil)) pa_nil))) (blkOk_by (by kernel_rfl))
        (fun s H C cl fp => pg_tup rfl (pgs_cons (pg_name (i := 6) scHalve.nd rfl (Or.inl rfl)) (pgs_cons (pg_name (i := 9) scHalve.nd rfl (Or.inl rfl)) pgs_nil))) (fun s H C cl fp => pts_nil)
        (fun s H C cl fp => pe_op op_add (pv 6) (pv 9)))
      (pss_one (ps_ret (pe_op op_cat (pv 5) (pv 4))))))))), ?_⟩
    refine ⟨_, rfl, a, _, rfl, .inl hS, _, _, rfl, rfl, _, rfl, ite2 (fun c1 => ?_) (fun c1 => ?_)⟩
    · have c2 : row.length < 2 := by have := of_decide_eq_true c1; rw [List.length_map] at this; omega
      refine ⟨_, rfl, a, _, rfl, .inl hS, fun l hl2 => k l _ (same_upd hl2) hl2 ?_⟩
      rw [upd_same]
      unfold TW.halveRow
      rw [if_pos c2]
    · have c2 : ¬ row.length < 2 := by intro z; refine c1 (decide_eq_true ?_); rw [List.length_map]; omega
      -- evens, odds
      refine ⟨_, rfl, a, _, 0, 2, rfl, rfl, rfl, by decide, hS, fun p1 hp1 => ?_⟩
      rw [step_pick row 0 (Nat.zero_le _)]
      have s1 := same_upd (o := .lst ((pick row 0 2 ((row.length - 0 + 1) / 2)).map V.int)) hp1
      refine ⟨_, rfl, a, _, 1, 2, rfl, rfl, rfl, by decide, s1.seq hS, fun p2 hp2 => ?_⟩
      rw [step_pick row 1 (by omega)]
      have en1 : (row.length - 0 + 1) / 2 = (row.length + 1) / 2 := by omega
      have en2 : (row.length - 1 + 1) / 2 = row.length / 2 := by omega
      rw [en1, en2]
      rw [en1] at s1 hp2
      generalize hev : pick row 0 2 ((row.length + 1) / 2) = ev at s1 hp2 ⊢
      generalize hod : pick row 1 2 (row.length / 2) = od
      have lev : ev.length = (row.length + 1) / 2 := by rw [← hev]; exact pick_length _ _ _ _
      have lod : od.length = row.length / 2 := by rw [← hod]; exact pick_length _ _ _ _
      have s2 := s1.new (o := .lst (od.map V.int)) hp2
      have g1 : (upd (upd H p1 (.lst (ev.map V.int))) p2 (.lst (od.map V.int))) p1 = some (.lst (ev.map V.int)) := by rw [upd_ne (ne_of_none upd_same hp2)]; exact upd_same
      have g2 : (upd (upd H p1 (.lst (ev.map V.int))) p2 (.lst (od.map V.int))) p2 = some (.lst (od.map V.int)) := upd_same
      generalize upd (upd H p1 (.lst (ev.map V.int))) p2 (.lst (od.map V.int)) = H2 at s2 g1 g2 ⊢
      -- rights
      refine ⟨_, rfl, _, rfl, p2, _, rfl, .inl (SqL.of g2), p1, ev, od.length, (by rw [List.length_map]; rfl), SqL.of g1, by omega, by omega, fun p3 H3 s3 n3 g3 => ?_⟩
      have g13 := s3 _ _ g1
      have g23 := s3 _ _ g2
      -- differences
      refine ⟨_, rfl, _, rfl, _, rfl, p2, p1, p3, _, _, _, rfl, SqL.of g23, SqL.of g13, SqL.of g3, fun p4 hp4 => ?_⟩
      refine lc_zip3I (fun x l r => x - (l + r) / 2) hp4 (SqL.of g23) (SqL.of g13) (SqL.of g3) (by omega) (fun u v z T H' Q' hT _ hq => ?_) (fun H4 s4 g4 => ?_)
      · exact ⟨T, _, rfl, SqT.of upd_same, rfl, _, _, rfl, _, _, rfl, _, _, rfl, rfl, rfl, _, rfl, _, rfl, _, rfl, _, _, rfl, rfl, _, _, rfl, rfl, ⟨by decide, by decide⟩, _, _, rfl, rfl, hq _ (same_upd hT)⟩
      · have e4 : (od.zip (ev.zip (rightOdds ev od.length))).map (fun p => p.1 - (p.2.1 + p.2.2) / 2) = diffs od ev (rightOdds ev od.length) := rfl
        rw [e4] at g4
        have ldif : (diffs od ev (rightOdds ev od.length)).length ≤ 4000000 := by
          simp only [diffs, List.length_map, List.length_zip]
          omega
        generalize hdf : diffs od ev (rightOdds ev od.length) = df at g4 ldif
        have g14 := s4 _ _ g13
        -- means
        refine ⟨_, rfl, _, rfl, p4, df, rfl, g4, ldif, fun p5 H5 s5 n5 g5 => ?_⟩
        have g15 := s5 _ _ g14
        have g45 := s5 _ _ g4
        refine ⟨p1, p5, _, _, rfl, SqL.of g15, SqL.of g5, fun p6 hp6 => ?_⟩
        refine lc_zipI (fun x l => x + l) hp6 (SqL.of g15) (SqL.of g5) (by omega) (fun u v T H' Q' hT _ hq => ?_) (fun H6 s6 g6 => ?_)
        · exact ⟨T, _, rfl, SqT.of upd_same, rfl, _, _, rfl, _, _, rfl, rfl, rfl, _, rfl, _, rfl, _, _, rfl, rfl, hq _ (same_upd hT)⟩
        · have g46 := s6 _ _ g45
          refine ⟨_, rfl, _, rfl, p6, p4, _, _, rfl, rfl, g6, g46, ?_, fun p7 hp7 => ?_⟩
          · simp only [List.length_map, List.length_zip]
            omega
          · have sAll := ((s2.trans s3).trans s4).trans (s5.trans s6)
            refine k p7 _ (sAll.new hp7) (sAll.free hp7) ?_
            rw [upd_same, ← List.map_append]
            unfold TW.halveRow
            rw [if_neg c2]
            simp only [hev, hod, hdf]
end

def spHalf : Sp := fun vs H Q _ => ∃ n : Int, vs = [.int n] ∧ Q (.int ((n + 1) / 2)) H
section
variable {P : Program} {w : World} {K : PySem.W.Frag} {mg : Str → Option Value} {base : Heap}
theorem scHalf : FnScope ["n"] ["n"] (defScope sHalf) := ⟨rfl, rfl, rfl, by decide +kernel, rfl, by decide +kernel, by decide +kernel⟩
theorem ok_half (D : DefAt K mg "half" sHalf) : OkF P w K mg base CX0 1 "half" ["n"] spHalf := by
  refine D.ok scHalf (fun _ _ _ _ _ _ us hl => match us, hl with | [_], _ => rfl) (fun vs H Q E h => ?_) (fun f cdv A outer s H vs Q E hr h => ?_)
  · obtain ⟨n, rfl, _⟩ := h
    rfl
  · obtain ⟨n, rfl, k⟩ := h
    refine ⟨_, pss_one (ps_ret (pe_op op_fdiv (pe_op op_add (pv 0) pe_int) pe_int)), ?_⟩
    exact ⟨_, rfl, _, _, rfl, rfl, _, _, rfl, rfl, ⟨by decide, by decide⟩, k⟩
end

def spColumn : Sp := fun vs H Q _ => ∃ (a : Addr) (g : List (List Int)) (i : Nat), vs = [.ref a, .int i] ∧ GridAt H a g ∧ (∀ r ∈ g, i < r.length) ∧ g.length ≤ 100000 ∧ Ans H ((g.map fun r => r.getD i 0).map V.int) Q
def spTurned : Sp := fun vs H Q _ => ∃ (a : Addr) (g : List (List Int)) (w h : Nat), vs = [.ref a] ∧ GridAt H a g ∧ Rect g w h ∧ 0 < h ∧ w ≤ 65536 ∧ h ≤ 65536 ∧ AnsG H (Sp21.turn g) Q
def spHalveCorner : Sp := fun vs H Q _ => ∃ (a : Addr) (g : List (List Int)) (w h : Nat), vs = [.ref a] ∧ GridAt H a g ∧ Rect g w h ∧ 0 < w ∧ 0 < h ∧ w ≤ 65536 ∧ h ≤ 65536 ∧ AnsG H (TW.halveCorner g) Q
theorem getD_mem_row {g : List (List Int)} {j : Nat} (h : j < g.length) : g[j]? = some (g.getD j []) := by simp [List.getD_eq_getElem?_getD, h]
section
variable {P : Program} {w : World} {K : PySem.W.Frag} {mg : Str → Option Value} {base : Heap}
theorem scColumn : FnScope ["rows", "i", "row"] ["rows", "i"] (defScope sColumn) := ⟨rfl, rfl, rfl, by decide +kernel, rfl, by decide +kernel, by decide +kernel⟩
theorem ok_column (D : DefAt K mg "column_at" sColumn) : OkF P w K mg base CX0 1 "column_at" ["rows", "i"] spColumn := by
  refine D.ok scColumn (fun _ _ _ _ _ _ us hl => match us, hl with | [_, _], _ => rfl) (fun vs H Q E h => ?_) (fun f cdv A outer s H vs Q E hr h => ?_)
  · obtain ⟨a, g, i, rfl, _⟩ := h
    rfl
  · obtain ⟨a, g, i, rfl, G, hi, hl, k⟩ := h
    refine ⟨_, pss_one (ps_ret (pe_lc (own := [("row", 2)]) (g := gName 2) (te := tOp (rIxL K) (tVar 2) (tVar 1)) rfl scColumn.nd (pi_list (pv 0)) (blkOk_by (by kernel_rfl)) (fun s H C cl fp => pg_name (i := 2) scColumn.nd rfl (Or.inl rfl)) (fun s H C cl fp => pts_nil)
      (fun s H C cl fp => pe_ix ix_list (pv 2) (pv 1) (fun _ _ => rfl)))), ?_⟩
    obtain ⟨refs, g1, g2, g0, g3⟩ := id G
    refine ⟨_, rfl, a, rfl, ⟨_, SqL.of g1⟩, fun D1 hD1 => ?_⟩
    refine lc_listV (g.map fun (r : List Int) => r.getD i 0) (by rw [List.length_map, List.length_map, g2]) hD1 (SqL.of g1) (by rw [List.length_map, g2]; exact line_ge (by omega)) (fun j x y H2 Q' hx hy s2 hq => ?_) (fun H2 s2 r2 => k D1 H2 s2 hD1 r2)
    rw [List.getElem?_map] at hx hy
    obtain ⟨r, er, rfl⟩ := Option.map_eq_some_iff.mp hx
    obtain ⟨row, eg, rfl⟩ := Option.map_eq_some_iff.mp hy
    have hr2 := s2 _ _ (g3 j r row er eg)
    have hlt := hi row (List.mem_of_getElem? eg)
    exact ⟨rfl, _, rfl, _, rfl, r, _, _, _, rfl, rfl, SqL.of hr2, atI_nat (by rw [List.getElem?_map, List.getElem?_eq_getElem hlt]; simp [List.getD_eq_getElem?_getD, hlt]), hq _ (Same.refl _)⟩
theorem scTurned : FnScope ["rows", "i"] ["rows"] (defScope sTurned) := ⟨rfl, rfl, rfl, by decide +kernel, rfl, by decide +kernel, by decide +kernel⟩
theorem ok_turned (D : DefAt K mg "turned" sTurned) (zLen : mg "len" = none) (zR : mg "range" = none) (oC : OkF P w K mg base CX0 1 "column_at" ["rows", "i"] spColumn) : OkF P w K mg base CX0 2 "turned" ["rows"] spTurned := by
  refine D.ok scTurned (fun _ _ _ _ _ _ us hl => match us, hl with | [_], _ => rfl) (fun vs H Q E h => ?_) (fun f cdv A outer s H vs Q E hr h => ?_)
  · obtain ⟨a, g, w, h, rfl, _⟩ := h
    rfl
  · obtain ⟨a, g, w, h, rfl, G, R, hh, hw6, hh6, k⟩ := h
    refine ⟨_, pss_one (ps_ret (pe_lc (own := [("i", 1)]) (g := gName 1) (te := tCall spColumn [] E0 (tCons (tVar 0) (tCons (tVar 1) tNil))) rfl scTurned.nd
      (pi_range1 rfl zR (pa_cons (pe_callB call_len_seq (by rfl) zLen PySem.boot_len (pa_cons (pe_ix ix_list (pv 0) pe_int (fun _ _ => rfl)) pa_nil)) pa_nil)) (blkOk_by (by kernel_rfl)) (fun s H C cl fp => pg_name (i := 1) scTurned.nd rfl (Or.inl rfl)) (fun s H C cl fp => pts_nil)
      (fun s H C cl fp => pe_f0 oC hr (by rfl) (pa_cons (pv 0) (pa_cons (pv 1) pa_nil))))), ?_⟩
    obtain ⟨refs, g1, g2, g0, g3⟩ := id G
    have hg0 : 0 < g.length := by rw [R.1]; exact hh
    have e0 : refs[0]? = some refs[0] := List.getElem?_eq_getElem (by omega)
    have r0 := g3 0 refs[0] _ e0 (getD_mem_row hg0)
    have l0 : (g.getD 0 []).length = w := R.row hh
    refine ⟨_, rfl, a, _, _, _, rfl, rfl, SqL.of g1, at_of (j := 0) rfl (by rw [List.getElem?_map, e0]; rfl), refs[0], _, rfl, .inl (SqL.of r0), ((w : Nat) : Int), by rw [List.length_map, l0], by omega, by omega, fun D1 hD1 => ?_⟩
    have et : Sp21.turn g = (List.range w).map fun i => g.map fun r => r.getD i 0 := by
      unfold Sp21.turn
      rw [R.head hh]
    rw [Int.toNat_natCast]
    refine lc_rangeX rowAt_X (Sp21.turn g) (by rw [et, List.length_map, List.length_range]) hD1 (line_ge (by omega)) (fun i y H2 Q' hi hy s2 hD2 hq => ?_) (fun H2 s2 L2' => k D1 H2 s2 hD1 L2')
    rw [et, List.getElem?_map, List.getElem?_range hi] at hy
    have hy := Option.some.inj hy
    subst hy
    rw [Int.zero_add]
    exact ⟨rfl, _, rfl, _, rfl, a, g, i, rfl, G.same rowAt_same s2, fun r hr' => by rw [R.2 r hr']; exact hi, by rw [R.1]; omega, fun p H3 s3 n3 h3 => hq p H3 s3 (new_ne n3 hD2) h3⟩
theorem scHalveCorner : FnScope ["rows", "columns", "row", "column"] ["rows"] (defScope sHalveCorner) := ⟨rfl, rfl, rfl, by decide +kernel, rfl, by decide +kernel, by decide +kernel⟩
theorem ok_halveCorner (D : DefAt K mg "halve_corner" sHalveCorner) (oT : OkF P w K mg base CX0 2 "turned" ["rows"] spTurned) (oH : OkF P w K mg base CX0 2 "halve_row" ["row"] (spHalveRow K)) : OkF P w K mg base CX0 3 "halve_corner" ["rows"] spHalveCorner := by
  refine D.ok scHalveCorner (fun _ _ _ _ _ _ us hl => match us, hl with | [_], _ => rfl) (fun vs H Q E h => ?_) (fun f cdv A outer s H vs Q E hr h => ?_)
  · obtain ⟨a, g, w, h, rfl, _⟩ := h
    rfl
  · obtain ⟨a, g, w, h, rfl, G, R, hw, hh, hw6, hh6, k⟩ := h
    refine ⟨_, pss_cons (ps_set (i := 1) scHalveCorner.nd rfl (Or.inl rfl) (pe_f0 oT hr rfl (pa_cons (pe_lc (own := [("row", 2)]) (g := gName 2) (te := tCall (spHalveRow K) [] E0 (tCons (tVar 2) tNil)) rfl scHalveCorner.nd (pi_list (pv 0)) (blkOk_by (by kernel_rfl)) (fun s H C cl fp => pg_name (i := 2) scHalveCorner.nd rfl (Or.inl rfl)) (fun s H C cl fp => pts_nil)
        (fun s H C cl fp => pe_f0 oH hr (by rfl) (pa_cons (pv 2) pa_nil))) pa_nil)))
      (pss_one (ps_ret (pe_f0 oT hr rfl (pa_cons (pe_lc (own := [("column", 3)]) (g := gName 3) (te := tCall (spHalveRow K) [] E0 (tCons (tVar 3) tNil)) rfl scHalveCorner.nd (pi_list (pv 1)) (blkOk_by (by kernel_rfl)) (fun s H C cl fp => pg_name (i := 3) scHalveCorner.nd rfl (Or.inl rfl)) (fun s H C cl fp => pts_nil)
        (fun s H C cl fp => pe_f0 oH hr (by rfl) (pa_cons (pv 3) pa_nil))) pa_nil)))), ?_⟩
    have half_of : ∀ {gg : List (List Int)} {w' h' : Nat}, Rect gg w' h' → Rect (gg.map Sp21.halve) w' h' := fun RR => RR.map Sp21.halve fun l hl => by rw [halve_length, hl]
    obtain ⟨refs, g1, g2, g0, g3⟩ := id G
    refine ⟨_, rfl, a, rfl, ⟨_, SqL.of g1⟩, fun D1 hD1 => ?_⟩
    refine lc_listX rowAt_X (g.map Sp21.halve) (by rw [List.length_map, List.length_map, g2]) hD1 (SqL.of g1) (by rw [List.length_map, g2, R.1]; exact line_ge (by omega)) (fun j x y H2 Q' hx hy s2 hD2 hq => ?_) (fun H2 s2 L2' => ?_)
    · rw [List.getElem?_map] at hx hy
      obtain ⟨r, er, rfl⟩ := Option.map_eq_some_iff.mp hx
      obtain ⟨row, eg, rfl⟩ := Option.map_eq_some_iff.mp hy
      have hlr := R.2 row (List.mem_of_getElem? eg)
      refine ⟨rfl, _, rfl, r, row, rfl, SqL.of (s2 _ _ (g3 j r row er eg)), by omega, fun p H3 s3 n3 h3 => hq p H3 s3 (new_ne n3 hD2) ?_⟩
      rw [halveRow_eq] at h3
      exact h3
    · refine ⟨D1, g.map Sp21.halve, w, h, rfl, L2', half_of R, hh, hw6, hh6, fun c1 H3 s3 n3 L3 => ?_⟩
      have R3 := (half_of R).turn hh
      obtain ⟨refs3, q1, q2, q0, q3⟩ := id L3
      refine ⟨_, rfl, c1, rfl, ⟨_, SqL.of q1⟩, fun D4 hD4 => ?_⟩
      refine lc_listX rowAt_X ((Sp21.turn (g.map Sp21.halve)).map Sp21.halve) (by rw [List.length_map, List.length_map, q2]) hD4 (SqL.of q1) (by rw [List.length_map, q2, R3.1]; exact line_ge (by omega)) (fun j x y H5 Q' hx hy s5 hD5 hq => ?_) (fun H5 s5 L5 => ?_)
      · rw [List.getElem?_map] at hx hy
        obtain ⟨r, er, rfl⟩ := Option.map_eq_some_iff.mp hx
        obtain ⟨row, eg, rfl⟩ := Option.map_eq_some_iff.mp hy
        have hlr := R3.2 row (List.mem_of_getElem? eg)
        refine ⟨rfl, _, rfl, r, row, rfl, SqL.of (s5 _ _ (q3 j r row er eg)), by omega, fun p H6 s6 n6 h6 => hq p H6 s6 (new_ne n6 hD5) ?_⟩
        rw [halveRow_eq] at h6
        exact h6
      · refine ⟨D4, _, h, w, rfl, L5, half_of R3, hw, hh6, hw6, fun c2 H6 s6 n6 L6 => ?_⟩
        have sA := (s2.trans s3).trans s5
        exact k c2 H6 (sA.trans s6) (sA.free n6) L6
end

/-- a row that wasn't there in H0 -/
def RowF (H0 : Hp) (H : Hp) (r : Addr) (x : List Int) : Prop := RowAt H r x ∧ H0 r = none
theorem rowF_same {H0 : Hp} : ∀ (H H' : Hp) (r : Addr) (x : List Int), Same H H' → RowF H0 H r x → RowF H0 H' r x := fun _ _ _ _ s h => ⟨s _ _ h.1, h.2⟩
theorem rowF_X {H0 : Hp} : ∀ (D : Addr) (H H' : Hp) (r : Addr) (x : List Int), r ≠ D → SameX D H H' → RowF H0 H r x → RowF H0 H' r x := fun D H H' r x n s h => ⟨s _ _ n h.1, h.2⟩
abbrev GridF (H0 H : Hp) (a : Addr) (g : List (List Int)) : Prop := ListOf (RowF H0) H a g
/-- a promise that a new grid of new rows comes out -/
def AnsF (H : Hp) (g : List (List Int)) (Q : VK) : Prop := ∀ p H', Same H H' → H p = none → GridF H H' p g → Q (.ref p) H'
def spFlat : Sp := fun vs H Q _ => ∃ (a : Addr) (g : List (List Int)), vs = [.ref a] ∧ GridAt H a g ∧ g.flatten.length ≤ 4000000 ∧ Ans H (g.flatten.map V.int) Q
def spCutRows (K : PySem.W.Frag) : Sp := fun vs H Q _ => ∃ (a : Addr) (p : List Int) (w h : Nat), vs = [.ref a, .int w, .int h] ∧ SqL K H a (p.map V.int) ∧ w ≤ 65536 ∧ h ≤ 65536 ∧ AnsG H (TW.cutRows p w h) Q
def SizeAt (H : Hp) (r : Addr) (x : Nat × Nat) : Prop := H r = some (.tup [.int x.1, .int x.2])
theorem sizeAt_same : ∀ (H H' : Hp) (r : Addr) (x : Nat × Nat), Same H H' → SizeAt H r x → SizeAt H' r x := fun _ _ _ _ s h => s _ _ h
def sizesOf (k w h : Nat) : List (Nat × Nat) := (List.range (k + 1)).map fun i => Sp21.last i w h
theorem last_succ : ∀ (i w h : Nat), Sp21.last (i + 1) w h = (Sp21.up (Sp21.last i w h).1, Sp21.up (Sp21.last i w h).2)
  | 0, _, _ => rfl
  | i + 1, w, h => last_succ i (Sp21.up w) (Sp21.up h)
theorem last_le : ∀ (i : Nat) {w h : Nat}, 0 < w → 0 < h → 0 < (Sp21.last i w h).1 ∧ 0 < (Sp21.last i w h).2 ∧ (Sp21.last i w h).1 ≤ w ∧ (Sp21.last i w h).2 ≤ h
  | 0, w, h, h1, h2 => ⟨h1, h2, Nat.le_refl _, Nat.le_refl _⟩
  | i + 1, w, h, h1, h2 => by
    have ih := last_le i (up_pos h1) (up_pos h2)
    have u1 := up_le h1
    have u2 := up_le h2
    exact ⟨ih.1, ih.2.1, Nat.le_trans ih.2.2.1 u1, Nat.le_trans ih.2.2.2 u2⟩
def spSizes : Sp := fun vs H Q _ => ∃ (w h k : Nat), vs = [.int w, .int h, .int k] ∧ k ≤ 5 ∧ ∀ p H', Same H H' → H p = none → ListOf SizeAt H' p (sizesOf k w h) → Q (.ref p) H'
def spThree (K : PySem.W.Frag) : Sp := fun vs H Q _ => ∃ (a : Addr) (g : List (List Int)) (w h x y : Nat), vs = [.ref a, .int x, .int y] ∧ GridAt H a g ∧ Rect g w h ∧ w ≤ 256 ∧ h ≤ 256 ∧ AnsF H (TW.threeBands g x y) Q
def spBandsOf : Sp := fun vs H Q _ => ∃ (a : Addr) (g : List (List Int)) (w h k : Nat), vs = [.ref a, .int k] ∧ GridAt H a g ∧ Rect g w h ∧ 0 < w ∧ 0 < h ∧ w ≤ 256 ∧ h ≤ 256 ∧ k ≤ 5 ∧ AnsF H (TW.tileBands k g w h) Q
theorem flatten_take_succ {g : List (List Int)} {i : Nat} {row : List Int} (h : g[i]? = some row) : (g.take (i + 1)).flatten = (g.take i).flatten ++ row := by
  rw [List.take_succ, h]
  simp
theorem flatten_take_le (g : List (List Int)) (i : Nat) : (g.take i).flatten.length ≤ g.flatten.length := by
  conv => rhs; rw [← List.take_append_drop i g]
  rw [List.flatten_append, List.length_append]
  omega
theorem flat_sub_le (f : List Int → List Int) (hf : ∀ l, (f l).length ≤ l.length) : ∀ (g : List (List Int)), (g.map f).flatten.length ≤ g.flatten.length
  | [] => Nat.le_refl _
  | r :: g => by
    have ih := flat_sub_le f hf g
    have := hf r
    simp only [List.map_cons, List.flatten_cons, List.length_append]
    omega
section
variable {P : Program} {w : World} {K : PySem.W.Frag} {mg : Str → Option Value} {base : Heap}
theorem scFlat : FnScope ["rows", "numbers", "row"] ["rows"] (defScope sFlat) := ⟨rfl, rfl, rfl, by decide +kernel, rfl, by decide +kernel, by decide +kernel⟩
theorem ok_flat (D : DefAt K mg "flat" sFlat) : OkF P w K mg base CX0 1 "flat" ["rows"] spFlat := by
  refine D.ok scFlat (fun _ _ _ _ _ _ us hl => match us, hl with | [_], _ => rfl) (fun vs H Q E h => ?_) (fun f cdv A outer s H vs Q E hr h => ?_)
  · obtain ⟨a, g, rfl, _⟩ := h
    rfl
  · obtain ⟨a, g, rfl, G, hl, k⟩ := h
    refine ⟨_, pss_cons (ps_set (i := 1) scFlat.nd rfl (Or.inl rfl) (pe_lst pa_nil))
      (pss_cons (ps_for PassesOwn.never rfl (pi_list (pv 0)) (pg_name (i := 2) scFlat.nd rfl (Or.inl rfl))
        (pss_one (ps_expr (pe_bm PySem.F.plainAttrs_list PySem.F.slot_list_extend PySem.F.type_list_extend mt_extend (pv 1) (pa_cons (pv 2) pa_nil)))))
      (pss_one (ps_ret (pv 1)))), ?_⟩
    obtain ⟨refs, g1, g2, g0, g3⟩ := id G
    refine ⟨Nat.zero_le _, fun n hn => ?_⟩
    have na : n ≠ a := (ne_of_none g1 hn).symm
    refine ⟨_, rfl, a, rfl, ⟨_, SqL.of ((same_upd hn) _ _ g1)⟩, for_list (K := K) (xs := refs.map V.ref) (fun i σ H2 => ∃ u, σ = [some (.ref a), some (.ref n), u] ∧ Same H H2 ∧ RowAt H2 n (g.take i).flatten) ⟨none, rfl, same_upd hn, upd_same⟩ (fun i σ H2 _ ⟨_, _, s2, _⟩ => SqL.of (s2 _ _ g1)) ?_ ?_⟩
    · rintro i x σ H2 hx ⟨u, rfl, s2, r2⟩
      rw [List.getElem?_map] at hx
      obtain ⟨r, er, rfl⟩ := Option.map_eq_some_iff.mp hx
      have hi : i < g.length := by have := (List.getElem?_eq_some_iff.mp er).1; omega
      have eg : g[i]? = some g[i] := List.getElem?_eq_getElem hi
      have hr2 := s2 _ _ (g3 i r _ er eg)
      have e1 := flatten_take_succ eg
      have e2 := flatten_take_le g (i + 1)
      rw [e1, List.length_append] at e2
      refine ⟨_, rfl, .inl ⟨rfl, _, SqL.of r2⟩, _, rfl, n, r, _, _, rfl, rfl, r2, hr2, by rw [List.length_map, List.length_map]; exact line_ge (by omega), _, rfl, fun b o z => ?_, ?_⟩
      · rw [upd_ne (ne_of_none z hn)]; exact s2 _ _ z
      · show (upd H2 n _) n = _
        rw [upd_same, e1, List.map_append]
    · rintro σ H2 ⟨u, rfl, s2, r2⟩
      rw [List.length_map, g2, List.take_length] at r2
      exact ⟨_, rfl, k n H2 s2 hn r2⟩
theorem scCutRows : FnScope ["numbers", "width", "height", "i"] ["numbers", "width", "height"] (defScope sCutRows) := ⟨rfl, rfl, rfl, by decide +kernel, rfl, by decide +kernel, by decide +kernel⟩
theorem ok_cutRows (D : DefAt K mg "cut_rows" sCutRows) (zR : mg "range" = none) : OkF P w K mg base CX0 1 "cut_rows" ["numbers", "width", "height"] (spCutRows K) := by
  refine D.ok scCutRows (fun _ _ _ _ _ _ us hl => match us, hl with | [_, _, _], _ => rfl) (fun vs H Q E h => ?_) (fun f cdv A outer s H vs Q E hr h => ?_)
  · obtain ⟨a, p, w, h, rfl, _⟩ := h
    rfl
  · obtain ⟨a, p, w, h, rfl, hS, hw, hh, k⟩ := h
    refine ⟨_, pss_one (ps_ret (pe_lc (own := [("i", 3)]) (g := gName 3) (te := tSl (rSlL K) (tVar 0) (tPart (tOp (rI CMul fun i j => .int (i * j)) (tVar 3) (tVar 1))) (tPart (tOp (rI CMul fun i j => .int (i * j)) (tOp (rI0 fun i j => .int (i + j)) (tVar 3) (tC (.int 1))) (tVar 1)))) rfl scCutRows.nd (pi_range1 rfl zR (pa_cons (pv 2) pa_nil)) (blkOk_by (by kernel_rfl))
      (fun s H C cl fp => pg_name (i := 3) scCutRows.nd rfl (Or.inl rfl)) (fun s H C cl fp => pts_nil) (fun s H C cl fp => pe_slice sl_list (pv 0) (po_some (pe_op op_mul (pv 3) (pv 1))) (po_some (pe_op op_mul (pe_op op_add (pv 3) pe_int) (pv 1)))))), ?_⟩
    refine ⟨_, rfl, ((h : Nat) : Int), rfl, by omega, by omega, fun D1 hD1 => ?_⟩
    rw [Int.toNat_natCast]
    refine lc_rangeX rowAt_X (TW.cutRows p w h) (by simp [TW.cutRows]) hD1 (line_ge (by omega)) (fun i y H2 Q' hi hy s2 hD2 hq => ?_) (fun H2 s2 L2' => k D1 H2 s2 hD1 L2')
    have hy : y = (p.drop (i * w)).take w := by
      unfold TW.cutRows at hy
      rw [List.getElem?_map, List.getElem?_range hi] at hy
      exact (Option.some.inj hy).symm
    subst hy
    have e1 : (0 + (i : Int)) * (w : Int) = ((i * w : Nat) : Int) := by rw [Int.zero_add, Int.natCast_mul]
    have e2 : (0 + (i : Int) + 1) * (w : Int) = ((i * w + w : Nat) : Int) := by
      rw [Int.zero_add, Int.add_mul, Int.one_mul, Int.natCast_add, Int.natCast_mul]
    refine ⟨rfl, _, rfl, _, rfl, _, rfl, _, _, rfl, rfl, .inl ⟨by omega, by omega⟩, _, rfl, _, rfl, _, _, rfl, rfl, _, rfl, _, _, rfl, rfl, .inl ⟨by omega, by omega⟩, _, rfl, a, _, rfl, s2.seq hS, fun q hq2 => ?_⟩
    rw [e1, e2, cut_mid]
    exact hq q _ (same_upd hq2) (new_ne hq2 hD2) upd_same
theorem scSizes : FnScope ["width", "height", "levels", "sizes", "level"] ["width", "height", "levels"] (defScope sSizes) := ⟨rfl, rfl, rfl, by decide +kernel, rfl, by decide +kernel, by decide +kernel⟩
theorem ok_sizes (D : DefAt K mg "corner_sizes" sSizes) (zR : mg "range" = none) (oH : OkF P w K mg base CX0 1 "half" ["n"] spHalf) : OkF P w K mg base CX0 2 "corner_sizes" ["width", "height", "levels"] spSizes := by
  refine D.ok scSizes (fun _ _ _ _ _ _ us hl => match us, hl with | [_, _, _], _ => rfl) (fun vs H Q E h => ?_) (fun f cdv A outer s H vs Q E hr h => ?_)
  · obtain ⟨w, h, k, rfl, _⟩ := h
    rfl
  · obtain ⟨w, h, n, rfl, hn, k⟩ := h
    refine ⟨_, pss_cons (ps_set (i := 3) scSizes.nd rfl (Or.inl rfl) (pe_lst (pa_cons (pe_tup (pa_cons (pv 0) (pa_cons (pv 1) pa_nil))) pa_nil)))
      (pss_cons (ps_for PassesOwn.never rfl (pi_range1 rfl zR (pa_cons (pv 2) pa_nil)) (pg_name (i := 4) scSizes.nd rfl (Or.inl rfl))
        (pss_one (ps_expr (pe_bm PySem.F.plainAttrs_list PySem.F.slot_list_append PySem.F.type_list_append mt_append (pv 3) (pa_cons (pe_tup (pa_cons (pe_f0 oH hr rfl (pa_cons (pe_ix ix_tup (pe_ix ix_list (pv 3) (pv 4) (fun _ _ => rfl)) pe_int (fun _ _ => rfl)) pa_nil))
          (pa_cons (pe_f0 oH hr rfl (pa_cons (pe_ix ix_tup (pe_ix ix_list (pv 3) (pv 4) (fun _ _ => rfl)) pe_int (fun _ _ => rfl)) pa_nil)) pa_nil))) pa_nil)))))
      (pss_one (ps_ret (pv 3)))), ?_⟩
    refine ⟨_, rfl, _, rfl, (by show 2 ≤ sizeLine; decide), fun t ht => ⟨(by show 1 ≤ sizeLine; decide), fun a ha => ?_⟩⟩
    have ta : t ≠ a := ne_of_none upd_same ha
    have haH : H a = none := (same_upd ht).free ha
    refine ⟨_, rfl, ((n : Nat) : Int), rfl, by omega, by omega, ?_⟩
    rw [Int.toNat_natCast]
    refine for_range (fun i σ H2 => ∃ u, σ = [some (.int w), some (.int h), some (.int n), some (.ref a), u] ∧ Same H H2 ∧ ListOf SizeAt H2 a (sizesOf i w h)) ⟨none, rfl, (same_upd ht).new ha, [t], upd_same, rfl, fun r hr' => by rw [List.mem_singleton.mp hr']; exact ta, ?_⟩ ?_ ?_
    · intro i r x e1 e2
      have h0 : i = 0 := by
        rcases Nat.eq_zero_or_pos i with z | z
        · exact z
        · rw [List.getElem?_eq_none (by show 1 ≤ i; omega)] at e1; cases e1
      subst h0
      cases e1
      cases e2
      show (upd _ a _) t = _
      rw [upd_ne ta]
      exact upd_same
    · rintro i σ H2 hi ⟨u, rfl, s2, L2'⟩
      obtain ⟨refs, g1, g2, g0, g3⟩ := id L2'
      have hlen : refs.length = i + 1 := by rw [g2]; simp [sizesOf]
      have er : refs[i]? = some refs[i] := List.getElem?_eq_getElem (by omega)
      have es : (sizesOf i w h)[i]? = some (Sp21.last i w h) := by simp [sizesOf]
      have sz := g3 i refs[i] _ er es
      rw [Int.zero_add]
      have ai : atI (refs.map V.ref) (i : Int) = some (.ref refs[i]) := atI_nat (by rw [List.getElem?_map, er]; rfl)
      refine ⟨_, rfl, .inl ⟨rfl, _, SqL.of g1⟩, ?_⟩
      refine ⟨_, rfl, _, rfl, a, _, _, _, rfl, rfl, SqL.of g1, ai, refs[i], _, _, _, rfl, rfl, SqT.of sz, at_of (j := 0) rfl rfl, _, rfl, ?_⟩
      refine ⟨_, rfl, _, rfl, a, _, _, _, rfl, rfl, SqL.of g1, ai, refs[i], _, _, _, rfl, rfl, SqT.of sz, at_of (j := 1) rfl rfl, _, rfl, (by show 2 ≤ sizeLine; decide), fun t2 ht2 => ?_⟩
      have eT : (HO.tup [V.int (((((Sp21.last i w h).1 : Nat) : Int) + 1) / 2), V.int (((((Sp21.last i w h).2 : Nat) : Int) + 1) / 2)]) = .tup [.int ((Sp21.last (i + 1) w h).1 : Nat), .int ((Sp21.last (i + 1) w h).2 : Nat)] := by
        rw [last_succ]
        have e1 : ∀ n : Nat, ((n : Int) + 1) / 2 = ((Sp21.up n : Nat) : Int) := fun n => by unfold Sp21.up; omega
        rw [e1, e1]
      rw [eT]
      have s3 := same_upd (o := .tup [.int ((Sp21.last (i + 1) w h).1 : Nat), .int ((Sp21.last (i + 1) w h).2 : Nat)]) ht2
      obtain ⟨refs', h1, h2, h3⟩ := L2'.snoc (x := Sp21.last (i + 1) w h) (p := t2) s3 (fun r y o hn z => by show upd _ _ _ _ = _; rw [upd_ne hn]; exact z) (fun r y z => sizeAt_same _ _ _ _ s3 z) (ne_of_none g1 ht2).symm (by show upd _ _ _ _ = _; rw [upd_same])
      refine ⟨a, _, _, rfl, rfl, h1, by rw [List.length_map]; exact line_ge (by omega), _, rfl, fun b o z => ?_, ?_⟩
      · rw [upd_ne (ne_of_none z haH)]; exact s3 _ _ (s2 _ _ z)
      · have e : sizesOf (i + 1) w h = sizesOf i w h ++ [Sp21.last (i + 1) w h] := by
          unfold sizesOf
          rw [List.range_succ (n := i + 1), List.map_append]
          rfl
        rw [e]
        exact h3
    · rintro σ H2 ⟨u, rfl, s2, L2'⟩
      exact ⟨_, rfl, k a H2 s2 haH L2'⟩
end

/-- two lists, one behind the other -/
theorem _root_.TW.ListOf.cat {α : Type} {R : Hp → Addr → α → Prop} {H' : Hp} {p : Addr} {l1 l2 : List α} {r1 r2 : List Addr} (e1 : r1.length = l1.length) (e2 : r2.length = l2.length) (n1 : ∀ r ∈ r1, r ≠ p) (n2 : ∀ r ∈ r2, r ≠ p)
    (g1 : ∀ (i : Nat) (r : Addr) (x : α), r1[i]? = some r → l1[i]? = some x → R H' r x) (g2 : ∀ (i : Nat) (r : Addr) (x : α), r2[i]? = some r → l2[i]? = some x → R H' r x) (hp : H' p = some (.lst (r1.map V.ref ++ r2.map V.ref))) : ListOf R H' p (l1 ++ l2) := by
  refine ⟨r1 ++ r2, by rw [hp, List.map_append], by rw [List.length_append, List.length_append, e1, e2], fun r hr => (List.mem_append.mp hr).elim (n1 r) (n2 r), fun i r x h1 h2 => ?_⟩
  by_cases hi : i < r1.length
  · rw [List.getElem?_append_left hi] at h1
    rw [List.getElem?_append_left (by omega)] at h2
    exact g1 i r x h1 h2
  · rw [List.getElem?_append_right (by omega)] at h1
    rw [List.getElem?_append_right (by omega)] at h2
    rw [e1] at h1
    exact g2 _ r x h1 h2
theorem refs_ne {H : Hp} {g : List (List Int)} {refs : List Addr} {p : Addr} (h2 : refs.length = g.length) (h3 : ∀ (i : Nat) (r : Addr) (x : List Int), refs[i]? = some r → g[i]? = some x → RowAt H r x) (hp : H p = none) : ∀ r ∈ refs, r ≠ p := by
  intro r hr
  obtain ⟨i, hi, rfl⟩ := List.getElem_of_mem hr
  have := h3 i _ _ (List.getElem?_eq_getElem hi) (List.getElem?_eq_getElem (by omega))
  exact ne_of_none this hp
/-- a part of a grid, cut row by row: [row[..] for row in g[..]] -/
theorem lc_part {K : PySem.W.Frag} {tg : TG} {te : TE} {ws : List Nat} {σ : L2.St} {H1 : Hp} {D q : Addr} {Qd : Hp → Prop} {g : List (List Int)} {refs : List Addr} (f : List Int → List Int) (hD : H1 D = none) (h2 : refs.length = g.length) (h3 : ∀ (i : Nat) (r : Addr) (x : List Int), refs[i]? = some r → g[i]? = some x → RowAt H1 r x) (hx : SqL K H1 q (refs.map V.ref)) (hz : g.length ≤ sizeLine)
    (hs : ∀ (r : Addr) (row : List Int) (H : Hp) (Q' : VK), row ∈ g → Same H1 H → RowAt H r row → (∀ p, H p = none → Q' (.ref p) (upd H p (.lst ((f row).map V.int)))) → tg (.ref r) (wipe σ ws) H fun σ2 H2 => wipe σ2 ws = wipe σ ws ∧ te σ2 H2 Q')
    (hd : ∀ H, Same H1 H → GridAt H D (g.map f) → Qd H) :
    ∃ W : Nat → Nat → Hp → Prop, (∃ m, W 0 m (upd H1 D (.lst []))) ∧ ∀ i m H, W i m H →
      ((Itl K q).stop i H ∧ Qd H) ∨ ((Itl K q).go i H ∧ ∃ Nx : Hp → Prop, (∀ H', Nx H' → ∃ m', m' < m ∧ W (i + 1) m' H') ∧ ∀ x H', (Itl K q).yld i H x H' → tg x (wipe σ ws) H' fun σ2 H2 => wipe σ2 ws = wipe σ ws ∧ tYes σ2 H2 fun b H3 =>
        if b = true then te σ2 H3 fun y H4 => ∃ acc, H4 D = some (.lst acc) ∧ acc.length < sizeLine ∧ Nx (upd H4 D (.lst (acc ++ [y]))) else Nx H3) := by
  refine lc_listX rowAt_X (g.map f) (by rw [List.length_map, List.length_map, h2]) hD hx (by rw [List.length_map, h2]; exact hz) (fun j x y H2 Q' hx hy s2 hD2 hq => ?_) hd
  rw [List.getElem?_map] at hx hy
  obtain ⟨r, er, rfl⟩ := Option.map_eq_some_iff.mp hx
  obtain ⟨row, eg, rfl⟩ := Option.map_eq_some_iff.mp hy
  exact hs r row H2 Q' (List.mem_of_getElem? eg) s2 (s2 _ _ (h3 j r row er eg)) fun p hp => hq p _ (same_upd hp) (new_ne hp hD2) upd_same
theorem grid3 {H : Hp} {p f1 f2 f3 : Addr} {l1 l2 l3 : List Int} {H0 : Hp} (h1 : RowF H0 H f1 l1) (h2 : RowF H0 H f2 l2) (h3 : RowF H0 H f3 l3) (hp : H p = none) : GridF H0 (upd H p (.lst [.ref f1, .ref f2, .ref f3])) p [l1, l2, l3] := by
  refine ⟨[f1, f2, f3], upd_same, rfl, fun r hr => ?_, fun i r x e1 e2 => rowF_same _ _ _ _ (same_upd hp) ?_⟩
  · have hr : r = f1 ∨ r = f2 ∨ r = f3 := by simpa using hr
    rcases hr with rfl | rfl | rfl
    · exact ne_of_none h1.1 hp
    · exact ne_of_none h2.1 hp
    · exact ne_of_none h3.1 hp
  · match i, e1, e2 with
    | 0, e1, e2 => cases e1; cases e2; exact h1
    | 1, e1, e2 => cases e1; cases e2; exact h2
    | 2, e1, e2 => cases e1; cases e2; exact h3
section
variable {P : Program} {w : World} {K : PySem.W.Frag} {mg : Str → Option Value} {base : Heap}
theorem scThree : FnScope ["halved", "width", "height", "right_above", "left_below", "right_below", "row"] ["halved", "width", "height"] (defScope sThree) := ⟨rfl, rfl, rfl, by decide +kernel, rfl, by decide +kernel, by decide +kernel⟩
theorem ok_three (D : DefAt K mg "three_bands" sThree) (oF : OkF P w K mg base CX0 1 "flat" ["rows"] spFlat) : OkF P w K mg base CX0 2 "three_bands" ["halved", "width", "height"] (spThree K) := by
  refine D.ok scThree (fun _ _ _ _ _ _ us hl => match us, hl with | [_, _, _], _ => rfl) (fun vs H Q E h => ?_) (fun f cdv A outer s H vs Q E hr h => ?_)
  · obtain ⟨a, g, w, h, x, y, rfl, _⟩ := h
    rfl
  · obtain ⟨a, g, w, h, x, y, rfl, G, R, hw, hh, k⟩ := h
    refine ⟨_, pss_cons (ps_set (i := 3) scThree.nd rfl (Or.inl rfl) (pe_f0 oF hr rfl (pa_cons (pe_lc (own := [("row", 6)]) (g := gName 6) (te := tSl (rSlL K) (tVar 6) (tPart (tVar 1)) tNoPart) rfl scThree.nd (pi_list (pe_slice sl_list (pv 0) po_none (po_some (pv 2)))) (blkOk_by (by kernel_rfl)) (fun s H C cl fp => pg_name (i := 6) scThree.nd rfl (Or.inl rfl)) (fun s H C cl fp => pts_nil)
        (fun s H C cl fp => pe_slice sl_list (pv 6) (po_some (pv 1)) po_none)) pa_nil)))
      (pss_cons (ps_set (i := 4) scThree.nd rfl (Or.inl rfl) (pe_f0 oF hr rfl (pa_cons (pe_lc (own := [("row", 6)]) (g := gName 6) (te := tSl (rSlL K) (tVar 6) tNoPart (tPart (tVar 1))) rfl scThree.nd (pi_list (pe_slice sl_list (pv 0) (po_some (pv 2)) po_none)) (blkOk_by (by kernel_rfl)) (fun s H C cl fp => pg_name (i := 6) scThree.nd rfl (Or.inl rfl)) (fun s H C cl fp => pts_nil)
        (fun s H C cl fp => pe_slice sl_list (pv 6) po_none (po_some (pv 1)))) pa_nil)))
      (pss_cons (ps_set (i := 5) scThree.nd rfl (Or.inl rfl) (pe_f0 oF hr rfl (pa_cons (pe_lc (own := [("row", 6)]) (g := gName 6) (te := tSl (rSlL K) (tVar 6) (tPart (tVar 1)) tNoPart) rfl scThree.nd (pi_list (pe_slice sl_list (pv 0) (po_some (pv 2)) po_none)) (blkOk_by (by kernel_rfl)) (fun s H C cl fp => pg_name (i := 6) scThree.nd rfl (Or.inl rfl)) (fun s H C cl fp => pts_nil)
        (fun s H C cl fp => pe_slice sl_list (pv 6) (po_some (pv 1)) po_none)) pa_nil)))
      (pss_one (ps_ret (pe_lst (pa_cons (pv 3) (pa_cons (pv 4) (pa_cons (pv 5) pa_nil)))))))), ?_⟩
    obtain ⟨refs, g1, g2, g0, g3⟩ := id G
    have hz : g.length ≤ sizeLine := by rw [R.1]; exact line_ge (by omega)
    have hall : g.flatten.length ≤ 65536 := by
      rw [flatten_rect R]
      exact Nat.mul_le_mul hw hh
    -- one of the three: a part of the rows, a part of each
    have part : ∀ {X : List Int → List Int} (hX : ∀ l, (X l).length ≤ l.length) (u n : Nat), (((g.drop u).take n).map X).flatten.length ≤ 4000000 := fun hX u n => by
      have h1 := flat_sub_le _ hX ((g.drop u).take n)
      have h2 : ((g.drop u).take n).flatten.length ≤ g.flatten.length := by
        have e1 := flatten_take_le (g.drop u) n
        have e2 : (g.drop u).flatten.length ≤ g.flatten.length := by
          conv => rhs; rw [← List.take_append_drop u g]
          rw [List.flatten_append, List.length_append]
          omega
        omega
      omega
    -- above, to the right; below, to the left; below, to the right
    refine ⟨_, rfl, _, rfl, _, rfl, a, _, rfl, SqL.of g1, fun q1 hq1 => ?_⟩
    rw [cut_toV, ← List.map_take]
    have t1 := same_upd (o := .lst ((refs.take y).map V.ref)) hq1
    have p1 : (g.take y).length ≤ sizeLine := by rw [List.length_take]; omega
    refine ⟨q1, rfl, ⟨_, SqL.of upd_same⟩, fun D1 hD1 => ?_⟩
    refine lc_part (g := g.take y) (refs := refs.take y) (fun l => l.drop x) hD1 (by rw [List.length_take, List.length_take, g2]) (fun i r row e1 e2 => t1 _ _ (g3 i r row (by rw [List.getElem?_take] at e1; split at e1 <;> first | exact e1 | cases e1) (by rw [List.getElem?_take] at e2; split at e2 <;> first | exact e2 | cases e2))) (SqL.of upd_same) p1 (fun r row H2 Q' hm sm hR hq => ?_) (fun I1 s1 L1' => ?_)
    · refine ⟨rfl, _, rfl, _, rfl, _, rfl, r, _, rfl, SqL.of hR, fun p hp => ?_⟩
      rw [cut_from]
      exact hq p hp
    refine ⟨D1, _, rfl, L1', ?_, fun f1 J1 w1 n1 r1 => ?_⟩
    · have := part (X := fun l => l.drop x) (fun l => by first | (simp; done) | (simp; omega)) 0 y
      simpa using this
    have v1 : Same H J1 := ((t1.trans s1).trans w1)
    refine ⟨_, rfl, _, rfl, _, rfl, a, _, rfl, SqL.of (v1 _ _ g1), fun q2 hq2 => ?_⟩
    rw [cut_fromV, ← List.map_drop]
    have t2 := same_upd (o := .lst ((refs.drop y).map V.ref)) hq2
    have p2 : (g.drop y).length ≤ sizeLine := by rw [List.length_drop]; omega
    refine ⟨q2, rfl, ⟨_, SqL.of upd_same⟩, fun D2 hD2 => ?_⟩
    refine lc_part (g := g.drop y) (refs := refs.drop y) (fun l => l.take x) hD2 (by rw [List.length_drop, List.length_drop, g2]) (fun i r row e1 e2 => t2 _ _ (v1 _ _ (g3 (y + i) r row (by rw [List.getElem?_drop] at e1; exact e1) (by rw [List.getElem?_drop] at e2; exact e2)))) (SqL.of upd_same) p2 (fun r row H2 Q' hm sm hR hq => ?_) (fun I2 s2 L2' => ?_)
    · refine ⟨rfl, _, rfl, _, rfl, _, rfl, r, _, rfl, SqL.of hR, fun p hp => ?_⟩
      rw [cut_to]
      exact hq p hp
    refine ⟨D2, _, rfl, L2', ?_, fun f2 J2 w2 n2 r2 => ?_⟩
    · have := part (X := fun l => l.take x) (fun l => by first | (simp; done) | (simp; omega)) y g.length
      rw [List.take_of_length_le (by rw [List.length_drop]; omega)] at this; exact this
    have v2 : Same H J2 := v1.trans ((t2.trans s2).trans w2)
    refine ⟨_, rfl, _, rfl, _, rfl, a, _, rfl, SqL.of (v2 _ _ g1), fun q3 hq3 => ?_⟩
    rw [cut_fromV, ← List.map_drop]
    have t3 := same_upd (o := .lst ((refs.drop y).map V.ref)) hq3
    have p3 : (g.drop y).length ≤ sizeLine := by rw [List.length_drop]; omega
    refine ⟨q3, rfl, ⟨_, SqL.of upd_same⟩, fun D3 hD3 => ?_⟩
    refine lc_part (g := g.drop y) (refs := refs.drop y) (fun l => l.drop x) hD3 (by rw [List.length_drop, List.length_drop, g2]) (fun i r row e1 e2 => t3 _ _ (v2 _ _ (g3 (y + i) r row (by rw [List.getElem?_drop] at e1; exact e1) (by rw [List.getElem?_drop] at e2; exact e2)))) (SqL.of upd_same) p3 (fun r row H2 Q' hm sm hR hq => ?_) (fun I3 s3 L3' => ?_)
    · refine ⟨rfl, _, rfl, _, rfl, _, rfl, r, _, rfl, SqL.of hR, fun p hp => ?_⟩
      rw [cut_from]
      exact hq p hp
    refine ⟨D3, _, rfl, L3', ?_, fun f3 J3 w3 n3 r3 => ?_⟩
    · have := part (X := fun l => l.drop x) (fun l => by first | (simp; done) | (simp; omega)) y g.length
      rw [List.take_of_length_le (by rw [List.length_drop]; omega)] at this; exact this
    have v3 : Same H J3 := v2.trans ((t3.trans s3).trans w3)
    refine ⟨_, rfl, _, rfl, _, rfl, (by show 3 ≤ sizeLine; decide), fun p hp => k p _ (v3.new hp) (v3.free hp) ?_⟩
    exact grid3 ⟨(w3 _ _ ((t3.trans s3) _ _ (w2 _ _ ((t2.trans s2) _ _ r1)))), (t1.trans s1).free n1⟩ ⟨(w3 _ _ ((t3.trans s3) _ _ r2)), (v1.trans (t2.trans s2)).free n2⟩ ⟨r3, (v2.trans (t3.trans s3)).free n3⟩ hp
theorem scBandsOf : FnScope ["rows", "levels", "corner", "around", "size", "halved", "row"] ["rows", "levels"] (defScope sBandsOf) := ⟨rfl, rfl, rfl, by decide +kernel, rfl, by decide +kernel, by decide +kernel⟩
theorem ok_bandsOf (D : DefAt K mg "bands_of" sBandsOf) (zLen : mg "len" = none) (oS : OkF P w K mg base CX0 2 "corner_sizes" ["width", "height", "levels"] spSizes) (oH : OkF P w K mg base CX0 3 "halve_corner" ["rows"] spHalveCorner)
    (oT : OkF P w K mg base CX0 2 "three_bands" ["halved", "width", "height"] (spThree K)) (oF : OkF P w K mg base CX0 1 "flat" ["rows"] spFlat) : OkF P w K mg base CX0 4 "bands_of" ["rows", "levels"] spBandsOf := by
  refine D.ok scBandsOf (fun _ _ _ _ _ _ us hl => match us, hl with | [_, _], _ => rfl) (fun vs H Q E h => ?_) (fun f cdv A outer s H vs Q E hr h => ?_)
  · obtain ⟨a, g, w, h, n, rfl, _⟩ := h
    rfl
  · obtain ⟨a, g, w, h, n, rfl, G, R, hw, hh, hw2, hh2, hn, k⟩ := h
    refine ⟨_, pss_cons (ps_set (i := 2) scBandsOf.nd rfl (Or.inl rfl) (pv 0)) (pss_cons (ps_set (i := 3) scBandsOf.nd rfl (Or.inl rfl) (pe_lst pa_nil))
      (pss_cons (ps_for PassesOwn.never rfl (pi_list (pe_slice sl_list (pe_f0 oS (hr.mono (by omega)) rfl (pa_cons (pe_callB call_len_seq (by rfl) zLen PySem.boot_len (pa_cons (pe_ix ix_list (pv 0) pe_int (fun _ _ => rfl)) pa_nil)) (pa_cons (pe_callB call_len_seq (by rfl) zLen PySem.boot_len (pa_cons (pv 0) pa_nil)) (pa_cons (pv 1) pa_nil)))) (po_some pe_int) po_none)) (pg_name (i := 4) scBandsOf.nd rfl (by first | exact Or.inl rfl | exact Or.inr rfl))
        (pss_cons (ps_set (i := 5) scBandsOf.nd rfl (by first | exact Or.inl rfl | exact Or.inr rfl) (pe_f0 oH hr rfl (pa_cons (pv 2) pa_nil)))
        (pss_cons (ps_set (i := 3) scBandsOf.nd rfl (Or.inl rfl) (pe_op op_cat (pe_f0 oT (hr.mono (by omega)) rfl (pa_cons (pv 5) (pa_cons (pe_ix ix_tup (pv 4) pe_int (fun _ _ => rfl)) (pa_cons (pe_ix ix_tup (pv 4) pe_int (fun _ _ => rfl)) pa_nil)))) (pv 3)))
        (pss_one (ps_setLc (i := 2) (own := [("row", 6)]) (g := gName 6) (te := tSl (rSlL K) (tVar 6) tNoPart (tPart (tOp (rIxT K) (tVar 4) (tC (.int 0))))) rfl scBandsOf.nd rfl rfl (sw_true rfl rfl rfl (by decide +kernel)) (pi_list (pe_slice sl_list (pv 5) po_none (po_some (pe_ix ix_tup (pv 4) pe_int (fun _ _ => rfl))))) (blkOk_by (by kernel_rfl)) (fun s H C cl fp => pg_name (i := 6) scBandsOf.nd rfl (Or.inl rfl)) (fun s H C cl fp => pts_nil)
          (fun s H C cl fp => pe_slice sl_list (pv 6) po_none (po_some (pe_ix ix_tup (pv 4) pe_int (fun _ _ => rfl)))))))))
      (pss_one (ps_ret (pe_op op_cat (pe_lst (pa_cons (pe_f0 oF (hr.mono (by omega)) rfl (pa_cons (pv 2) pa_nil)) pa_nil)) (pv 3)))))), ?_⟩
    obtain ⟨refs, g1, g2, g0, g3⟩ := id G
    have hg0 : 0 < g.length := by rw [R.1]; exact hh
    have e0 : refs[0]? = some refs[0] := List.getElem?_eq_getElem (by omega)
    have r0 := g3 0 refs[0] _ e0 (getD_mem_row hg0)
    have l0 : (g.getD 0 []).length = w := R.row hh
    refine ⟨_, rfl, Nat.zero_le _, fun n0 hn0 => ?_⟩
    have t0 := same_upd (o := .lst []) hn0
    refine ⟨_, rfl, a, _, _, _, rfl, rfl, SqL.of (t0 _ _ g1), at_of (j := 0) rfl (by rw [List.getElem?_map, e0]; rfl), refs[0], _, rfl, .inl (SqL.of (t0 _ _ r0)), _, rfl, a, _, rfl, .inl (SqL.of (t0 _ _ g1)), _, rfl, w, h, n, ?_, hn, fun z Hz sz nz Lz => ?_⟩
    · rw [List.length_map, l0, List.length_map, g2, R.1]
      rfl
    obtain ⟨zs, z1, z2, z0, z3⟩ := id Lz
    refine ⟨1, rfl, z, _, rfl, SqL.of z1, fun q hq => ?_⟩
    rw [show (1 : Int) = ((1 : Nat) : Int) from rfl, cut_fromV, ← List.map_drop]
    have tq := same_upd (o := .lst ((zs.drop 1).map V.ref)) hq
    have sB : Same H (upd Hz q (.lst ((zs.drop 1).map V.ref))) := (t0.trans sz).trans tq
    have zl : zs.length = n + 1 := by rw [z2]; simp [sizesOf]
    generalize hHq : upd Hz q (.lst ((zs.drop 1).map V.ref)) = Hq at sB tq ⊢
    have q1 : Hq q = some (.lst ((zs.drop 1).map V.ref)) := by rw [← hHq, upd_same]
    refine ⟨q, rfl, ⟨_, SqL.of q1⟩, ?_⟩
    refine for_list (K := K) (xs := (zs.drop 1).map V.ref) (fun i σ H2 => ∃ (c : List (List Int)) (ca : Addr) (ar : List (List Int)) (ra : Addr) (u v : Option V), σ = [some (.ref a), some (.int n), some (.ref ca), some (.ref ra), u, v, none] ∧ Same Hq H2 ∧ GridAt H2 ca c ∧ Rect c (Sp21.last i w h).1 (Sp21.last i w h).2 ∧ GridF H H2 ra ar ∧ ar.length ≤ 3 * i ∧ TW.tileBands n g w h = TW.tileBands (n - i) c (Sp21.last i w h).1 (Sp21.last i w h).2 ++ ar)
      ⟨g, a, [], n0, none, none, rfl, Same.refl _, (G.same rowAt_same sB), R, ListOf.nil (by
        have := (sz.trans tq) n0 _ (upd_same (H := H) (a := n0) (o := .lst []))
        exact this), Nat.le_refl _, by rw [List.append_nil]; rfl⟩ (fun i σ H2 _ ⟨_, _, _, _, _, _, _, s2, _⟩ => SqL.of (s2 _ _ q1)) ?_ ?_
    · rintro i x σ H2 hx ⟨c, ca, ar, ra, u, v, rfl, s2, Gc, Rc, Ga, hal, hB⟩
      rw [List.getElem?_map, List.getElem?_drop] at hx
      obtain ⟨rs, ers, rfl⟩ := Option.map_eq_some_iff.mp hx
      have hi : i < n := by have := (List.getElem?_eq_some_iff.mp ers).1; omega
      have es : (sizesOf n w h)[1 + i]? = some (Sp21.last (i + 1) w h) := by
        unfold sizesOf
        rw [List.getElem?_map, List.getElem?_range (by omega), Nat.add_comm]
        rfl
      have siz : SizeAt Hq rs (Sp21.last (i + 1) w h) := tq _ _ (z3 _ rs _ ers es)
      have ll := last_le i hw hh
      have lsu := last_succ i w h
      generalize hcw : (Sp21.last i w h).1 = cw at Rc hB ll lsu
      generalize hch : (Sp21.last i w h).2 = ch at Rc hB ll lsu
      rw [lsu] at siz
      refine ⟨_, rfl, ca, c, cw, ch, rfl, Gc, Rc, ll.1, ll.2.1, by omega, by omega, fun hv H3 s3 n3 L3 => ?_⟩
      have RH := Rc.halveCorner ll.1 ll.2.1
      have siz3 := SqT.of (K := K) (sizeAt_same _ _ _ _ (s2.trans s3) siz)
      refine ⟨_, rfl, _, rfl, rs, _, _, _, rfl, rfl, siz3, at_of (j := 0) rfl rfl, _, rfl, rs, _, _, _, rfl, rfl, siz3, at_of (j := 1) rfl rfl, hv, TW.halveCorner c, cw, ch, Sp21.up cw, Sp21.up ch, rfl, L3, RH, by omega, by omega, fun tb H4 s4 n4 L4 => ?_⟩
      obtain ⟨tr, b1, b2, b0, b3⟩ := id L4
      obtain ⟨rr, c1, c2, c0, c3⟩ := id Ga
      have s34 := s3.trans s4
      refine ⟨_, rfl, tb, ra, _, _, rfl, rfl, b1, s34 _ _ c1, ?_, fun p hp => ?_⟩
      · rw [List.length_map, List.length_map, b2, c2]
        exact line_ge (by show 3 + ar.length ≤ 16000000; omega)
      have s5 := same_upd (o := .lst (tr.map V.ref ++ rr.map V.ref)) hp
      have GA : GridF H (upd H4 p (.lst (tr.map V.ref ++ rr.map V.ref))) p (TW.threeBands (TW.halveCorner c) (Sp21.up cw) (Sp21.up ch) ++ ar) :=
        ListOf.cat b2 c2 (refs_ne b2 (fun i r x e1 e2 => (b3 i r x e1 e2).1) hp) (refs_ne c2 (fun i r x e1 e2 => s34 _ _ (c3 i r x e1 e2).1) hp) (fun i r x e1 e2 => ⟨s5 _ _ (b3 i r x e1 e2).1, (sB.trans (s2.trans s3)).free (b3 i r x e1 e2).2⟩) (fun i r x e1 e2 => ⟨s5 _ _ (s34 _ _ (c3 i r x e1 e2).1), (c3 i r x e1 e2).2⟩) upd_same
      generalize hH5 : upd H4 p (.lst (tr.map V.ref ++ rr.map V.ref)) = H5 at s5 GA ⊢
      obtain ⟨hrefs, h1, h2, h0, h3⟩ := id L3
      have s45 := s4.trans s5
      have siz5 := SqT.of (K := K) (sizeAt_same _ _ _ _ (s2.trans (s3.trans s45)) siz)
      refine ⟨_, rfl, _, rfl, rs, _, _, _, rfl, rfl, siz5, at_of (j := 1) rfl rfl, _, rfl, hv, _, rfl, SqL.of (s45 _ _ h1), fun q2 hq2 => ?_⟩
      rw [cut_toV, ← List.map_take]
      have s6 := same_upd (o := .lst ((hrefs.take (Sp21.up ch)).map V.ref)) hq2
      refine ⟨q2, rfl, ⟨_, SqL.of upd_same⟩, fun D1 hD1 => ?_⟩
      refine lc_part (g := (TW.halveCorner c).take (Sp21.up ch)) (refs := hrefs.take (Sp21.up ch)) (fun l => l.take (Sp21.up cw)) hD1 (by rw [List.length_take, List.length_take, h2]) (fun i r row e1 e2 => s6 _ _ (s45 _ _ (h3 i r row (by rw [List.getElem?_take] at e1; split at e1 <;> first | exact e1 | cases e1) (by rw [List.getElem?_take] at e2; split at e2 <;> first | exact e2 | cases e2)))) (SqL.of upd_same) (by rw [List.length_take, RH.1]; exact line_ge (by omega)) (fun r row H6 Q' hm sm hR hq => ?_) (fun H6 s7 L6 => ?_)
      · refine ⟨rfl, _, rfl, _, rfl, rs, _, _, _, rfl, rfl, SqT.of (K := K) (sizeAt_same _ _ _ _ (((s2.trans (s3.trans s45)).trans s6).trans sm) siz), at_of (j := 0) rfl rfl, _, rfl, r, _, rfl, SqL.of hR, fun p hp => ?_⟩
        rw [cut_to]
        exact hq p hp
      · have lsu' : Sp21.last (i + 1) w h = (Sp21.up cw, Sp21.up ch) := lsu
        have u1 := up_le ll.1
        have u2 := up_le ll.2.1
        have s67 := s6.trans s7
        refine ⟨TW.sub (TW.halveCorner c) (Sp21.up cw) (Sp21.up ch), D1, TW.threeBands (TW.halveCorner c) (Sp21.up cw) (Sp21.up ch) ++ ar, p, _, _, rfl, (s2.trans (s3.trans s45)).trans s67, L6, ?_, GA.same rowF_same s67, ?_, ?_⟩
        · rw [lsu']
          exact RH.sub u1 u2
        · rw [List.length_append]
          show 3 + ar.length ≤ _
          omega
        · rw [hB, lsu', show n - i = (n - (i + 1)) + 1 by omega, ← List.append_assoc]
          rfl
    · rintro σ H2 ⟨c, ca, ar, ra, u, v, rfl, s2, Gc, Rc, Ga, hal, hB⟩
      have hlen : ((zs.drop 1).map V.ref).length = n := by rw [List.length_map, List.length_drop, zl]; rfl
      rw [hlen] at Rc hal hB
      have ll := last_le n hw hh
      refine ⟨_, rfl, ca, c, rfl, Gc, ?_, fun f1 H3 s3 n3 r3 => ⟨(by show 1 ≤ sizeLine; decide), fun q3 hq3 => ?_⟩⟩
      · rw [flatten_rect Rc]
        have : (Sp21.last n w h).1 * (Sp21.last n w h).2 ≤ 256 * 256 := Nat.mul_le_mul (by omega) (by omega)
        omega
      obtain ⟨rr, c1, c2, c0, c3⟩ := id Ga
      have t3 := s3.new (o := .lst [.ref f1]) hq3
      refine ⟨_, rfl, q3, ra, _, _, rfl, rfl, upd_same, t3 _ _ c1, ?_, fun p hp => ?_⟩
      · rw [List.length_map, c2]
        exact line_ge (by show 1 + ar.length ≤ 16000000; omega)
      have t4 := t3.new (o := .lst ([V.ref f1] ++ rr.map V.ref)) hp
      have rf : RowAt (upd (upd H3 q3 (.lst [.ref f1])) p (.lst ([V.ref f1] ++ rr.map V.ref))) f1 c.flatten := ((same_upd hq3).new hp) _ _ r3
      refine k p _ (sB.trans (s2.trans t4)) ((sB.trans (s2.trans t3)).free hp) ?_
      rw [hB, Nat.sub_self]
      refine ListOf.cat (r1 := [f1]) (l1 := [c.flatten]) rfl c2 (fun r hr => ?_) (refs_ne c2 (fun i r x e1 e2 => t3 _ _ (c3 i r x e1 e2).1) hp) (fun i r x e1 e2 => ?_) (fun i r x e1 e2 => ⟨t4 _ _ (c3 i r x e1 e2).1, (c3 i r x e1 e2).2⟩) upd_same
      · rw [List.mem_singleton.mp hr]
        exact ne_of_none (same_upd hq3 _ _ r3) hp
      · match i, e1, e2 with
        | 0, e1, e2 => cases e1; cases e2; exact ⟨rf, (sB.trans s2).free n3⟩
end

theorem br_t {b : Bool} {p q : Prop} (h : b = true) (k : p) : if b = true then p else q := by rw [if_pos h]; exact k
theorem br_f {b : Bool} {p q : Prop} (h : b = false) (k : q) : if b = true then p else q := by rw [if_neg (by rw [h]; decide)]; exact k
/-- all but p and d as it was -/
def Same2 (p d : Addr) (H H' : Hp) : Prop := ∀ b o, b ≠ p → b ≠ d → H b = some o → H' b = some o
theorem Same2.trans {p d : Addr} {H H1 H2 : Hp} (a : Same2 p d H H1) (b : Same2 p d H1 H2) : Same2 p d H H2 := fun c o n m e => b c o n m (a c o n m e)
theorem Same2.of {p d : Addr} {H H' : Hp} (s : Same H H') : Same2 p d H H' := fun b o _ _ e => s b o e
def paceF (a c : Int) : List (Str × V) := [("a", .int a), ("c", .int c)]
theorem paceF_a (a c v : Int) : putF "a" (.int v) (paceF a c) = paceF v c := by
  show (if ("a" : Str) = "a" then _ else _) = _
  rw [if_pos rfl]; rfl
theorem paceF_c (a c v : Int) : putF "c" (.int v) (paceF a c) = paceF a v := by
  show (if ("a" : Str) = "c" then _ else _) = _
  rw [if_neg (by decide +kernel)]
  show _ :: (if ("c" : Str) = "c" then _ else _) = _
  rw [if_pos rfl]; rfl
theorem paceF_new (a c : Int) : putF "c" (.int c) (putF "a" (.int a) []) = paceF a c := by
  show (if ("a" : Str) = "c" then _ else _) = _
  rw [if_neg (by decide +kernel)]; rfl
theorem paceF_la (a c : Int) : (paceF a c).lookup ("a" : Str) = some (.int a) := by
  rw [← paceF_a a c a, lookup_putF, if_pos rfl]
theorem paceF_lc (a c : Int) : (paceF a c).lookup ("c" : Str) = some (.int c) := by
  rw [← paceF_c a c c, lookup_putF, if_pos rfl]
theorem paceF_no (a c : Int) {f : Str} (h1 : f ≠ "a") (h2 : f ≠ "c") : (paceF a c).lookup f = none := by
  rw [← paceF_new, lookup_putF, if_neg h2, lookup_putF, if_neg h1]; rfl
theorem paceF_few (a c : Int) : (paceF a c).length < 1000 := by show 2 < 1000; decide
def PaceAt (C : Addr) (H : Hp) (p : Addr) (a c : Nat) : Prop := ∃ dx, H p = some (.ins C dx (paceF a c))
structure PaceTxt (K : PySem.W.Frag) (mg : Str → Option Value) (C : Addr) : Prop extends ClsIn K mg "Pace" C where
  na : NoAttr K C "a"
  nc : NoAttr K C "c"
def writerF (d : Addr) (r h : Int) : List (Str × V) := [("done", .ref d), ("rest", .int r), ("held", .int h)]
theorem writerF_r (d : Addr) (r h v : Int) : putF "rest" (.int v) (writerF d r h) = writerF d v h := by
  show (if ("done" : Str) = "rest" then _ else _) = _
  rw [if_neg (by decide +kernel)]
  show _ :: (if ("rest" : Str) = "rest" then _ else _) = _
  rw [if_pos rfl]; rfl
theorem writerF_h (d : Addr) (r h v : Int) : putF "held" (.int v) (writerF d r h) = writerF d r v := by
  show (if ("done" : Str) = "held" then _ else _) = _
  rw [if_neg (by decide +kernel)]
  show _ :: (if ("rest" : Str) = "held" then _ else _) = _
  rw [if_neg (by decide +kernel)]
  show _ :: _ :: (if ("held" : Str) = "held" then _ else _) = _
  rw [if_pos rfl]; rfl
theorem writerF_new (d : Addr) (r h : Int) : putF "held" (.int h) (putF "rest" (.int r) (putF "done" (.ref d) [])) = writerF d r h := by
  show putF "held" (.int h) (if ("done" : Str) = "rest" then _ else _) = _
  rw [if_neg (by decide +kernel)]
  show (if ("done" : Str) = "held" then _ else _) = _
  rw [if_neg (by decide +kernel)]
  show _ :: (if ("rest" : Str) = "held" then _ else _) = _
  rw [if_neg (by decide +kernel)]; rfl
theorem writerF_ld (d : Addr) (r h : Int) : (writerF d r h).lookup ("done" : Str) = some (.ref d) := by
  rw [← writerF_new, lookup_putF, if_neg (by decide +kernel), lookup_putF, if_neg (by decide +kernel), lookup_putF, if_pos rfl]
theorem writerF_lr (d : Addr) (r h : Int) : (writerF d r h).lookup ("rest" : Str) = some (.int r) := by
  rw [← writerF_new, lookup_putF, if_neg (by decide +kernel), lookup_putF, if_pos rfl]
theorem writerF_lh (d : Addr) (r h : Int) : (writerF d r h).lookup ("held" : Str) = some (.int h) := by
  rw [← writerF_new, lookup_putF, if_pos rfl]
theorem writerF_no (d : Addr) (r h : Int) {f : Str} (h1 : f ≠ "done") (h2 : f ≠ "rest") (h3 : f ≠ "held") : (writerF d r h).lookup f = none := by
  rw [← writerF_new, lookup_putF, if_neg h3, lookup_putF, if_neg h2, lookup_putF, if_neg h1]; rfl
theorem writerF_few (d : Addr) (r h : Int) : (writerF d r h).length < 1000 := by show 3 < 1000; decide
/-- the writer at p, its bytes at d, holding what Wr says -/
def WrIs (C : Addr) (H : Hp) (p d : Addr) (done : List Nat) (rest held : Nat) : Prop := p ≠ d ∧ (∃ dx, H p = some (.ins C dx (writerF d rest held))) ∧ H d = some (.lst ((Sp21.ints done).map V.int))
def WrAt (C : Addr) (H : Hp) (p d : Addr) (B : List Nat) : Prop := ∃ done rest held, WrIs C H p d done rest held ∧ Wr done rest held B ∧ held < 8
theorem WrIs.same {C : Addr} {H H' : Hp} {p d : Addr} {done : List Nat} {rest held : Nat} (h : WrIs C H p d done rest held) (s : Same H H') : WrIs C H' p d done rest held := by
  obtain ⟨n, ⟨dx, h1⟩, h2⟩ := h
  exact ⟨n, ⟨dx, s _ _ h1⟩, s _ _ h2⟩
theorem WrAt.same {C : Addr} {H H' : Hp} {p d : Addr} {B : List Nat} (h : WrAt C H p d B) (s : Same H H') : WrAt C H' p d B := by
  obtain ⟨done, rest, held, h1, h2⟩ := h
  exact ⟨done, rest, held, h1.same s, h2⟩
structure WriterTxt (K : PySem.W.Frag) (mg : Str → Option Value) (C : Addr) : Prop extends ClsIn K mg "BitWriter" C where
  nd : NoAttr K C "done"
  nr : NoAttr K C "rest"
  nh : NoAttr K C "held"
theorem ints_snoc (l : List Nat) (x : Nat) : Sp21.ints (l ++ [x]) = Sp21.ints l ++ [(x : Int)] := by simp [Sp21.ints]
theorem or_add {x v : Nat} {m : Nat} (h : v < 2 ^ m) : Builtin.bitOr ((x : Int) * 2 ^ m) (v : Int) = ((x * 2 ^ m + v : Nat) : Int) := by
  have e : ((x : Int) * 2 ^ m) = ((x * 2 ^ m : Nat) : Int) := by rw [Int.natCast_mul, Int.natCast_pow]; rfl
  rw [e]
  rw [Bits.bitOr_pp (by omega) (by omega), Int.toNat_natCast, Int.toNat_natCast]
  congr 1
  rw [Nat.mul_comm, ← Nat.two_pow_add_eq_or_of_lt h]
theorem and_ones (x k : Nat) : Builtin.bitAnd (x : Int) ((2 ^ k - 1 : Nat) : Int) = ((x % 2 ^ k : Nat) : Int) := by
  rw [bitAnd_pp (by omega) (by omega), Int.toNat_natCast, Int.toNat_natCast]
  rw [Nat.and_two_pow_sub_one_eq_mod]
theorem ones_eq (k : Nat) : (1 : Int) * 2 ^ k - 1 = ((2 ^ k - 1 : Nat) : Int) := by
  have := Nat.two_pow_pos k
  rw [Int.one_mul, Int.natCast_sub (by omega), Int.natCast_pow]
  rfl
theorem shr_eq (x k : Nat) : (x : Int) / 2 ^ k = ((x / 2 ^ k : Nat) : Int) := by
  rw [Int.natCast_ediv, Int.natCast_pow]; rfl
def spInitPace (C : Addr) : Sp := fun vs H Q _ => ∃ (p dx : Addr), vs = [.ref p] ∧ H p = some (.ins C dx []) ∧ ∀ H', PaceAt C H' p 16 1 → (∀ b o, H b = some o → b ≠ p → H' b = some o) → Q .non H'
def spLowBits (C : Addr) : Sp := fun vs H Q _ => ∃ (p : Addr) (a c : Nat), vs = [.ref p] ∧ PaceAt C H p a c ∧ a ≤ c * 2 ^ 63 ∧ c ≤ 64 ∧ Q (.int (Sp21.parameter a c : Nat)) H
def spTake (C : Addr) : Sp := fun vs H Q _ => ∃ (p : Addr) (a c : Nat) (z : Int), vs = [.ref p, .int z] ∧ PaceAt C H p a c ∧ ∀ H', PaceAt C H' p (Sp21.next a c z).1 (Sp21.next a c z).2 → (∀ b o, H b = some o → b ≠ p → H' b = some o) → Q .non H'
def spInitWriter (C : Addr) : Sp := fun vs H Q _ => ∃ (p dx : Addr), vs = [.ref p] ∧ H p = some (.ins C dx []) ∧ ∀ d H', H d = none → WrAt C H' p d [] → (∀ b o, H b = some o → b ≠ p → H' b = some o) → Q .non H'
def spTell (C : Addr) : Sp := fun vs H Q _ => ∃ (p d : Addr) (B : List Nat) (v many : Nat), vs = [.ref p, .int v, .int many] ∧ WrAt C H p d B ∧ v < 2 ^ many ∧ many ≤ 64 ∧ B.length ≤ 100000000 ∧ ∀ H', WrAt C H' p d (B ++ Sp21.bitsOf many v) → Same2 p d H H' → Q .non H'
def spAllBytes (C : Addr) : Sp := fun vs H Q _ => ∃ (p d : Addr) (B : List Nat), vs = [.ref p] ∧ WrAt C H p d B ∧ B.length ≤ 100000000 ∧ Ans H ((Sp21.ints (Sp21.bytesOf B)).map V.int) Q
section
variable {P : Program} {w : World} {K : PySem.W.Frag} {mg : Str → Option Value} {base : Heap}
theorem scInitPace : FnScope ["self"] ["self"] (defScope sInitPace) := ⟨rfl, rfl, rfl, by decide +kernel, rfl, by decide +kernel, by decide +kernel⟩
theorem ok_initPace {C : Addr} (D : MethAt K C "__init__" "Pace.__init__" sInitPace) (T : PaceTxt K mg C) : OkM P w K mg base CX0 1 C "__init__" ["self"] (spInitPace C) := by
  refine D.ok scInitPace (fun _ _ _ _ _ _ us hl => match us, hl with | [_], _ => rfl) (fun vs H Q E h => ?_) (fun f cdv A outer s H vs Q E hr h => ?_)
  · obtain ⟨p, dx, rfl, _⟩ := h
    rfl
  · obtain ⟨p, dx, rfl, hp, k⟩ := h
    refine ⟨_, pss_cons (ps_fld (pv 0) pe_int rfl) (pss_one (ps_fld (pv 0) pe_int rfl)), ?_⟩
    refine ⟨_, rfl, p, C, dx, _, rfl, hp, T.cl, T.na, by decide, ?_⟩
    refine ⟨_, rfl, p, C, dx, _, rfl, upd_same, T.cl, T.nc, small_f (putF_le (Nat.le_refl 0)), ?_⟩
    refine k _ ⟨dx, by rw [upd_same, paceF_new]; rfl⟩ fun b o e hb => ?_
    rw [upd_ne hb, upd_ne hb]
    exact e
theorem scTake : FnScope ["self", "z"] ["self", "z"] (defScope sTake) := ⟨rfl, rfl, rfl, by decide +kernel, rfl, by decide +kernel, by decide +kernel⟩
theorem ok_take {C : Addr} (D : MethAt K C "take" "Pace.take" sTake) (T : PaceTxt K mg C) (zAbs : mg "abs" = none) : OkM P w K mg base CX0 1 C "take" ["self", "z"] (spTake C) := by
  refine D.ok scTake (fun _ _ _ _ _ _ us hl => match us, hl with | [_, _], _ => rfl) (fun vs H Q E h => ?_) (fun f cdv A outer s H vs Q E hr h => ?_)
  · obtain ⟨p, a, c, z, rfl, _⟩ := h
    rfl
  · obtain ⟨p, a, c, z, rfl, ⟨dx, hp⟩, k⟩ := h
    refine ⟨_, pss_cons (ps_fldaug (pv 0) (pe_callB call_abs (by rfl) zAbs boot_abs (pa_cons (pv 1) pa_nil)) in_add) (pss_cons (ps_fldaug (pv 0) pe_int in_add)
      (pss_one (ps_if (pt_cmpR op_eq (pe_fld (pv 0) rfl) pe_int rfl) (pss_cons (ps_fldaug (pv 0) pe_int in_fdiv) (pss_one (ps_fldaug (pv 0) pe_int in_fdiv))) pss_nil))), ?_⟩
    refine ⟨_, rfl, p, C, dx, _, _, rfl, hp, T.cl, T.na, paceF_la _ _, _, rfl, _, rfl, _, _, rfl, rfl, dx, _, hp, paceF_few _ _, ?_⟩
    rw [paceF_a]
    refine ⟨_, rfl, p, C, dx, _, _, rfl, upd_same, T.cl, T.nc, paceF_lc _ _, _, _, rfl, rfl, dx, _, upd_same, paceF_few _ _, ?_⟩
    rw [paceF_c]
    have e1 : ((a : Int) + if z < 0 then -z else z) = ((a + z.natAbs : Nat) : Int) := by split <;> omega
    rw [e1]
    have e2 : ((c : Int) + 1) = ((c + 1 : Nat) : Int) := by omega
    rw [e2]
    refine ⟨_, rfl, p, C, dx, _, _, rfl, upd_same, T.cl, T.nc, paceF_lc _ _, rfl, _, rfl, ?_⟩
    by_cases hc : c + 1 = 64
    · refine br_t (by simp; omega) ?_
      refine ⟨_, rfl, p, C, dx, _, _, rfl, upd_same, T.cl, T.na, paceF_la _ _, _, _, rfl, rfl, ⟨by decide, by decide⟩, dx, _, upd_same, paceF_few _ _, ?_⟩
      rw [paceF_a]
      refine ⟨_, rfl, p, C, dx, _, _, rfl, upd_same, T.cl, T.nc, paceF_lc _ _, _, _, rfl, rfl, ⟨by decide, by decide⟩, dx, _, upd_same, paceF_few _ _, ?_⟩
      rw [paceF_c]
      refine k _ ⟨dx, ?_⟩ fun b o e hb => ?_
      · rw [upd_same]
        have : Sp21.next a c z = ((a + z.natAbs) / 2, (c + 1) / 2) := by unfold Sp21.next; simp only [if_pos hc]
        rw [this]
        have e3 : ((a + z.natAbs : Nat) : Int) / 2 = (((a + z.natAbs) / 2 : Nat) : Int) := by omega
        have e4 : ((c + 1 : Nat) : Int) / 2 = (((c + 1) / 2 : Nat) : Int) := by omega
        rw [e3, e4]
      · rw [upd_ne hb, upd_ne hb, upd_ne hb, upd_ne hb]
        exact e
    · refine br_f (by simp; omega) ?_
      refine k _ ⟨dx, ?_⟩ fun b o e hb => ?_
      · rw [upd_same]
        have : Sp21.next a c z = (a + z.natAbs, c + 1) := by unfold Sp21.next; simp only [if_neg hc]
        rw [this]
      · rw [upd_ne hb, upd_ne hb]
        exact e
theorem scLowBits : FnScope ["self", "k"] ["self"] (defScope sLowBits) := ⟨rfl, rfl, rfl, by decide +kernel, rfl, by decide +kernel, by decide +kernel⟩
theorem ok_lowBits {C : Addr} (D : MethAt K C "low_bits" "Pace.low_bits" sLowBits) (T : PaceTxt K mg C) : OkM P w K mg base CX0 1 C "low_bits" ["self"] (spLowBits C) := by
  refine D.ok scLowBits (fun _ _ _ _ _ _ us hl => match us, hl with | [_], _ => rfl) (fun vs H Q E h => ?_) (fun f cdv A outer s H vs Q E hr h => ?_)
  · obtain ⟨p, a, c, rfl, _⟩ := h
    rfl
  · obtain ⟨p, a, c, rfl, ⟨dx, hp⟩, ha, hc, k⟩ := h
    refine ⟨_, pss_cons (ps_set (i := 1) scLowBits.nd rfl (Or.inl rfl) pe_int) (pss_cons (ps_while PassesOwn.never (pt_cmpR op_lt (pe_op op_shl (pe_fld (pv 0) rfl) (pv 1)) (pe_fld (pv 0) rfl) rfl)
      (pss_one (ps_aug (i := 1) scLowBits.nd rfl (Or.inl rfl) pe_int ip_add))) (pss_one (ps_ret (pv 1)))), ?_⟩
    refine ⟨fun m σ H2 => ∃ j : Nat, m + j = 64 ∧ j < 64 ∧ σ = [some (.ref p), some (.int j)] ∧ H2 = H ∧ ∀ i, i < j → ¬ a ≤ c * 2 ^ i, ⟨64, 0, rfl, by decide, rfl, rfl, fun i hi => absurd hi (by omega)⟩, ?_⟩
    rintro m σ H2 ⟨j, hm, hj, rfl, rfl, hn⟩
    refine ⟨_, rfl, p, C, dx, _, _, rfl, hp, T.cl, T.nc, paceF_lc _ _, _, rfl, _, _, rfl, rfl, ⟨by omega, by omega, by omega⟩, _, rfl, p, C, dx, _, _, rfl, hp, T.cl, T.na, paceF_la _ _, _, _, rfl, rfl, _, rfl, ?_⟩
    have e1 : (c : Int) * 2 ^ ((j : Int)).toNat = ((c * 2 ^ j : Nat) : Int) := by rw [Int.toNat_natCast, Int.natCast_mul, Int.natCast_pow]; rfl
    rw [e1]
    by_cases hle : a ≤ c * 2 ^ j
    · refine br_f (decide_eq_false (by omega)) ?_
      refine ⟨_, rfl, ?_⟩
      have := parameter_eq hj hle hn
      rw [this] at k
      exact k
    · refine br_t (decide_eq_true (by omega)) ?_
      refine ⟨fun σ H3 => σ = [some (.ref p), some (.int ((j + 1 : Nat) : Int))] ∧ H3 = H2, ?_, ?_⟩
      · rintro σ' H' ⟨rfl, rfl⟩
        have hj2 : j + 1 < 64 := by
          rcases Nat.lt_or_ge (j + 1) 64 with q | q
          · exact q
          · have : j = 63 := by omega
            subst this
            exact absurd ha hle
        refine ⟨m - 1, by omega, j + 1, by omega, hj2, rfl, rfl, fun i hi => ?_⟩
        rcases Nat.lt_or_ge i j with q | q
        · exact hn i q
        · have : i = j := by omega
          subst this
          exact hle
      · exact ⟨_, rfl, _, _, rfl, rfl, rfl, rfl⟩
end

theorem pow_le_of {h n : Nat} (hn : n ≤ h) : 2 ^ n ≤ 2 ^ h := Nat.pow_le_pow_right (by decide) hn
def spOnes : Sp := fun vs H Q _ => ∃ k : Nat, vs = [.int k] ∧ k ≤ 100000 ∧ Q (.int (2 ^ k - 1 : Nat)) H
def spUnsigned : Sp := fun vs H Q _ => ∃ z : Int, vs = [.int z] ∧ z.natAbs ≤ 2 ^ 60 ∧ Q (.int (Sp21.code1 z : Nat)) H
def spTellNumber (C : Addr) : Sp := fun vs H Q _ => ∃ (p d : Addr) (B : List Nat) (m k : Nat), vs = [.int m, .int k, .ref p] ∧ WrAt C H p d B ∧ m < 2 ^ 24 ∧ k < 64 ∧ B.length ≤ 90000000 ∧ ∀ H', WrAt C H' p d (B ++ Sp21.tell k m) → Same2 p d H H' → Q .non H'
def spTellBand (K : PySem.W.Frag) (C : Addr) : Sp := fun vs H Q _ => ∃ (a p d : Addr) (B : List Nat) (l : List Int), vs = [.ref a, .ref p] ∧ H a = some (.lst (l.map V.int)) ∧ a ≠ p ∧ a ≠ d ∧ WrAt C H p d B ∧ (∀ z ∈ l, -(2 ^ 23) ≤ z ∧ z < 2 ^ 23) ∧ l.length ≤ 65536 ∧ B.length + 88 * l.length ≤ 80000000 ∧ ∀ H', WrAt C H' p d (B ++ Sp21.bandBits 16 1 l) → Same2 p d H H' → Q .non H'
section
variable {P : Program} {w : World} {K : PySem.W.Frag} {mg : Str → Option Value} {base : Heap}
theorem scInitWriter : FnScope ["self"] ["self"] (defScope sInitWriter) := ⟨rfl, rfl, rfl, by decide +kernel, rfl, by decide +kernel, by decide +kernel⟩
theorem ok_initWriter {C : Addr} (D : MethAt K C "__init__" "BitWriter.__init__" sInitWriter) (T : WriterTxt K mg C) : OkM P w K mg base CX0 1 C "__init__" ["self"] (spInitWriter C) := by
  refine D.ok scInitWriter (fun _ _ _ _ _ _ us hl => match us, hl with | [_], _ => rfl) (fun vs H Q E h => ?_) (fun f cdv A outer s H vs Q E hr h => ?_)
  · obtain ⟨p, dx, rfl, _⟩ := h
    rfl
  · obtain ⟨p, dx, rfl, hp, k⟩ := h
    refine ⟨_, pss_cons (ps_fld (pv 0) (pe_lst pa_nil) rfl) (pss_cons (ps_fld (pv 0) pe_int rfl) (pss_one (ps_fld (pv 0) pe_int rfl))), ?_⟩
    refine ⟨Nat.zero_le _, fun d hd => ?_⟩
    have hpd : p ≠ d := ne_of_none hp hd
    refine ⟨_, rfl, p, C, dx, _, rfl, (same_upd hd) _ _ hp, T.cl, T.nd, by decide, ?_⟩
    refine ⟨_, rfl, p, C, dx, _, rfl, upd_same, T.cl, T.nr, small_f (putF_le (Nat.le_refl 0)), ?_⟩
    refine ⟨_, rfl, p, C, dx, _, rfl, upd_same, T.cl, T.nh, small_f (putF_le (putF_le (Nat.le_refl 0))), ?_⟩
    refine k d _ hd ⟨[], 0, 0, ⟨hpd, ⟨dx, ?_⟩, ?_⟩, Wr.empty, by decide⟩ fun b o e hb => ?_
    · rw [upd_same, writerF_new]
      rfl
    · rw [upd_ne hpd.symm, upd_ne hpd.symm, upd_ne hpd.symm, upd_same]
      rfl
    · rw [upd_ne hb, upd_ne hb, upd_ne hb]
      exact (same_upd hd) _ _ e
theorem scTell : FnScope ["self", "value", "many"] ["self", "value", "many"] (defScope sTell) := ⟨rfl, rfl, rfl, by decide +kernel, rfl, by decide +kernel, by decide +kernel⟩
theorem ok_tell {C : Addr} (D : MethAt K C "tell" "BitWriter.tell" sTell) (T : WriterTxt K mg C) : OkM P w K mg base CX0 1 C "tell" ["self", "value", "many"] (spTell C) := by
  refine D.ok scTell (fun _ _ _ _ _ _ us hl => match us, hl with | [_, _, _], _ => rfl) (fun vs H Q E h => ?_) (fun f cdv A outer s H vs Q E hr h => ?_)
  · obtain ⟨p, d, B, v, many, rfl, _⟩ := h
    rfl
  · obtain ⟨p, d, B, v, many, rfl, ⟨done, rest, held, ⟨hpd, ⟨dx, hp⟩, hd⟩, hW, h8⟩, hv, hm, hB, k⟩ := h
    refine ⟨_, pss_cons (ps_fld (pv 0) (pe_op op_or (pe_op op_shl (pe_fld (pv 0) rfl) (pv 2)) (pv 1)) rfl)
      (pss_cons (ps_fldaug (pv 0) (pv 2) in_add)
      (pss_one (ps_while PassesOwn.never (pt_cmpR op_ge (pe_fld (pv 0) rfl) pe_int rfl)
        (pss_cons (ps_fldaug (pv 0) pe_int in_sub)
        (pss_cons (ps_expr (pe_bm PySem.F.plainAttrs_list PySem.F.slot_list_append PySem.F.type_list_append mt_append (pe_fld (pv 0) rfl) (pa_cons (pe_op op_shr (pe_fld (pv 0) rfl) (pe_fld (pv 0) rfl)) pa_nil)))
        (pss_one (ps_fldaug (pv 0) (pe_op op_sub (pe_op op_shl pe_int (pe_fld (pv 0) rfl)) pe_int) in_and))))))), ?_⟩
    have hrest : rest < 256 := Nat.lt_of_lt_of_le hW.lt (by have := pow_le_of (show held ≤ 8 by omega); omega)
    refine ⟨_, rfl, p, C, dx, _, _, rfl, hp, T.cl, T.nr, writerF_lr _ _ _, _, rfl, _, _, rfl, rfl, ⟨by omega, by omega, by omega⟩, _, rfl, _, _, rfl, rfl, _, rfl, p, C, dx, _, rfl, hp, T.cl, T.nr, writerF_few _ _ _, ?_⟩
    dsimp only
    rw [Int.toNat_natCast, or_add hv, writerF_r]
    refine ⟨_, rfl, p, C, dx, _, _, rfl, upd_same, T.cl, T.nh, writerF_lh _ _ _, _, rfl, _, _, rfl, rfl, dx, _, upd_same, writerF_few _ _ _, ?_⟩
    rw [writerF_h, ← Int.natCast_add]
    refine ⟨fun m σ H2 => ∃ done rest held, σ = L2.start [Str.ofString "self", Str.ofString "value", Str.ofString "many"] [.ref p, .int v, .int many] ∧ m = held ∧ WrIs C H2 p d done rest held ∧ Wr done rest held (B ++ Sp21.bitsOf many v) ∧ held ≤ 72 ∧ Same2 p d H H2, ⟨held + many, done, _, _, rfl, rfl, ⟨hpd, ⟨dx, upd_same⟩, ?_⟩, hW.tell hv, by omega, fun b o n1 n2 e => ?_⟩, ?_⟩
    · rw [upd_ne hpd.symm, upd_ne hpd.symm]
      exact hd
    · rw [upd_ne n1, upd_ne n1]
      exact e
    · clear hW h8
      rintro held σ H2 ⟨done, rest, _, rfl, rfl, ⟨_, ⟨dx, hp⟩, hd⟩, hW, hh, s2⟩
      refine ⟨_, rfl, p, C, dx, _, _, rfl, hp, T.cl, T.nh, writerF_lh _ _ _, _, _, rfl, rfl, _, rfl, ?_⟩
      by_cases h8 : 8 ≤ held
      · refine br_t (decide_eq_true (by omega)) ⟨fun σ H3 => σ = L2.start [Str.ofString "self", Str.ofString "value", Str.ofString "many"] [.ref p, .int v, .int many] ∧ WrIs C H3 p d (done ++ [rest / 2 ^ (held - 8)]) (rest % 2 ^ (held - 8)) (held - 8) ∧ Same2 p d H H3, ?_, ?_⟩
        · rintro σ' H' ⟨rfl, hI, s3⟩
          exact ⟨held - 8, by omega, _, _, _, rfl, rfl, hI, hW.drain h8, by omega, s3⟩
        · refine ⟨_, rfl, p, C, dx, _, _, rfl, hp, T.cl, T.nh, writerF_lh _ _ _, _, _, rfl, rfl, dx, _, hp, writerF_few _ _ _, ?_⟩
          rw [writerF_h, show (held : Int) - 8 = ((held - 8 : Nat) : Int) by omega]
          have hd2 : upd H2 p (.ins C dx (writerF d rest ((held - 8 : Nat) : Int))) d = some (.lst ((Sp21.ints done).map V.int)) := by rw [upd_ne hpd.symm]; exact hd
          have hlen : done.length < 16000000 := by
            have := hW.length
            rw [List.length_append, bitsOf_length] at this
            omega
          refine ⟨_, rfl, p, C, dx, _, _, rfl, upd_same, T.cl, T.nd, writerF_ld _ _ _, .inl ⟨rfl, _, SqL.of hd2⟩, _, rfl, p, C, dx, _, _, rfl, upd_same, T.cl, T.nr, writerF_lr _ _ _, _, rfl, p, C, dx, _, _, rfl, upd_same, T.cl, T.nh, writerF_lh _ _ _, _, _, rfl, rfl, by omega, d, _, _, rfl, rfl, hd2, ?_, ?_⟩
          · rw [List.length_map]
            have : (Sp21.ints done).length = done.length := by simp [Sp21.ints]
            rw [this]
            exact Nat.lt_of_lt_of_le hlen (line_ge (Nat.le_refl _))
          · have hp3 : upd (upd H2 p (.ins C dx (writerF d rest ((held - 8 : Nat) : Int)))) d (.lst ((Sp21.ints done).map V.int ++ [V.int ((rest : Int) / 2 ^ (((held - 8 : Nat) : Int)).toNat)])) p = some (.ins C dx (writerF d rest ((held - 8 : Nat) : Int))) := by rw [upd_ne hpd, upd_same]
            refine ⟨_, rfl, p, C, dx, _, _, rfl, hp3, T.cl, T.nr, writerF_lr _ _ _, _, rfl, p, C, dx, _, _, rfl, hp3, T.cl, T.nh, writerF_lh _ _ _, _, _, rfl, rfl, ⟨by omega, by omega, by decide⟩, _, _, rfl, rfl, _, _, rfl, rfl, dx, _, hp3, writerF_few _ _ _, rfl, ⟨hpd, ⟨dx, ?_⟩, ?_⟩, fun b o n1 n2 e => ?_⟩
            · rw [upd_same, writerF_r, Int.toNat_natCast, ones_eq, and_ones]
            · rw [upd_ne hpd.symm, upd_same]
              dsimp only
              rw [Int.toNat_natCast, shr_eq, ints_snoc, List.map_append]
              rfl
            · rw [upd_ne n1, upd_ne n2, upd_ne n1]
              exact s2 _ _ n1 n2 e
      · refine br_f (decide_eq_false (by omega)) ?_
        exact k H2 ⟨done, rest, held, ⟨hpd, ⟨dx, hp⟩, hd⟩, hW, by omega⟩ s2
theorem scAllBytes : FnScope ["self"] ["self"] (defScope sAllBytes) := ⟨rfl, rfl, rfl, by decide +kernel, rfl, by decide +kernel, by decide +kernel⟩
theorem ok_allBytes {C : Addr} (D : MethAt K C "all_bytes" "BitWriter.all_bytes" sAllBytes) (T : WriterTxt K mg C) (zL : mg "list" = none) : OkM P w K mg base CX0 1 C "all_bytes" ["self"] (spAllBytes C) := by
  refine D.ok scAllBytes (fun _ _ _ _ _ _ us hl => match us, hl with | [_], _ => rfl) (fun vs H Q E h => ?_) (fun f cdv A outer s H vs Q E hr h => ?_)
  · obtain ⟨p, d, B, rfl, _⟩ := h
    rfl
  · obtain ⟨p, d, B, rfl, ⟨done, rest, held, ⟨hpd, ⟨dx, hp⟩, hd⟩, hW, h8⟩, hB, k⟩ := h
    refine ⟨_, pss_cons (ps_if (pt_cmpR op_eq (pe_fld (pv 0) rfl) pe_int rfl) (pss_one (ps_ret (pe_callTy call_list_of (by rfl) zL boot_list (pa_cons (pe_fld (pv 0) rfl) pa_nil)))) pss_nil)
      (pss_one (ps_ret (pe_op op_cat (pe_fld (pv 0) rfl) (pe_lst (pa_cons (pe_op op_shl (pe_fld (pv 0) rfl) (pe_op op_sub pe_int (pe_fld (pv 0) rfl))) pa_nil))))), ?_⟩
    have hall := hW.all h8
    have hlen := hW.length
    have hrest : rest < 256 := Nat.lt_of_lt_of_le hW.lt (by have := pow_le_of (show held ≤ 8 by omega); omega)
    refine ⟨_, rfl, p, C, dx, _, _, rfl, hp, T.cl, T.nh, writerF_lh _ _ _, rfl, _, rfl, ?_⟩
    by_cases h0 : held = 0
    · refine br_t (decide_eq_true (by rw [h0]; rfl)) ?_
      refine ⟨_, rfl, p, C, dx, _, _, rfl, hp, T.cl, T.nd, writerF_ld _ _ _, _, _, rfl, .inl (SqL.of hd), fun l hl => ?_⟩
      rw [if_pos h0, List.append_nil] at hall
      rw [hall] at k
      exact k l _ (same_upd hl) hl upd_same
    · refine br_f (decide_eq_false (by simp; omega)) ?_
      refine ⟨_, rfl, p, C, dx, _, _, rfl, hp, T.cl, T.nd, writerF_ld _ _ _, _, rfl, p, C, dx, _, _, rfl, hp, T.cl, T.nr, writerF_lr _ _ _, _, rfl, p, C, dx, _, _, rfl, hp, T.cl, T.nh, writerF_lh _ _ _, _, _, rfl, rfl, _, _, rfl, rfl, ⟨by omega, by omega, by omega⟩, (by show 1 ≤ sizeLine; decide), fun q hq => ?_⟩
      refine ⟨d, q, _, _, rfl, rfl, (same_upd hq) _ _ hd, upd_same, ?_, fun r hr2 => ?_⟩
      · rw [List.length_map]
        have : (Sp21.ints done).length = done.length := by simp [Sp21.ints]
        rw [this]
        exact line_ge (by show done.length + 1 ≤ 16000000; omega)
      · rw [if_neg h0] at hall
        rw [hall, show Sp21.ints (done ++ [rest * 2 ^ (8 - held)]) = Sp21.ints done ++ [((rest * 2 ^ (8 - held) : Nat) : Int)] from ints_snoc _ _, List.map_append] at k
        refine k r _ ((same_upd hq).new hr2) ((same_upd hq).free hr2) ?_
        rw [upd_same, show (8 : Int) - (held : Int) = ((8 - held : Nat) : Int) by omega]
        dsimp only
        rw [Int.toNat_natCast, Int.natCast_mul, Int.natCast_pow]
        rfl
theorem scOnes : FnScope ["many"] ["many"] (defScope sOnes) := ⟨rfl, rfl, rfl, by decide +kernel, rfl, by decide +kernel, by decide +kernel⟩
theorem ok_ones (D : DefAt K mg "ones" sOnes) : OkF P w K mg base CX0 1 "ones" ["many"] spOnes := by
  refine D.ok scOnes (fun _ _ _ _ _ _ us hl => match us, hl with | [_], _ => rfl) (fun vs H Q E h => ?_) (fun f cdv A outer s H vs Q E hr h => ?_)
  · obtain ⟨k, rfl, _⟩ := h
    rfl
  · obtain ⟨n, rfl, hn, k⟩ := h
    refine ⟨_, pss_one (ps_ret (pe_op op_sub (pe_op op_shl pe_int (pv 0)) pe_int)), ?_⟩
    refine ⟨_, rfl, _, _, rfl, rfl, ⟨by omega, by omega, by decide⟩, _, _, rfl, rfl, ?_⟩
    dsimp only
    rw [Int.toNat_natCast, ones_eq]
    exact k
theorem scUnsigned : FnScope ["z"] ["z"] (defScope sUnsigned) := ⟨rfl, rfl, rfl, by decide +kernel, rfl, by decide +kernel, by decide +kernel⟩
theorem ok_unsigned (D : DefAt K mg "unsigned" sUnsigned) : OkF P w K mg base CX0 1 "unsigned" ["z"] spUnsigned := by
  refine D.ok scUnsigned (fun _ _ _ _ _ _ us hl => match us, hl with | [_], _ => rfl) (fun vs H Q E h => ?_) (fun f cdv A outer s H vs Q E hr h => ?_)
  · obtain ⟨z, rfl, _⟩ := h
    rfl
  · obtain ⟨z, rfl, hz, k⟩ := h
    refine ⟨_, pss_one (ps_ret (pe_ifExp (pt_cmpR op_ge (pv 0) pe_int rfl) (pe_op op_mul pe_int (pv 0)) (pe_op op_sub (pe_op op_mul (pe_un un_neg pe_int) (pv 0)) pe_int))), ?_⟩
    refine ⟨_, rfl, _, _, rfl, rfl, _, rfl, ?_⟩
    by_cases h0 : 0 ≤ z
    · refine br_t (decide_eq_true h0) ⟨_, rfl, _, _, rfl, rfl, .inl ⟨by decide, by decide⟩, ?_⟩
      have e : (Sp21.code1 z : Nat) = 2 * z.toNat := by unfold Sp21.code1; rw [if_pos h0]
      rw [e, show ((2 * z.toNat : Nat) : Int) = 2 * z by omega] at k
      exact k
    · refine br_f (decide_eq_false h0) ⟨_, rfl, _, rfl, _, _, rfl, rfl, .inl ⟨by decide, by decide⟩, _, _, rfl, rfl, ?_⟩
      have e : (Sp21.code1 z : Nat) = (-2 * z - 1).toNat := by unfold Sp21.code1; rw [if_neg h0]
      rw [e, show (((-2 * z - 1).toNat : Nat) : Int) = -2 * z - 1 by omega] at k
      exact k
theorem scTellNumber : FnScope ["m", "k", "writer", "q"] ["m", "k", "writer"] (defScope sTellNumber) := ⟨rfl, rfl, rfl, by decide +kernel, rfl, by decide +kernel, by decide +kernel⟩
theorem WrAt.obj {C : Addr} {H : Hp} {p d : Addr} {B : List Nat} (h : WrAt C H p d B) : ∃ dx fs, H p = some (.ins C dx fs) ∧ fs.lookup ("tell" : Str) = none ∧ fs.lookup ("all_bytes" : Str) = none := by
  obtain ⟨done, rest, held, ⟨_, ⟨dx, h1⟩, _⟩, _⟩ := h
  exact ⟨dx, _, h1, writerF_no _ _ _ (by decide +kernel) (by decide +kernel) (by decide +kernel), writerF_no _ _ _ (by decide +kernel) (by decide +kernel) (by decide +kernel)⟩
theorem ok_tellNumber {C : Addr} (D : DefAt K mg "tell_number" sTellNumber) (T : WriterTxt K mg C) (cL : ∃ t, mg "LONGEST" = some (.int 24 t)) (oO : OkF P w K mg base CX0 1 "ones" ["many"] spOnes) (oT : OkM P w K mg base CX0 1 C "tell" ["self", "value", "many"] (spTell C)) :
    OkF P w K mg base CX0 2 "tell_number" ["m", "k", "writer"] (spTellNumber C) := by
  obtain ⟨tL, cL⟩ := cL
  refine D.ok scTellNumber (fun _ _ _ _ _ _ us hl => match us, hl with | [_, _, _], _ => rfl) (fun vs H Q E h => ?_) (fun f cdv A outer s H vs Q E hr h => ?_)
  · obtain ⟨p, d, B, m, k, rfl, _⟩ := h
    rfl
  · obtain ⟨p, d, B, m, n, rfl, hW, hm, hn, hB, k⟩ := h
    refine ⟨_, pss_cons (ps_set (i := 3) scTellNumber.nd rfl (Or.inl rfl) (pe_op op_shr (pv 0) (pv 1)))
      (pss_one (ps_if (pt_cmpR op_lt (pv 3) (pe_glob (v := .int 24) (by rfl) cL ⟨tL, rfl⟩) rfl)
        (pss_cons (ps_expr (pe_m' oT T.cl hr pass0 (pv 2) (pa_cons (pe_op op_shl (pe_f0 oO hr rfl (pa_cons (pv 3) pa_nil)) pe_int) (pa_cons (pe_op op_add (pv 3) pe_int) pa_nil))))
          (pss_one (ps_expr (pe_m' oT T.cl hr pass0 (pv 2) (pa_cons (pe_op op_and (pv 0) (pe_f0 oO hr rfl (pa_cons (pv 1) pa_nil))) (pa_cons (pv 1) pa_nil))))))
        (pss_cons (ps_expr (pe_m' oT T.cl hr pass0 (pv 2) (pa_cons (pe_f0 oO hr rfl (pa_cons (pe_glob (v := .int 24) (by rfl) cL ⟨tL, rfl⟩) pa_nil)) (pa_cons (pe_glob (v := .int 24) (by rfl) cL ⟨tL, rfl⟩) pa_nil))))
          (pss_one (ps_expr (pe_m' oT T.cl hr pass0 (pv 2) (pa_cons (pv 0) (pa_cons (pe_glob (v := .int 24) (by rfl) cL ⟨tL, rfl⟩) pa_nil)))))))), ?_⟩
    refine ⟨_, rfl, _, rfl, _, _, rfl, rfl, by omega, ?_⟩
    dsimp only
    rw [Int.toNat_natCast, shr_eq]
    obtain ⟨dx, fs, hp, hnt, _⟩ := hW.obj
    refine ⟨_, rfl, _, _, rfl, rfl, _, rfl, ?_⟩
    by_cases hq : m / 2 ^ n < 24
    · refine br_t (decide_eq_true (by omega)) ?_
      refine ⟨_, rfl, p, dx, fs, rfl, hp, hnt, _, rfl, m / 2 ^ n, rfl, by omega, _, _, rfl, rfl, ⟨by decide, by decide, ?_⟩, _, rfl, _, _, rfl, rfl, p, d, B, (2 ^ (m / 2 ^ n) - 1) * 2, m / 2 ^ n + 1, ?_, hW, ?_, by omega, by omega, fun H1 hW1 s1 => ?_⟩
      · have := pow_le_of (show m / 2 ^ n ≤ 24 by omega)
        omega
      · show [V.ref p, V.int (((2 ^ (m / 2 ^ n) - 1 : Nat) : Int) * 2 ^ 1), V.int ((m / 2 ^ n : Nat) + 1)] = _
        rw [show ((2 ^ (m / 2 ^ n) - 1 : Nat) : Int) * 2 ^ 1 = (((2 ^ (m / 2 ^ n) - 1) * 2 : Nat) : Int) by omega]
        rfl
      · have := Nat.two_pow_pos (m / 2 ^ n)
        rw [Nat.pow_succ]
        omega
      · obtain ⟨dx1, fs1, hp1, hnt1, _⟩ := hW1.obj
        refine ⟨_, rfl, p, dx1, fs1, rfl, hp1, hnt1, _, rfl, _, rfl, n, rfl, by omega, _, _, rfl, rfl, _, rfl, p, d, _, m % 2 ^ n, n, ?_, hW1, Nat.mod_lt _ (Nat.two_pow_pos _), by omega, ?_, fun H2 hW2 s2 => ?_⟩
        · show [V.ref p, V.int (Builtin.bitAnd (m : Int) ((2 ^ n - 1 : Nat) : Int)), V.int n] = _
          rw [and_ones]
        · rw [List.length_append, bitsOf_length]
          omega
        · refine k H2 ?_ (s1.trans s2)
          rw [tell_short hq, ← List.append_assoc]
          exact hW2
    · refine br_f (decide_eq_false (by omega)) ?_
      refine ⟨_, rfl, p, dx, fs, rfl, hp, hnt, 24, rfl, by decide, p, d, B, 2 ^ 24 - 1, 24, rfl, hW, by decide, by decide, by omega, fun H1 hW1 s1 => ?_⟩
      obtain ⟨dx1, fs1, hp1, hnt1, _⟩ := hW1.obj
      refine ⟨_, rfl, p, dx1, fs1, rfl, hp1, hnt1, _, rfl, p, d, _, m, 24, rfl, hW1, hm, by decide, ?_, fun H2 hW2 s2 => ?_⟩
      · rw [List.length_append, bitsOf_length]
        omega
      · refine k H2 ?_ (s1.trans s2)
        rw [tell_long hq, ← List.append_assoc]
        exact hW2
theorem scTellBand : FnScope ["band", "writer", "pace", "z"] ["band", "writer"] (defScope sTellBand) := ⟨rfl, rfl, rfl, by decide +kernel, rfl, by decide +kernel, by decide +kernel⟩
theorem paced_c {l : List Int} (hl : ∀ z ∈ l, z.natAbs ≤ 2 ^ 24) : Paced l.length (paceAfter 16 1 l).1 (paceAfter 16 1 l).2 := by
  have := paceAfter_paced l 0 16 1 Paced.start hl
  rw [Nat.zero_add] at this
  exact this
theorem ok_tellBand {C CP : Addr} (D : DefAt K mg "tell_band" sTellBand) (TP : PaceTxt K mg CP) (oI : OkM P w K mg base CX0 1 CP "__init__" ["self"] (spInitPace CP)) (oL : OkM P w K mg base CX0 1 CP "low_bits" ["self"] (spLowBits CP)) (oT : OkM P w K mg base CX0 1 CP "take" ["self", "z"] (spTake CP))
    (oU : OkF P w K mg base CX0 1 "unsigned" ["z"] spUnsigned) (oN : OkF P w K mg base CX0 2 "tell_number" ["m", "k", "writer"] (spTellNumber C)) : OkF P w K mg base CX0 3 "tell_band" ["band", "writer"] (spTellBand K C) := by
  refine D.ok scTellBand (fun _ _ _ _ _ _ us hl => match us, hl with | [_, _], _ => rfl) (fun vs H Q E h => ?_) (fun f cdv A outer s H vs Q E hr h => ?_)
  · obtain ⟨a, p, d, B, l, rfl, _⟩ := h
    rfl
  · obtain ⟨a, p, d, B, l, rfl, ha, nap, nad, hW, hz, hl, hB, k⟩ := h
    have hr1 : Room 1 _ := hr.mono (by decide)
    refine ⟨_, pss_cons (ps_set (i := 2) scTellBand.nd rfl (Or.inl rfl) (pe_new0 oI TP.toClsIn hr rfl))
      (pss_one (ps_for PassesOwn.never rfl (pi_list (pv 0)) (pg_name (i := 3) scTellBand.nd rfl (Or.inl rfl))
        (pss_cons (ps_expr (pe_f0 oN hr rfl (pa_cons (pe_f0 oU hr1 rfl (pa_cons (pv 3) pa_nil)) (pa_cons (pe_m0' oL TP.cl hr1 pass0 (pv 2)) (pa_cons (pv 1) pa_nil)))))
        (pss_one (ps_expr (pe_m' oT TP.cl hr1 pass0 (pv 2) (pa_cons (pv 3) pa_nil))))))), ?_⟩
    intro x dx hx hdx hne
    refine ⟨x, dx, rfl, upd_same, fun H1 hP kp => ⟨rfl, ?_⟩⟩
    have s1 : Same H H1 := Same.made hx hdx kp
    have hxp : x ≠ p := by
      obtain ⟨_, _, z, _⟩ := hW.obj
      exact (ne_of_none z hx).symm
    have hxd : x ≠ d := by
      obtain ⟨_, _, _, ⟨_, _, z⟩, _⟩ := hW
      exact (ne_of_none z hx).symm
    have hxa : a ≠ x := ne_of_none ha hx
    have hz2 : ∀ z ∈ l, z.natAbs ≤ 2 ^ 24 := fun z hm => by have := hz z hm; omega
    refine ⟨_, rfl, a, rfl, ⟨_, SqL.of (s1 _ _ ha)⟩, ?_⟩
    refine for_list (K := K) (xs := l.map V.int) (fun i σ H2 => ∃ u, σ = [some (.ref a), some (.ref p), some (.ref x), u] ∧ H2 a = some (.lst (l.map V.int)) ∧ WrAt C H2 p d (B ++ Sp21.bandBits 16 1 (l.take i)) ∧ PaceAt CP H2 x (paceAfter 16 1 (l.take i)).1 (paceAfter 16 1 (l.take i)).2 ∧ Same2 p d H H2)
      ⟨none, rfl, s1 _ _ ha, ?_, hP, .of s1⟩ (fun i σ H2 _ ⟨_, _, z, _⟩ => SqL.of z) ?_ ?_
    · show WrAt C H1 p d (B ++ [])
      rw [List.append_nil]
      exact hW.same s1
    · rintro i y σ H2 hy ⟨u, rfl, ha2, hW2, ⟨dx2, hP2⟩, s2⟩
      obtain ⟨z, ez, rfl⟩ := ints_get hy
      have hzm := List.mem_of_getElem? ez
      have hi := (List.getElem?_eq_some_iff.mp ez).1
      have hm := hz z hzm
      have etake : l.take (i + 1) = l.take i ++ [z] := by rw [List.take_succ, ez]; rfl
      have hpc := paced_c (l := l.take i) (fun z h => hz2 z (List.mem_of_mem_take h))
      have hlt : (l.take i).length = i := by rw [List.length_take]; omega
      rw [hlt] at hpc
      have hfit := hpc.fits (by omega)
      have hc64 : (paceAfter 16 1 (l.take i)).2 ≤ 64 := by have := hpc.c_lt; omega
      generalize hpa : (paceAfter 16 1 (l.take i)).1 = pa at *
      generalize hpb : (paceAfter 16 1 (l.take i)).2 = pb at *
      have hlow := parameter_lt hfit
      have hbits : (Sp21.bandBits 16 1 (l.take i)).length ≤ 88 * i := by
        have := bandBits_length (l.take i) 0 16 1 Paced.start (by rw [hlt]; omega) (fun z h => hz2 z (List.mem_of_mem_take h))
        rw [hlt] at this
        exact this
      refine ⟨_, rfl, z, rfl, by omega, _, rfl, x, dx2, _, rfl, hP2, paceF_no _ _ (by decide +kernel) (by decide +kernel), x, pa, pb, rfl, ⟨dx2, hP2⟩, hfit, hc64, _, rfl, p, d, _, Sp21.code1 z, Sp21.parameter pa pb, rfl, hW2, code1_lt hm.1 hm.2, hlow, ?_, fun H3 hW3 s3 => ?_⟩
      · rw [List.length_append]
        omega
      have hP3 := s3 _ _ hxp hxd hP2
      refine ⟨_, rfl, x, dx2, _, rfl, hP3, paceF_no _ _ (by decide +kernel) (by decide +kernel), _, rfl, x, pa, pb, z, rfl, ⟨dx2, hP3⟩, fun H4 hP4 s4 => ?_⟩
      refine ⟨_, rfl, s4 _ _ (s3 _ _ nap nad ha2) hxa, ?_, ?_, fun b o n1 n2 e => s4 _ _ (s3 _ _ n1 n2 (s2 _ _ n1 n2 e)) (ne_of_none e hx)⟩
      · rw [etake, bandBits_snoc, hpa, hpb, ← List.append_assoc]
        obtain ⟨done, rest, held, ⟨n1, ⟨dx5, w1⟩, w2⟩, w3⟩ := hW3
        exact ⟨done, rest, held, ⟨n1, ⟨dx5, s4 _ _ w1 hxp.symm⟩, s4 _ _ w2 hxd.symm⟩, w3⟩
      · rw [etake, paceAfter_snoc, hpa, hpb]
        exact hP4
    · rintro σ H2 ⟨u, rfl, ha2, hW2, _, s2⟩
      rw [List.length_map, List.take_length] at hW2
      exact k H2 hW2 s2
end

def spMixed (K : PySem.W.Frag) : Sp := fun vs H Q _ => ∃ (a : Addr) (l : List (List Int)) (n : Nat) (H0 : Hp), vs = [.ref a] ∧ Same H0 H ∧ GridF H0 H a l ∧ (∀ p ∈ l, p.length = n) ∧ l.length ≤ 1000 ∧ n ≤ 1000000 ∧ ∀ p H', Same H H' → H p = none → GridF H0 H' p (TW.mixed l) → Q (.ref p) H'
section
variable {P : Program} {w : World} {K : PySem.W.Frag} {mg : Str → Option Value} {base : Heap}
/-- numbers out of a list of triples -/
theorem lc_trips {g : TG} {te : TE} {ws : List Nat} {σ : L2.St} {H1 : Hp} {D q : Addr} {Qd : Hp → Prop} {xs ys zs : List Int} (F : Int → Int → Int → Int) (hD : H1 D = none) (L : ListOf TripAt H1 q (xs.zip (ys.zip zs))) (hz : xs.length ≤ sizeLine)
    (hs : ∀ (x y z : Int) (T : Addr) (H : Hp) (Q' : VK), H T = some (.tup [.int x, .int y, .int z]) → (∀ H4, Same H H4 → Q' (.int (F x y z)) H4) → g (.ref T) (wipe σ ws) H fun σ2 H2 => wipe σ2 ws = wipe σ ws ∧ te σ2 H2 Q')
    (hd : ∀ H, Same H1 H → RowAt H D (TW.zip3 F xs ys zs) → Qd H) :
    ∃ W : Nat → Nat → Hp → Prop, (∃ m, W 0 m (upd H1 D (.lst []))) ∧ ∀ i m H, W i m H →
      ((Itl K q).stop i H ∧ Qd H) ∨ ((Itl K q).go i H ∧ ∃ Nx : Hp → Prop, (∀ H', Nx H' → ∃ m', m' < m ∧ W (i + 1) m' H') ∧ ∀ x H', (Itl K q).yld i H x H' → g x (wipe σ ws) H' fun σ2 H2 => wipe σ2 ws = wipe σ ws ∧ tYes σ2 H2 fun b H3 =>
        if b = true then te σ2 H3 fun y H4 => ∃ acc, H4 D = some (.lst acc) ∧ acc.length < sizeLine ∧ Nx (upd H4 D (.lst (acc ++ [y]))) else Nx H3) := by
  obtain ⟨refs, g1, g2, g0, g3⟩ := id L
  refine lc_listV (TW.zip3 F xs ys zs) (by rw [List.length_map, g2]; simp [TW.zip3]) hD (SqL.of g1) (by rw [List.length_map, g2, List.length_zip]; omega) (fun j x y H2 Q' hx hy s2 hq => ?_) hd
  rw [List.getElem?_map] at hx
  unfold TW.zip3 at hy
  rw [List.getElem?_map] at hy
  obtain ⟨r, er, rfl⟩ := Option.map_eq_some_iff.mp hx
  obtain ⟨t, et, rfl⟩ := Option.map_eq_some_iff.mp hy
  exact hs t.1 t.2.1 t.2.2 r H2 Q' (s2 _ _ (g3 j r t er et)) hq
theorem mixed_small : ∀ {l : List (List Int)}, l.length < 3 → TW.mixed l = l
  | [], _ => rfl
  | [_], _ => rfl
  | [_, _], _ => rfl
  | _ :: _ :: _ :: _, h => absurd h (by simp)
theorem three_of : ∀ {l : List (List Int)}, ¬ l.length < 3 → ∃ x y z r, l = x :: y :: z :: r
  | [], h => absurd (by decide) h
  | [_], h => absurd (by show 1 < 3; decide) h
  | [_, _], h => absurd (by show 2 < 3; decide) h
  | x :: y :: z :: r, _ => ⟨x, y, z, r, rfl⟩
theorem scMixed : FnScope ["planes", "points", "means", "blues", "reds", "r", "g", "b"] ["planes"] (defScope sMixed) := ⟨rfl, rfl, rfl, by decide +kernel, rfl, by decide +kernel, by decide +kernel⟩
theorem ok_mixed (D : DefAt K mg "mixed" sMixed) (zLen : mg "len" = none) (zL : mg "list" = none) (zZ : mg "zip" = none) : OkF P w K mg base CX0 1 "mixed" ["planes"] (spMixed K) := by
  refine D.ok scMixed (fun _ _ _ _ _ _ us hl => match us, hl with | [_], _ => rfl) (fun vs H Q E h => ?_) (fun f cdv A outer s H vs Q E hr h => ?_)
  · obtain ⟨a, l, n, H0, rfl, _⟩ := h
    rfl
  · obtain ⟨a, l, n, H0, rfl, sH, G, hl, hk, hn, k⟩ := h
    refine ⟨_, pss_cons (ps_if (pt_cmpR op_lt (pe_callB call_len_seq (by rfl) zLen PySem.boot_len (pa_cons (pv 0) pa_nil)) pe_int (nomark _))
        (pss_one (ps_ret (pe_callTy call_list_of (by rfl) zL boot_list (pa_cons (pv 0) pa_nil)))) pss_nil)
      (pss_cons (ps_set (i := 1) scMixed.nd rfl (Or.inl rfl) (pe_listZip3 rfl (by rfl) zL (by rfl) zZ (pa_cons (pe_ix ix_list (pv 0) pe_int (fun _ _ => rfl)) (pa_cons (pe_ix ix_list (pv 0) pe_int (fun _ _ => rfl)) (pa_cons (pe_ix ix_list (pv 0) pe_int (fun _ _ => rfl)) pa_nil)))))
      (pss_cons (ps_setLc (i := 2) (own := [("r", 5), ("g", 6), ("b", 7)]) (g := gTup K 3 (gCons (gName 5) (gCons (gName 6) (gCons (gName 7) gNil)))) rfl scMixed.nd rfl rfl (sw_true rfl rfl rfl (by decide +kernel)) (pi_list (pv 1)) (blkOk_by (by kernel_rfl))
        (fun s H C cl fp => pg_tup rfl (pgs_cons (pg_name (i := 5) scMixed.nd rfl (Or.inl rfl)) (pgs_cons (pg_name (i := 6) scMixed.nd rfl (Or.inl rfl)) (pgs_cons (pg_name (i := 7) scMixed.nd rfl (Or.inl rfl)) pgs_nil)))) (fun s H C cl fp => pts_nil)
        (fun s H C cl fp => pe_op op_fdiv (pe_op op_add (pe_op op_add (pv 5) (pe_op op_mul pe_int (pv 6))) (pv 7)) pe_int))
      (pss_cons (ps_setLc (i := 3) (own := [("r", 5), ("g", 6), ("b", 7)]) (g := gTup K 3 (gCons (gName 5) (gCons (gName 6) (gCons (gName 7) gNil)))) rfl scMixed.nd rfl rfl (sw_true rfl rfl rfl (by decide +kernel)) (pi_list (pv 1)) (blkOk_by (by kernel_rfl))
        (fun s H C cl fp => pg_tup rfl (pgs_cons (pg_name (i := 5) scMixed.nd rfl (Or.inl rfl)) (pgs_cons (pg_name (i := 6) scMixed.nd rfl (Or.inl rfl)) (pgs_cons (pg_name (i := 7) scMixed.nd rfl (Or.inl rfl)) pgs_nil)))) (fun s H C cl fp => pts_nil)
        (fun s H C cl fp => pe_op op_sub (pv 7) (pv 6)))
      (pss_cons (ps_setLc (i := 4) (own := [("r", 5), ("g", 6), ("b", 7)]) (g := gTup K 3 (gCons (gName 5) (gCons (gName 6) (gCons (gName 7) gNil)))) rfl scMixed.nd rfl rfl (sw_true rfl rfl rfl (by decide +kernel)) (pi_list (pv 1)) (blkOk_by (by kernel_rfl))
        (fun s H C cl fp => pg_tup rfl (pgs_cons (pg_name (i := 5) scMixed.nd rfl (Or.inl rfl)) (pgs_cons (pg_name (i := 6) scMixed.nd rfl (Or.inl rfl)) (pgs_cons (pg_name (i := 7) scMixed.nd rfl (Or.inl rfl)) pgs_nil)))) (fun s H C cl fp => pts_nil)
        (fun s H C cl fp => pe_op op_sub (pv 5) (pv 6)))
      (pss_one (ps_ret (pe_op op_cat (pe_lst (pa_cons (pv 2) (pa_cons (pv 3) (pa_cons (pv 4) pa_nil)))) (pe_slice sl_list (pv 0) (po_some pe_int) po_none)))))))), ?_⟩
    obtain ⟨refs, g1, g2, g0, g3'⟩ := id G
    have g3 : ∀ (i : Nat) (r : Addr) (x : List Int), refs[i]? = some r → l[i]? = some x → RowAt H r x := fun i r x e1 e2 => (g3' i r x e1 e2).1
    refine ⟨_, rfl, a, _, rfl, .inl (SqL.of g1), _, _, rfl, rfl, _, rfl, ?_⟩
    by_cases h3 : l.length < 3
    · refine br_t (decide_eq_true (by rw [List.length_map, g2]; omega)) ?_
      refine ⟨_, rfl, a, _, rfl, .inl (SqL.of g1), fun q hq => k q _ (same_upd hq) hq ?_⟩
      rw [mixed_small h3]
      exact ⟨refs, upd_same, g2, refs_ne g2 g3 hq, fun i r x e1 e2 => rowF_same _ _ _ _ (same_upd hq) (g3' i r x e1 e2)⟩
    · refine br_f (decide_eq_false (by rw [List.length_map, g2]; omega)) ?_
      obtain ⟨x, y, z, rest, rfl⟩ := three_of h3
      have hx := hl x (by simp)
      have hy := hl y (by simp)
      have hzz := hl z (by simp)
      have hz : x.length ≤ sizeLine := line_ge (by omega)
      simp only [List.length_cons] at g2 hk
      have e0 : refs[0]? = some refs[0] := List.getElem?_eq_getElem (by omega)
      have e1 : refs[1]? = some refs[1] := List.getElem?_eq_getElem (by omega)
      have e2 : refs[2]? = some refs[2] := List.getElem?_eq_getElem (by omega)
      have rx := g3 0 _ x e0 rfl
      have ry := g3 1 _ y e1 rfl
      have rz := g3 2 _ z e2 rfl
      refine ⟨_, rfl, a, _, _, _, rfl, rfl, SqL.of g1, at_of (j := 0) rfl (by rw [List.getElem?_map, e0]; rfl), _, rfl, a, _, _, _, rfl, rfl, SqL.of g1, at_of (j := 1) rfl (by rw [List.getElem?_map, e1]; rfl), _, rfl, a, _, _, _, rfl, rfl, SqL.of g1, at_of (j := 2) rfl (by rw [List.getElem?_map, e2]; rfl),
        _, _, _, x, y, z, rfl, SqL.of rx, SqL.of ry, SqL.of rz, by omega, by omega, fun q H1 s1 n1 L1 => ?_⟩
      have qs : ∀ {H2 : Hp}, Same H1 H2 → ∃ xs, SqL K H2 q xs := fun ss => by obtain ⟨_, z, _⟩ := L1; exact ⟨_, SqL.of (ss _ _ z)⟩
      refine ⟨_, rfl, q, rfl, qs (Same.refl _), fun D1 hD1 => ?_⟩
      refine lc_trips (fun r g b => (r + 2 * g + b) / 4) hD1 L1 hz (fun x y z T H Q' hT hq => ?_) (fun H2 s2 r2 => ?_)
      · exact ⟨T, _, rfl, SqT.of hT, rfl, _, _, rfl, _, _, rfl, _, _, rfl, rfl, rfl, _, rfl, _, rfl, _, _, rfl, rfl, .inl ⟨by decide, by decide⟩, _, _, rfl, rfl, _, rfl, _, _, rfl, rfl, _, _, rfl, rfl, ⟨by decide, by decide⟩, hq _ (Same.refl _)⟩
      refine ⟨_, rfl, q, rfl, qs s2, fun D2 hD2 => ?_⟩
      refine lc_trips (fun _ g b => b - g) hD2 (L1.same tripAt_same s2) hz (fun x y z T H Q' hT hq => ?_) (fun H3 s3 r3 => ?_)
      · exact ⟨T, _, rfl, SqT.of hT, rfl, _, _, rfl, _, _, rfl, _, _, rfl, rfl, rfl, _, rfl, _, rfl, _, _, rfl, rfl, hq _ (Same.refl _)⟩
      refine ⟨_, rfl, q, rfl, qs (s2.trans s3), fun D3 hD3 => ?_⟩
      refine lc_trips (fun r g _ => r - g) hD3 (L1.same tripAt_same (s2.trans s3)) hz (fun x y z T H Q' hT hq => ?_) (fun H4 s4 r4 => ?_)
      · exact ⟨T, _, rfl, SqT.of hT, rfl, _, _, rfl, _, _, rfl, _, _, rfl, rfl, rfl, _, rfl, _, rfl, _, _, rfl, rfl, hq _ (Same.refl _)⟩
      have sA : Same H H4 := ((s1.trans s2).trans s3).trans s4
      refine ⟨_, rfl, _, rfl, _, rfl, (by show 3 ≤ sizeLine; decide), fun q2 hq2 => ?_⟩
      have t1 := same_upd (o := .lst [.ref D1, .ref D2, .ref D3]) hq2
      refine ⟨_, rfl, 3, rfl, a, _, rfl, SqL.of (t1 _ _ (sA _ _ g1)), fun q3 hq3 => ?_⟩
      rw [show (3 : Int) = ((3 : Nat) : Int) from rfl, cut_fromV, ← List.map_drop]
      have t2 := same_upd (o := .lst ((refs.drop 3).map V.ref)) hq3
      refine ⟨q2, q3, _, _, rfl, rfl, t2 _ _ upd_same, upd_same, ?_, fun p hp => ?_⟩
      · rw [List.length_map, List.length_drop]
        exact line_ge (by show 3 + (refs.length - 3) ≤ 16000000; omega)
      have t3 := same_upd (o := .lst ([V.ref D1, .ref D2, .ref D3] ++ (refs.drop 3).map V.ref)) hp
      have t123 := (t1.trans t2).trans t3
      have all := sA.trans t123
      refine k p _ all (((sA.trans t1).trans t2).free hp) ?_
      have gr : ∀ (i : Nat) (r : Addr) (xx : List Int), (refs.drop 3)[i]? = some r → rest[i]? = some xx → RowF H0 H r xx := fun i r xx h1 h2 => g3' (3 + i) r xx (by rw [List.getElem?_drop] at h1; exact h1) (by rw [Nat.add_comm]; exact h2)
      have gl : (refs.drop 3).length = rest.length := by rw [List.length_drop]; omega
      refine ListOf.cat (r1 := [D1, D2, D3]) (l1 := [TW.zip3 (fun r g b => (r + 2 * g + b) / 4) x y z, TW.zip3 (fun _ g b => b - g) x y z, TW.zip3 (fun r g _ => r - g) x y z]) rfl gl (fun r hr => ?_) (refs_ne gl (fun i r xx h1 h2 => ((sA.trans t1).trans t2) _ _ (gr i r xx h1 h2).1) hp) (fun i r xx h1 h2 => ?_) (fun i r xx h1 h2 => rowF_same _ _ _ _ all (gr i r xx h1 h2)) upd_same
      · have u1 := (t1.trans t2) _ _ ((s3.trans s4) _ _ r2)
        have u2 := (t1.trans t2) _ _ (s4 _ _ r3)
        have u3 := (t1.trans t2) _ _ r4
        have hr : r = D1 ∨ r = D2 ∨ r = D3 := by simpa using hr
        rcases hr with rfl | rfl | rfl
        · exact ne_of_none u1 hp
        · exact ne_of_none u2 hp
        · exact ne_of_none u3 hp
      · match i, h1, h2 with
        | 0, h1, h2 => cases h1; cases h2; exact ⟨t123 _ _ ((s3.trans s4) _ _ r2), (sH.trans s1).free hD1⟩
        | 1, h1, h2 => cases h1; cases h2; exact ⟨t123 _ _ (s4 _ _ r3), (sH.trans (s1.trans s2)).free hD2⟩
        | 2, h1, h2 => cases h1; cases h2; exact ⟨t123 _ _ r4, (sH.trans ((s1.trans s2).trans s3)).free hD3⟩
end

def spHeadBytes (C : Addr) : Sp := fun vs H Q _ => ∃ (p : Addr) (f : Sp21.Head), vs = [.ref p] ∧ HeadAt C H p f ∧ HeadOk f ∧ Ans H (B (Sp21.front f)) Q
def spLowest : Sp := fun vs H Q _ => ∃ n many : Nat, vs = [.int n, .int many] ∧ many ≤ 100 ∧ Ans H (B (TW.lowest n many)) Q
def spCrcTable : Sp := fun vs H Q _ => vs = [] ∧ Ans H (B TW.crcTable) Q
def spCrcOf (K : PySem.W.Frag) : Sp := fun vs H Q _ => ∃ (a : Addr) (b : List Nat), vs = [.ref a] ∧ SqL K H a (B b) ∧ Bytes b ∧ b.length ≤ 15700000 ∧ ∀ H', Same H H' → Q (.int (TW.crcOf b : Nat)) H'
def spFramed (C : Addr) : Sp := fun vs H Q _ => ∃ (p a : Addr) (f : Sp21.Head) (l : List (List Nat)), vs = [.ref p, .ref a] ∧ HeadAt C H p f ∧ HeadOk f ∧ ListOf CodeAt H a l ∧ (∀ t ∈ l, Bytes t) ∧ l.length ≤ 1000 ∧ l.flatten.length ≤ 15500000 ∧ Ans H (B (TW.framed f l)) Q
theorem B_app (a b : List Nat) : B (a ++ b) = B a ++ B b := by simp [B, Sp21.ints]
section
variable {P : Program} {w : World} {K : PySem.W.Frag} {mg : Str → Option Value} {base : Heap}
theorem scHeadBytes : FnScope ["self"] ["self"] (defScope sHeadBytes) := ⟨rfl, rfl, rfl, by decide +kernel, rfl, by decide +kernel, by decide +kernel⟩
theorem ok_headBytes {C ta : Addr} (D : MethAt K C "head_bytes" "Head.head_bytes" sHeadBytes) (T : HeadTxt K mg C) (zL : mg "list" = none) (cF : mg "FIRST_BYTES" = some (.ref ta)) (hF : ∀ H, SqT K H ta ([84, 73, 76, 83].map V.int)) : OkM P w K mg base CX0 1 C "head_bytes" ["self"] (spHeadBytes C) := by
  refine D.ok scHeadBytes (fun _ _ _ _ _ _ us hl => match us, hl with | [_], _ => rfl) (fun vs H Q E h => ?_) (fun f cdv A outer s H vs Q E hr h => ?_)
  · obtain ⟨p, f, rfl, _⟩ := h
    rfl
  · obtain ⟨p, f, rfl, ⟨dx, hp⟩, hf, k⟩ := h
    refine ⟨_, pss_one (ps_ret (pe_op op_cat (pe_callTy call_list_of (by rfl) zL boot_list (pa_cons (pe_glob (v := .ref ta) (by rfl) cF rfl) pa_nil))
      (pe_lst (pa_cons (pe_fld (pv 0) rfl) (pa_cons (pe_op op_sub (pe_fld (pv 0) rfl) pe_int) (pa_cons (pe_op op_sub (pe_fld (pv 0) rfl) pe_int) (pa_cons (pe_fld (pv 0) rfl) (pa_cons (pe_fld (pv 0) rfl) pa_nil)))))))), ?_⟩
    refine ⟨ta, _, rfl, .inr (hF H), fun q hq => ?_⟩
    have hp1 := (same_upd (o := .lst ([84, 73, 76, 83].map V.int)) hq) _ _ hp
    refine ⟨_, rfl, p, C, dx, _, _, rfl, hp1, T.cl, T.nk, headF_k .., _, rfl, p, C, dx, _, _, rfl, hp1, T.cl, T.nw, headF_w .., _, _, rfl, rfl, _, rfl, p, C, dx, _, _, rfl, hp1, T.cl, T.nh, headF_h .., _, _, rfl, rfl, _, rfl, p, C, dx, _, _, rfl, hp1, T.cl, T.ne, headF_e .., _, rfl, p, C, dx, _, _, rfl, hp1, T.cl, T.nv, headF_v .., (by show 5 ≤ sizeLine; decide), fun q2 hq2 => ?_⟩
    refine ⟨q, q2, _, _, rfl, rfl, (same_upd hq2) _ _ upd_same, upd_same, (by show 9 ≤ sizeLine; decide), fun r hr2 => k r _ (((same_upd hq).new hq2).new hr2) (((same_upd hq).new hq2).free hr2) ?_⟩
    rw [upd_same]
    have hw := hf.wide
    have hh := hf.high
    have e1 : (f.wide : Int) - 1 = ((f.wide - 1 : Nat) : Int) := by omega
    have e2 : (f.high : Int) - 1 = ((f.high - 1 : Nat) : Int) := by omega
    dsimp only
    rw [e1, e2]
    rfl
theorem scLowest : FnScope ["number", "many", "i"] ["number", "many"] (defScope sLowest) := ⟨rfl, rfl, rfl, by decide +kernel, rfl, by decide +kernel, by decide +kernel⟩
theorem ok_lowest (D : DefAt K mg "lowest_first" sLowest) (zR : mg "range" = none) : OkF P w K mg base CX0 1 "lowest_first" ["number", "many"] spLowest := by
  refine D.ok scLowest (fun _ _ _ _ _ _ us hl => match us, hl with | [_, _], _ => rfl) (fun vs H Q E h => ?_) (fun f cdv A outer s H vs Q E hr h => ?_)
  · obtain ⟨n, many, rfl, _⟩ := h
    rfl
  · obtain ⟨n, many, rfl, hm, k⟩ := h
    refine ⟨_, pss_one (ps_ret (pe_lc (own := [("i", 2)]) (g := gName 2) (te := tOp (rI0 fun i j => .int (Builtin.bitAnd i j)) (tOp (rI (fun _ j => 0 ≤ j) fun i j => .int (i / 2 ^ j.toNat)) (tVar 0) (tOp (rI CMul fun i j => .int (i * j)) (tC (.int 8)) (tVar 2))) (tC (.int 255))) rfl scLowest.nd (pi_range1 rfl zR (pa_cons (pv 1) pa_nil)) (blkOk_by (by kernel_rfl))
      (fun s H C cl fp => pg_name (i := 2) scLowest.nd rfl (Or.inl rfl)) (fun s H C cl fp => pts_nil) (fun s H C cl fp => pe_op op_and (pe_op op_shr (pv 0) (pe_op op_mul pe_int (pv 2))) pe_int))), ?_⟩
    refine ⟨_, rfl, ((many : Nat) : Int), rfl, by omega, by omega, fun D1 hD1 => ?_⟩
    rw [Int.toNat_natCast]
    have eL : B (TW.lowest n many) = ((List.range many).map fun i => ((n / 256 ^ i % 256 : Nat) : Int)).map V.int := by simp [B, Sp21.ints, TW.lowest]
    rw [eL] at k
    refine lc_rangeI (fun i => ((n / 256 ^ i % 256 : Nat) : Int)) hD1 (line_ge (by omega)) (fun i H2 Q' hi s2 hq => ?_) (fun H2 s2 g2 => k D1 H2 s2 hD1 g2)
    refine ⟨rfl, _, rfl, _, rfl, _, _, rfl, rfl, .inl ⟨by decide, by decide⟩, _, _, rfl, rfl, by omega, _, _, rfl, rfl, ?_⟩
    dsimp only
    rw [show (8 : Int) * (0 + (i : Int)) = ((8 * i : Nat) : Int) by omega, Int.toNat_natCast, shr_eq, bitAnd_m8, Nat.pow_mul]
    exact hq _ (Same.refl _)
theorem scCrcTable : FnScope ["table", "byte", "c", "step"] [] (defScope sCrcTable) := ⟨rfl, rfl, rfl, by decide +kernel, rfl, by decide +kernel, by decide +kernel⟩
theorem sumBit_int (c : Nat) : (if ((Builtin.bitAnd (c : Int) 1 != 0) = true) then Builtin.bitXor ((c : Int) / 2 ^ 1) 3988292384 else (c : Int) / 2 ^ 1) = ((Sp21.sumBit c : Nat) : Int) := by
  have e0 : (c : Int) / 2 ^ 1 = ((c / 2 : Nat) : Int) := by omega
  rw [bitAnd_m1, e0]
  unfold Sp21.sumBit
  by_cases h : c % 2 = 1
  · rw [if_pos h, if_pos (by rw [bne_iff_ne]; omega), Bits.bitXor_pp (by omega) (by decide), Int.toNat_natCast]
    rfl
  · rw [if_neg h, if_neg (by rw [bne_iff_ne]; omega)]
def stepsOf (n c : Nat) : Nat := (List.range n).foldl (fun c _ => Sp21.sumBit c) c
theorem stepsOf_succ (n c : Nat) : stepsOf (n + 1) c = Sp21.sumBit (stepsOf n c) := by
  unfold stepsOf
  rw [List.range_succ, List.foldl_append]
  rfl
theorem ok_crcTable (D : DefAt K mg "crc_table" sCrcTable) (zR : mg "range" = none) (cW : ∃ t, mg "CRC_WORD" = some (.int 3988292384 t)) : OkF P w K mg base CX0 1 "crc_table" [] spCrcTable := by
  obtain ⟨tW, cW⟩ := cW
  refine D.ok scCrcTable (fun _ _ _ _ _ _ us hl => match us, hl with | [], _ => rfl) (fun vs H Q E h => ?_) (fun f cdv A outer s H vs Q E hr h => ?_)
  · obtain ⟨rfl, _⟩ := h
    rfl
  · obtain ⟨rfl, k⟩ := h
    refine ⟨_, pss_cons (ps_set (i := 0) scCrcTable.nd rfl (Or.inl rfl) (pe_lst pa_nil))
      (pss_cons (ps_for PassesOwn.never rfl (pi_range1 rfl zR (pa_cons pe_int pa_nil)) (pg_name (i := 1) scCrcTable.nd rfl (Or.inl rfl))
        (pss_cons (ps_set (i := 2) scCrcTable.nd rfl (Or.inl rfl) (pv 1))
        (pss_cons (ps_for PassesOwn.never rfl (pi_range1 rfl zR (pa_cons pe_int pa_nil)) (pg_name (i := 3) scCrcTable.nd rfl (Or.inl rfl))
          (pss_one (ps_set (i := 2) scCrcTable.nd rfl (Or.inl rfl) (pe_ifExp (pt_truth (pe_op op_and (pv 2) pe_int) (fun _ => rfl)) (pe_op op_xor (pe_op op_shr (pv 2) pe_int) (pe_glob (v := .int 3988292384) (by rfl) cW ⟨tW, rfl⟩)) (pe_op op_shr (pv 2) pe_int)))))
        (pss_one (ps_expr (pe_bm PySem.F.plainAttrs_list PySem.F.slot_list_append PySem.F.type_list_append mt_append (pv 0) (pa_cons (pv 2) pa_nil)))))))
      (pss_one (ps_ret (pv 0)))), ?_⟩
    refine ⟨Nat.zero_le _, fun a ha => ?_⟩
    refine ⟨256, rfl, by decide, by decide, ?_⟩
    refine for_range (fun i σ H2 => ∃ u v x, σ = [some (.ref a), u, v, x] ∧ Same H H2 ∧ H2 a = some (.lst (B ((List.range i).map TW.step8)))) ⟨none, none, none, rfl, same_upd ha, upd_same⟩ ?_ ?_
    · rintro i σ H2 hi ⟨u, v, x, rfl, s2, g2⟩
      rw [Int.zero_add]
      refine ⟨_, rfl, 8, rfl, by decide, by decide, ?_⟩
      refine for_range (fun j σ H3 => ∃ x, σ = [some (.ref a), some (.int (i : Int)), some (.int ((stepsOf j i : Nat) : Int)), x] ∧ H3 = H2) ⟨_, rfl, rfl⟩ ?_ ?_
      · rintro j σ H3 hj ⟨x, rfl, rfl⟩
        have sb := sumBit_int (stepsOf j i)
        rw [← stepsOf_succ] at sb
        refine ⟨_, rfl, _, _, rfl, rfl, _, rfl, ?_⟩
        cases hb : (Builtin.bitAnd ((stepsOf j i : Nat) : Int) 1 != 0) with
        | true =>
          rw [if_pos hb] at sb
          refine br_t rfl ⟨_, rfl, _, _, rfl, rfl, (show (0 : Int) ≤ 1 by decide), _, _, rfl, rfl, some (.int (0 + (j : Int))), ?_, rfl⟩
          show [_, _, some (V.int (Builtin.bitXor (((stepsOf j i : Nat) : Int) / 2 ^ 1) 3988292384)), _] = _
          rw [sb]
        | false =>
          rw [if_neg (by rw [hb]; decide)] at sb
          refine br_f rfl ⟨_, rfl, _, _, rfl, rfl, (show (0 : Int) ≤ 1 by decide), some (.int (0 + (j : Int))), ?_, rfl⟩
          show [_, _, some (V.int (((stepsOf j i : Nat) : Int) / 2 ^ 1)), _] = _
          rw [sb]
      · rintro σ H3 ⟨x, rfl, rfl⟩
        refine ⟨_, rfl, .inl ⟨rfl, _, SqL.of g2⟩, _, rfl, a, _, _, rfl, rfl, g2, ?_, _, _, _, rfl, fun b o e => ?_, ?_⟩
        · rw [B_len, List.length_map, List.length_range]
          have : i < 256 := hi
          exact Nat.lt_of_lt_of_le this (line_ge (by decide))
        · rw [upd_ne (ne_of_none e ha)]
          exact s2 _ _ e
        · rw [upd_same, List.range_succ, List.map_append, B_app]
          rfl
    · rintro σ H2 ⟨u, v, x, rfl, s2, g2⟩
      exact ⟨_, rfl, k a H2 s2 ha g2⟩
theorem pe_f00 {X : Cx} {k : Nat} {ps : List Str} {sp : Sp} {x : Str} {p pos : Pos} (h : OkF X.prog X.w X.K X.mg X.base CX0 k x ps sp) (hr : Room k X.A) (hg : Gl X x) (hdb : (x == ("__debug__" : Str)) = false := by decide) : PE X (.Call (.Name x p) [] [] pos) (tCall sp [] E0 tNil) := by
  obtain ⟨f, fd, hm, kp, b, G⟩ := h
  exact pe_call0 G hr hg hm kp b .nil pass0 hdb
theorem scCrcOf : FnScope ["some_bytes", "table", "c", "byte"] ["some_bytes"] (defScope sCrcOf) := ⟨rfl, rfl, rfl, by decide +kernel, rfl, by decide +kernel, by decide +kernel⟩
theorem crcNext_int (c b : Nat) : Builtin.bitXor ((c : Int) / 2 ^ 8) ((TW.crcTable.getD ((c ^^^ b) &&& 255) 0 : Nat) : Int) = ((TW.crcNext c b : Nat) : Int) := by
  have e0 : (c : Int) / 2 ^ 8 = ((c / 256 : Nat) : Int) := by omega
  rw [e0, Bits.bitXor_pp (by omega) (by omega), Int.toNat_natCast, Int.toNat_natCast]
  unfold TW.crcNext
  rw [Nat.shiftRight_eq_div_pow]
theorem crcIx_int (c b : Nat) : Builtin.bitAnd (Builtin.bitXor (c : Int) (b : Int)) 255 = ((((c ^^^ b) &&& 255 : Nat)) : Int) := by
  rw [Bits.bitXor_pp (by omega) (by omega), Int.toNat_natCast, Int.toNat_natCast, show (255 : Int) = ((2 ^ 8 - 1 : Nat) : Int) from rfl, and_ones, show (255 : Nat) = 2 ^ 8 - 1 from rfl, Nat.and_two_pow_sub_one_eq_mod]
theorem crcTable_len : TW.crcTable.length = 256 := by unfold TW.crcTable; rw [List.length_map, List.length_range]
theorem ok_crcOf (D : DefAt K mg "crc_of" sCrcOf) (cA : ∃ t, mg "ALL_ONES" = some (.int 4294967295 t)) (oT : OkF P w K mg base CX0 1 "crc_table" [] spCrcTable) : OkF P w K mg base CX0 2 "crc_of" ["some_bytes"] (spCrcOf K) := by
  obtain ⟨tA, cA⟩ := cA
  refine D.ok scCrcOf (fun _ _ _ _ _ _ us hl => match us, hl with | [_], _ => rfl) (fun vs H Q E h => ?_) (fun f cdv A outer s H vs Q E hr h => ?_)
  · obtain ⟨a, b, rfl, _⟩ := h
    rfl
  · obtain ⟨a, b, rfl, hS, hb, hl, k⟩ := h
    refine ⟨_, pss_cons (ps_set (i := 1) scCrcOf.nd rfl (Or.inl rfl) (pe_f00 oT hr rfl))
      (pss_cons (ps_set (i := 2) scCrcOf.nd rfl (Or.inl rfl) (pe_glob (v := .int 4294967295) (by rfl) cA ⟨tA, rfl⟩))
      (pss_cons (ps_for PassesOwn.never rfl (pi_list (pv 0)) (pg_name (i := 3) scCrcOf.nd rfl (Or.inl rfl))
        (pss_one (ps_set (i := 2) scCrcOf.nd rfl (Or.inl rfl) (pe_op op_xor (pe_op op_shr (pv 2) pe_int) (pe_ix ix_list (pv 1) (pe_op op_and (pe_op op_xor (pv 2) (pv 3)) pe_int) (fun _ _ => rfl))))))
      (pss_one (ps_ret (pe_op op_xor (pv 2) (pe_glob (v := .int 4294967295) (by rfl) cA ⟨tA, rfl⟩)))))), ?_⟩
    refine ⟨rfl, fun t H1 s1 n1 g1 => ?_⟩
    refine ⟨_, rfl, a, rfl, ⟨_, s1.seq hS⟩, ?_⟩
    refine for_list (K := K) (xs := B b) (fun i σ H2 => ∃ u, σ = [some (.ref a), some (.ref t), some (.int (((b.take i).foldl TW.crcNext (2 ^ 32 - 1) : Nat) : Int)), u] ∧ H2 = H1) ⟨none, rfl, rfl⟩ (fun i σ H2 _ ⟨_, _, e⟩ => by rw [e]; exact s1.seq hS) ?_ ?_
    · rintro i x σ H2 hx ⟨u, rfl, rfl⟩
      have hi : i < b.length := by have := (List.getElem?_eq_some_iff.mp hx).1; rw [B_len] at this; exact this
      rw [B_get hi] at hx
      cases hx
      have et : b.take (i + 1) = b.take i ++ [b.getD i 0] := by
        rw [List.take_succ, List.getElem?_eq_getElem hi]
        simp [List.getD_eq_getElem?_getD, hi]
      generalize hc : (b.take i).foldl TW.crcNext (2 ^ 32 - 1) = c
      have hix : ((c ^^^ b.getD i 0) &&& 255) < 256 := by rw [show (255 : Nat) = 2 ^ 8 - 1 from rfl, Nat.and_two_pow_sub_one_eq_mod]; exact Nat.mod_lt _ (by decide)
      refine ⟨_, rfl, _, _, rfl, rfl, (show (0 : Int) ≤ 8 by decide), _, rfl, _, rfl, _, rfl, _, _, rfl, rfl, _, _, rfl, rfl, t, _, _, _, rfl, rfl, SqL.of g1, at_of (j := (c ^^^ b.getD i 0) &&& 255) (crcIx_int c (b.getD i 0)) (B_get (by rw [crcTable_len]; exact hix)), _, _, rfl, rfl, some (.int ((b.getD i 0 : Nat) : Int)), ?_, rfl⟩
      rw [et, List.foldl_append, hc]
      show [_, _, some (V.int (Builtin.bitXor ((c : Int) / 2 ^ 8) _)), _] = [_, _, some (V.int ((TW.crcNext c (b.getD i 0) : Nat) : Int)), _]
      rw [crcNext_int]
    · rintro σ H2 ⟨u, rfl, rfl⟩
      rw [B_len, List.take_length]
      refine ⟨_, rfl, _, _, rfl, rfl, ?_⟩
      dsimp only
      have := k H2 s1
      unfold TW.crcOf at this
      rw [Bits.bitXor_pp (by omega) (by decide), Int.toNat_natCast]
      exact this
theorem scFramed : FnScope ["head", "tile_codes", "coded", "one"] ["head", "tile_codes"] (defScope sFramed) := ⟨rfl, rfl, rfl, by decide +kernel, rfl, by decide +kernel, by decide +kernel⟩
theorem lowest_len (n m : Nat) : (TW.lowest n m).length = m := by simp [TW.lowest]
theorem flatten_take_leN (g : List (List Nat)) (i : Nat) : (g.take i).flatten.length ≤ g.flatten.length := by
  conv => rhs; rw [← List.take_append_drop i g]
  rw [List.flatten_append, List.length_append]
  omega
theorem take_snocN {l : List (List Nat)} {i : Nat} {x : List Nat} (h : l[i]? = some x) : l.take (i + 1) = l.take i ++ [x] := by
  rw [List.take_succ, h]; rfl
theorem ok_framed {C : Addr} (D : DefAt K mg "framed" sFramed) (zLen : mg "len" = none) (cC : ∃ t, mg "CRC_LENGTH" = some (.int 4 t)) (T : HeadTxt K mg C) (oH : OkM P w K mg base CX0 1 C "head_bytes" ["self"] (spHeadBytes C)) (oL : OkF P w K mg base CX0 1 "lowest_first" ["number", "many"] spLowest) (oC : OkF P w K mg base CX0 2 "crc_of" ["some_bytes"] (spCrcOf K)) :
    OkF P w K mg base CX0 3 "framed" ["head", "tile_codes"] (spFramed C) := by
  obtain ⟨tC, cC⟩ := cC
  refine D.ok scFramed (fun _ _ _ _ _ _ us hl => match us, hl with | [_, _], _ => rfl) (fun vs H Q E h => ?_) (fun f cdv A outer s H vs Q E hr h => ?_)
  · obtain ⟨p, a, f, l, rfl, _⟩ := h
    rfl
  · obtain ⟨p, a, f, l, rfl, ⟨dx, hp⟩, hf, L, hB, hl, hfl, k⟩ := h
    have hr1 : Room 1 _ := hr.mono (by decide)
    refine ⟨_, pss_cons (ps_set (i := 2) scFramed.nd rfl (Or.inl rfl) (pe_m0' oH T.cl hr1 pass0 (pv 0)))
      (pss_cons (ps_for PassesOwn.never rfl (pi_list (pv 1)) (pg_name (i := 3) scFramed.nd rfl (Or.inl rfl))
        (pss_one (ps_expr (pe_bm PySem.F.plainAttrs_list PySem.F.slot_list_extend PySem.F.type_list_extend mt_extend (pv 2) (pa_cons (pe_f0 oL hr1 rfl (pa_cons (pe_callB call_len_seq (by rfl) zLen PySem.boot_len (pa_cons (pv 3) pa_nil)) (pa_cons pe_int pa_nil))) pa_nil)))))
      (pss_cons (ps_for PassesOwn.never rfl (pi_list (pv 1)) (pg_name (i := 3) scFramed.nd rfl (Or.inl rfl))
        (pss_one (ps_expr (pe_bm PySem.F.plainAttrs_list PySem.F.slot_list_extend PySem.F.type_list_extend mt_extend (pv 2) (pa_cons (pv 3) pa_nil)))))
      (pss_one (ps_ret (pe_op op_cat (pv 2) (pe_f0 oL hr1 rfl (pa_cons (pe_f0 oC hr rfl (pa_cons (pv 2) pa_nil)) (pa_cons (pe_glob (v := .int 4) (by rfl) cC ⟨tC, rfl⟩) pa_nil)))))))), ?_⟩
    obtain ⟨refs, g1, g2, g0, g3⟩ := id L
    refine ⟨_, rfl, p, dx, _, rfl, hp, headF_no _ _ _ _ _ (by decide +kernel) (by decide +kernel) (by decide +kernel) (by decide +kernel) (by decide +kernel), p, f, rfl, ⟨dx, hp⟩, hf, fun c H1 s1 n1 q1 => ?_⟩
    have frl : (Sp21.front f).length = 9 := rfl
    have l3 : ∀ i, ((l.take i).flatMap fun t => TW.lowest t.length 3).length ≤ 3000 := fun i => by
      rw [flatMap_length_const (n := 3) (fun t _ => lowest_len _ _), List.length_take]
      omega
    refine ⟨_, rfl, a, rfl, ⟨_, SqL.of (s1 _ _ g1)⟩, ?_⟩
    refine for_list (K := K) (xs := refs.map V.ref) (fun i σ H2 => ∃ u, σ = [some (.ref p), some (.ref a), some (.ref c), u] ∧ Same H H2 ∧ H2 c = some (.lst (B (Sp21.front f ++ (l.take i).flatMap fun t => TW.lowest t.length 3)))) ⟨none, rfl, s1, by simpa using q1⟩ (fun i σ H2 _ ⟨_, _, s2, _⟩ => SqL.of (s2 _ _ g1)) ?_ ?_
    · rintro i x σ H2 hx ⟨u, rfl, s2, q2⟩
      rw [List.getElem?_map] at hx
      obtain ⟨r, er, rfl⟩ := Option.map_eq_some_iff.mp hx
      have hi : i < l.length := by have := (List.getElem?_eq_some_iff.mp er).1; omega
      have el : l[i]? = some l[i] := List.getElem?_eq_getElem hi
      have hr2 := s2 _ _ (g3 i r _ er el)
      refine ⟨_, rfl, .inl ⟨rfl, _, SqL.of q2⟩, _, rfl, r, _, rfl, .inl (SqL.of hr2), l[i].length, 3, by rw [B_len]; rfl, by decide, fun z H3 s3 n3 q3 => ?_⟩
      have ll := l3 i
      refine ⟨c, z, _, _, rfl, rfl, s3 _ _ q2, q3, ?_, _, rfl, fun b o e => ?_, ?_⟩
      · rw [B_len, B_len, List.length_append, lowest_len, frl]
        exact line_ge (by omega)
      · rw [upd_ne (ne_of_none e n1)]
        exact s3 _ _ (s2 _ _ e)
      · rw [upd_same, take_snocN el, List.flatMap_append, ← List.append_assoc, B_app (_ ++ _)]
        simp
    · rintro σ H2 ⟨u, rfl, s2, q2⟩
      rw [List.length_map, g2, List.take_length] at q2
      have l3' := l3 l.length
      rw [List.take_length] at l3'
      refine ⟨_, rfl, a, rfl, ⟨_, SqL.of (s2 _ _ g1)⟩, ?_⟩
      refine for_list (K := K) (xs := refs.map V.ref) (fun i σ H3 => ∃ u, σ = [some (.ref p), some (.ref a), some (.ref c), u] ∧ Same H H3 ∧ H3 c = some (.lst (B (Sp21.front f ++ (l.flatMap fun t => TW.lowest t.length 3) ++ (l.take i).flatten)))) ⟨u, rfl, s2, by simpa using q2⟩ (fun i σ H2 _ ⟨_, _, s2, _⟩ => SqL.of (s2 _ _ g1)) ?_ ?_
      · rintro i x σ H3 hx ⟨u, rfl, s3, q3⟩
        rw [List.getElem?_map] at hx
        obtain ⟨r, er, rfl⟩ := Option.map_eq_some_iff.mp hx
        have hi : i < l.length := by have := (List.getElem?_eq_some_iff.mp er).1; omega
        have el : l[i]? = some l[i] := List.getElem?_eq_getElem hi
        have hr2 := s3 _ _ (g3 i r _ er el)
        have b1 := flatten_take_leN l (i + 1)
        rw [take_snocN el, List.flatten_append, List.length_append] at b1
        simp only [List.flatten_cons, List.flatten_nil, List.append_nil] at b1
        refine ⟨_, rfl, .inl ⟨rfl, _, SqL.of q3⟩, _, rfl, c, r, _, _, rfl, rfl, q3, hr2, ?_, _, rfl, fun b o e => ?_, ?_⟩
        · rw [B_len, B_len, List.length_append, List.length_append, frl]
          exact line_ge (by omega)
        · rw [upd_ne (ne_of_none e n1)]
          exact s3 _ _ e
        · rw [upd_same, take_snocN el, List.flatten_append]
          simp only [B_app, List.append_assoc, List.flatten_cons, List.flatten_nil, List.append_nil]
      · rintro σ H3 ⟨u, rfl, s3, q3⟩
        rw [List.length_map, g2, List.take_length] at q3
        generalize hb : Sp21.front f ++ (l.flatMap fun t => TW.lowest t.length 3) ++ l.flatten = b at q3
        have hbl : b.length ≤ 15600000 := by
          rw [← hb, List.length_append, List.length_append, frl]
          omega
        have hbB : Bytes b := by
          rw [← hb]
          intro x hx
          rcases List.mem_append.mp hx with hx | hx
          · rcases List.mem_append.mp hx with hx | hx
            · exact front_byte hf x hx
            · obtain ⟨t, _, ht⟩ := List.mem_flatMap.mp hx
              exact lowest_byte ht
          · obtain ⟨t, ht, hx⟩ := List.mem_flatten.mp hx
            exact hB t ht x hx
        refine ⟨_, rfl, _, rfl, c, b, rfl, SqL.of q3, hbB, by omega, fun H4 s4 => ?_⟩
        refine ⟨TW.crcOf b, 4, rfl, by decide, fun z H5 s5 n5 q5 => ?_⟩
        have s45 := s4.trans s5
        refine ⟨c, z, _, _, rfl, rfl, s45 _ _ q3, q5, ?_, fun r hr2 => k r _ ((s3.trans s45).new hr2) ((s3.trans s45).free hr2) ?_⟩
        · rw [B_len, B_len, lowest_len]
          exact line_ge (by omega)
        · rw [upd_same, ← B_app]
          unfold TW.framed
          rw [hb]
end

def spPlanesOf (K : PySem.W.Frag) : Sp := fun vs H Q _ => ∃ (a : Addr) (l : List Int) (kinds n : Nat), vs = [.ref a, .int kinds] ∧ SqL K H a (l.map V.int) ∧ 1 ≤ kinds ∧ kinds ≤ 4 ∧ l.length = kinds * n ∧ 0 < n ∧ n ≤ 1000000 ∧ AnsF H (TW.planes kinds n l) Q
def plainOf (l : List Int) : List Nat := 0 :: l.flatMap fun (z : Int) => Sp21.two z.toNat
def NumOk (l : List Int) : Prop := ∀ z ∈ l, 0 ≤ z ∧ z ≤ 65535
def spPlain (K : PySem.W.Frag) : Sp := fun vs H Q _ => ∃ (a : Addr) (l : List Int), vs = [.ref a] ∧ SqL K H a (l.map V.int) ∧ NumOk l ∧ l.length ≤ 1000000 ∧ Ans H (B (plainOf l)) Q
structure TileIn (l : List Int) (kinds w h levels : Nat) : Prop where
  hk : 1 ≤ kinds ∧ kinds ≤ 4
  hw : 0 < w ∧ w ≤ 256
  hh : 0 < h ∧ h ≤ 256
  hv : levels ≤ 5
  hl : l.length = kinds * w * h
  hn : NumOk l
def spShort (K : PySem.W.Frag) : Sp := fun vs H Q _ => ∃ (a : Addr) (l : List Int) (kinds w h levels : Nat), vs = [.ref a, .int kinds, .int w, .int h, .int levels] ∧ SqL K H a (l.map V.int) ∧ TileIn l kinds w h levels ∧ Ans H (B (1 :: Sp21.bytesOf (TW.tileBits kinds w h levels l))) Q
def spTileCode (K : PySem.W.Frag) : Sp := fun vs H Q _ => ∃ (a : Addr) (l : List Int) (kinds w h levels : Nat), vs = [.ref a, .int kinds, .int w, .int h, .int levels] ∧ SqL K H a (l.map V.int) ∧ TileIn l kinds w h levels ∧ Ans H (B (Sp21.tileCode kinds w h levels l)) Q
theorem step_pickK {l : List Int} {i kinds n : Nat} (hi : i < kinds) (hl : l.length = kinds * n) (hn : 0 < n) : stepV (l.map V.int) i kinds = (TW.pick l i kinds n).map V.int := by
  have hle : kinds ≤ kinds * n := Nat.le_mul_of_pos_right _ hn
  have en : (l.length - i + kinds - 1) / kinds = n := by
    rw [hl, show kinds * n - i + kinds - 1 = kinds * n + (kinds - 1 - i) by omega, Nat.mul_add_div (by omega), Nat.div_eq_of_lt (by omega)]
    omega
  unfold stepV TW.pick
  rw [List.length_map, en, List.map_map]
  have : ∀ ms : List Nat, (∀ m ∈ ms, m < n) → ms.filterMap (fun m => (l.map V.int)[i + m * kinds]?) = ms.map (V.int ∘ fun m => l.getD (i + m * kinds) 0) := by
    intro ms
    induction ms with
    | nil => intro _; rfl
    | cons m ms ih =>
      intro h
      have hm : i + m * kinds < l.length := by
        have h1 := h m List.mem_cons_self
        have h2 := Nat.mul_le_mul_right kinds (show m + 1 ≤ n from h1)
        rw [Nat.add_mul, Nat.one_mul, Nat.mul_comm n] at h2
        omega
      rw [List.filterMap_cons, List.getElem?_map, List.getElem?_eq_getElem hm, ih fun q hq => h q (List.mem_cons_of_mem _ hq), List.map_cons]
      simp [List.getD_eq_getElem?_getD, hm]
  exact this _ fun m hm => by simpa using hm
section
variable {P : Program} {w : World} {K : PySem.W.Frag} {mg : Str → Option Value} {base : Heap}
theorem scPlanesOf : FnScope ["numbers", "kinds", "i"] ["numbers", "kinds"] (defScope sPlanesOf) := ⟨rfl, rfl, rfl, by decide +kernel, rfl, by decide +kernel, by decide +kernel⟩
theorem ok_planesOf (D : DefAt K mg "planes_of" sPlanesOf) (zR : mg "range" = none) : OkF P w K mg base CX0 1 "planes_of" ["numbers", "kinds"] (spPlanesOf K) := by
  refine D.ok scPlanesOf (fun _ _ _ _ _ _ us hl => match us, hl with | [_, _], _ => rfl) (fun vs H Q E h => ?_) (fun f cdv A outer s H vs Q E hr h => ?_)
  · obtain ⟨a, l, kinds, n, rfl, _⟩ := h
    rfl
  · obtain ⟨a, l, kinds, n, rfl, hS, hk1, hk4, hl, hn0, hn, k⟩ := h
    refine ⟨_, pss_one (ps_ret (pe_lc (own := [("i", 2)]) (g := gName 2) (te := tStep K (tVar 0) (tVar 2) (tVar 1)) rfl scPlanesOf.nd (pi_range1 rfl zR (pa_cons (pv 1) pa_nil)) (blkOk_by (by kernel_rfl))
      (fun s H C cl fp => pg_name (i := 2) scPlanesOf.nd rfl (Or.inl rfl)) (fun s H C cl fp => pts_nil) (fun s H C cl fp => pe_step (pv 0) (pv 2) (pv 1)))), ?_⟩
    refine ⟨_, rfl, ((kinds : Nat) : Int), rfl, by omega, by omega, fun D1 hD1 => ?_⟩
    rw [Int.toNat_natCast]
    refine lc_rangeX (Rx := RowF H) rowF_X (TW.planes kinds n l) (by simp [TW.planes]) hD1 (line_ge (by omega)) (fun i y H2 Q' hi hy s2 hD2 hq => ?_) (fun H2 s2 L2' => k D1 H2 s2 hD1 L2')
    have hy : y = TW.pick l i kinds n := by
      unfold TW.planes at hy
      rw [List.getElem?_map, List.getElem?_range hi] at hy
      exact (Option.some.inj hy).symm
    subst hy
    refine ⟨rfl, _, rfl, _, rfl, _, rfl, a, _, i, kinds, rfl, by rw [Int.zero_add], rfl, by omega, s2.seq hS, fun p hp => ?_⟩
    rw [step_pickK hi hl hn0]
    exact hq p _ (same_upd hp) (new_ne hp hD2) ⟨upd_same, s2.free hp⟩
theorem scPlain : FnScope ["numbers", "coded", "number"] ["numbers"] (defScope sPlainCode) := ⟨rfl, rfl, rfl, by decide +kernel, rfl, by decide +kernel, by decide +kernel⟩
theorem B_app' (a b : List Nat) : B (a ++ b) = B a ++ B b := by simp [B, Sp21.ints]
theorem plain_len (l : List Int) : (plainOf l).length = 1 + 2 * l.length := by
  unfold plainOf
  rw [List.length_cons, flatMap_length_const (n := 2) (fun z _ => rfl)]
  omega
theorem ok_plain (D : DefAt K mg "plain_code" sPlainCode) : OkF P w K mg base CX0 1 "plain_code" ["numbers"] (spPlain K) := by
  refine D.ok scPlain (fun _ _ _ _ _ _ us hl => match us, hl with | [_], _ => rfl) (fun vs H Q E h => ?_) (fun f cdv A outer s H vs Q E hr h => ?_)
  · obtain ⟨a, l, rfl, _⟩ := h
    rfl
  · obtain ⟨a, l, rfl, hS, hN, hl, k⟩ := h
    refine ⟨_, pss_cons (ps_set (i := 1) scPlain.nd rfl (Or.inl rfl) (pe_lst (pa_cons pe_int pa_nil)))
      (pss_cons (ps_for PassesOwn.never rfl (pi_list (pv 0)) (pg_name (i := 2) scPlain.nd rfl (Or.inl rfl))
        (pss_cons (ps_expr (pe_bm PySem.F.plainAttrs_list PySem.F.slot_list_append PySem.F.type_list_append mt_append (pv 1) (pa_cons (pe_op op_and (pv 2) pe_int) pa_nil)))
        (pss_one (ps_expr (pe_bm PySem.F.plainAttrs_list PySem.F.slot_list_append PySem.F.type_list_append mt_append (pv 1) (pa_cons (pe_op op_shr (pv 2) pe_int) pa_nil))))))
      (pss_one (ps_ret (pv 1)))), ?_⟩
    refine ⟨(by show 1 ≤ sizeLine; decide), fun c hc => ?_⟩
    refine ⟨_, rfl, a, rfl, ⟨_, (same_upd hc).seq hS⟩, ?_⟩
    refine for_list (K := K) (xs := l.map V.int) (fun i σ H2 => ∃ u, σ = [some (.ref a), some (.ref c), u] ∧ Same H H2 ∧ H2 c = some (.lst (B (plainOf (l.take i))))) ⟨none, rfl, same_upd hc, upd_same⟩ (fun i σ H2 _ ⟨_, _, s2, _⟩ => s2.seq hS) ?_ ?_
    · rintro i x σ H2 hx ⟨u, rfl, s2, g2⟩
      obtain ⟨z, ez, rfl⟩ := ints_get hx
      have hz := hN z (List.mem_of_getElem? ez)
      have hi := (List.getElem?_eq_some_iff.mp ez).1
      have et : l.take (i + 1) = l.take i ++ [z] := by rw [List.take_succ, ez]; rfl
      have hlen : (plainOf (l.take i)).length ≤ 2000001 := by rw [plain_len, List.length_take]; omega
      refine ⟨_, rfl, .inl ⟨rfl, _, SqL.of g2⟩, _, rfl, _, _, rfl, rfl, c, _, _, rfl, rfl, g2, ?_, ?_⟩
      · rw [B_len]
        exact Nat.lt_of_le_of_lt hlen (Nat.lt_of_lt_of_le (show 2000001 < 16000000 by decide) (line_ge (Nat.le_refl _)))
      refine ⟨_, rfl, .inl ⟨rfl, _, SqL.of upd_same⟩, _, rfl, _, _, rfl, rfl, (show (0 : Int) ≤ 8 by decide), c, _, _, rfl, rfl, upd_same, ?_, _, rfl, fun b o e => ?_, ?_⟩
      · rw [List.length_append, B_len]
        exact Nat.lt_of_le_of_lt (show _ + 1 ≤ 2000002 by omega) (Nat.lt_of_lt_of_le (show 2000002 < 16000000 by decide) (line_ge (Nat.le_refl _)))
      · rw [upd_ne (ne_of_none e hc), upd_ne (ne_of_none e hc)]
        exact s2 _ _ e
      · rw [upd_same, et]
        have e1 : plainOf (l.take i ++ [z]) = plainOf (l.take i) ++ [z.toNat % 256, z.toNat / 256] := by
          unfold plainOf
          rw [List.flatMap_append, List.flatMap_singleton, two_lt hz]
          rfl
        rw [e1, B_app']
        have e2 : Builtin.bitAnd z 255 = ((z.toNat % 256 : Nat) : Int) := by rw [bitAnd_m8]; omega
        have e3 : z / 2 ^ 8 = ((z.toNat / 256 : Nat) : Int) := by omega
        dsimp only
        rw [e2, show (8 : Int).toNat = 8 from rfl, e3, List.append_assoc]
        rfl
    · rintro σ H2 ⟨u, rfl, s2, g2⟩
      rw [List.length_map, List.take_length] at g2
      exact ⟨_, rfl, k c H2 s2 hc g2⟩
theorem scShort : FnScope ["numbers", "kinds", "width", "height", "levels", "writer", "plane", "band"] ["numbers", "kinds", "width", "height", "levels"] (defScope sShortCode) := ⟨rfl, rfl, rfl, by decide +kernel, rfl, by decide +kernel, by decide +kernel⟩
theorem flatMap_take_succ {α β : Type} {g : α → List β} {l : List α} {i : Nat} {x : α} (h : l[i]? = some x) : (l.take (i + 1)).flatMap g = (l.take i).flatMap g ++ g x := by
  rw [List.take_succ, h, List.flatMap_append]
  simp
theorem flatMap_take_le {α β : Type} (g : α → List β) (l : List α) (i : Nat) : ((l.take i).flatMap g).length ≤ (l.flatMap g).length := by
  conv => rhs; rw [← List.take_append_drop i l]
  rw [List.flatMap_append, List.length_append]
  omega
theorem ok_short {C : Addr} (D : DefAt K mg "short_code" sShortCode) (T : WriterTxt K mg C) (oI : OkM P w K mg base CX0 1 C "__init__" ["self"] (spInitWriter C)) (oA : OkM P w K mg base CX0 1 C "all_bytes" ["self"] (spAllBytes C)) (oP : OkF P w K mg base CX0 1 "planes_of" ["numbers", "kinds"] (spPlanesOf K)) (oM : OkF P w K mg base CX0 1 "mixed" ["planes"] (spMixed K))
    (oC : OkF P w K mg base CX0 1 "cut_rows" ["numbers", "width", "height"] (spCutRows K)) (oB : OkF P w K mg base CX0 4 "bands_of" ["rows", "levels"] spBandsOf) (oT : OkF P w K mg base CX0 3 "tell_band" ["band", "writer"] (spTellBand K C)) : OkF P w K mg base CX0 5 "short_code" ["numbers", "kinds", "width", "height", "levels"] (spShort K) := by
  refine D.ok scShort (fun _ _ _ _ _ _ us hl => match us, hl with | [_, _, _, _, _], _ => rfl) (fun vs H Q E h => ?_) (fun f cdv A outer s H vs Q E hr h => ?_)
  · obtain ⟨a, l, kinds, w, h, levels, rfl, _⟩ := h
    rfl
  · obtain ⟨a, l, kinds, w, h, n, rfl, hS, X, k⟩ := h
    have hr1 : Room 1 _ := hr.mono (by decide)
    have hr2 : Room 2 _ := hr.mono (by decide)
    have hr3 : Room 3 _ := hr.mono (by decide)
    refine ⟨_, pss_cons (ps_set (i := 5) scShort.nd rfl (Or.inl rfl) (pe_new0 oI T.toClsIn hr2 rfl))
      (pss_cons (ps_for PassesOwn.never rfl (pi_list (pe_f0 oM hr1 rfl (pa_cons (pe_f0 oP hr1 rfl (pa_cons (pv 0) (pa_cons (pv 1) pa_nil))) pa_nil))) (pg_name (i := 6) scShort.nd rfl (Or.inl rfl))
        (pss_one (ps_for PassesOwn.never rfl (pi_list (pe_f0 oB hr rfl (pa_cons (pe_f0 oC hr1 rfl (pa_cons (pv 6) (pa_cons (pv 2) (pa_cons (pv 3) pa_nil)))) (pa_cons (pv 4) pa_nil)))) (pg_name (i := 7) scShort.nd rfl (Or.inl rfl))
          (pss_one (ps_expr (pe_f0 oT hr3 rfl (pa_cons (pv 7) (pa_cons (pv 5) pa_nil))))))))
      (pss_one (ps_ret (pe_op op_cat (pe_lst (pa_cons pe_int pa_nil)) (pe_m0' oA T.cl hr1 pass0 (pv 5)))))), ?_⟩
    obtain ⟨⟨hk1, hk4⟩, ⟨hw0, hw2⟩, ⟨hh0, hh2⟩, hv, hl, hN⟩ := X
    have harea : w * h ≤ 65536 := Nat.mul_le_mul hw2 hh2
    have hl' : l.length = kinds * (w * h) := by rw [hl, Nat.mul_assoc]
    intro x dx hx hdx hne
    refine ⟨x, dx, rfl, upd_same, fun d H1 hd hW kp => ⟨rfl, ?_⟩⟩
    have s1 : Same H H1 := Same.made hx hdx kp
    have hd0 : H d = none := by
      rcases e : H d with _ | o
      · rfl
      · have : upd (upd H dx (.own x)) x (.ins C dx []) d ≠ none := by
          by_cases h1 : d = x
          · rw [h1, upd_same]; simp
          · rw [upd_ne h1]
            by_cases h2 : d = dx
            · rw [h2, upd_same]; simp
            · rw [upd_ne h2, e]; simp
        exact absurd hd this
    refine ⟨_, rfl, _, rfl, a, l, kinds, w * h, rfl, s1.seq hS, hk1, hk4, hl', Nat.mul_pos hw0 hh0, by omega, fun pl H2 s2 n2 G2 => ?_⟩
    refine ⟨pl, TW.planes kinds (w * h) l, w * h, H1, rfl, s2, G2, planes_length, ?_, by omega, fun ml H3 s3 n3 G3 => ?_⟩
    · show ((List.range kinds).map _).length ≤ 1000
      rw [List.length_map, List.length_range]
      omega
    have hpl := mixed_plane (planes_plane (kinds := kinds) (w := w) (h := h) hl hN)
    generalize hms : TW.mixed (TW.planes kinds (w * h) l) = ms at G3 hpl
    have hmsl : ms.length = kinds := by rw [← hms, mixed_count]; simp [TW.planes]
    have hbits := tileBits_length (levels := n) hw0 hh0 hv harea hl hN
    have eB : TW.tileBits kinds w h n l = ms.flatMap fun p => (TW.tileBands n (TW.cutRows p w h) w h).flatMap (Sp21.bandBits 16 1) := by rw [← hms]; rfl
    have hbb : 88 * (kinds * (w * h)) ≤ 24000000 := by
      have := Nat.mul_le_mul hk4 harea
      omega
    rw [eB] at hbits k
    obtain ⟨refs, g1, g2, g0, g3⟩ := id G3
    have hm1 : ∀ {b : Addr}, H1 b = none → b ≠ x ∧ b ≠ d := fun {b} hb => by
      obtain ⟨_, _, _, ⟨_, ⟨_, w1⟩, w2⟩, _⟩ := hW
      exact ⟨(ne_of_none w1 hb).symm, (ne_of_none w2 hb).symm⟩
    have mlN : H1 ml = none := s2.free n3
    refine ⟨ml, rfl, ⟨_, SqL.of g1⟩, ?_⟩
    refine for_list (K := K) (xs := refs.map V.ref) (fun i σ H4 => ∃ u v, σ = [some (.ref a), some (.int kinds), some (.int w), some (.int h), some (.int n), some (.ref x), u, v] ∧ Same2 x d H3 H4 ∧ WrAt C H4 x d ((ms.take i).flatMap fun p => (TW.tileBands n (TW.cutRows p w h) w h).flatMap (Sp21.bandBits 16 1)))
      ⟨none, none, rfl, Same2.of (Same.refl _), hW.same (s2.trans s3)⟩ (fun i σ H4 _ ⟨_, _, _, s4, _⟩ => SqL.of (s4 _ _ (hm1 mlN).1 (hm1 mlN).2 g1)) ?_ ?_
    · rintro i y σ H4 hy ⟨u, v, rfl, s4, W4⟩
      rw [List.getElem?_map] at hy
      obtain ⟨r, er, rfl⟩ := Option.map_eq_some_iff.mp hy
      have hi : i < ms.length := by have := (List.getElem?_eq_some_iff.mp er).1; omega
      have em : ms[i]? = some ms[i] := List.getElem?_eq_getElem hi
      obtain ⟨rr, rN⟩ := g3 i r _ er em
      have rr4 := s4 _ _ (hm1 rN).1 (hm1 rN).2 rr
      have hP := hpl ms[i] (List.mem_of_getElem? em)
      generalize hpm : ms[i] = pm at em rr rr4 hP
      refine ⟨_, rfl, _, rfl, _, rfl, r, pm, w, h, rfl, SqL.of rr4, by omega, by omega, fun cr H5 s5 n5 G5 => ?_⟩
      refine ⟨_, rfl, cr, _, w, h, n, rfl, G5, Rect.cutRows hP.len, hw0, hh0, hw2, hh2, hv, fun bl H6 s6 n6 G6 => ?_⟩
      obtain ⟨brefs, b1, b2, b0, b3⟩ := id G6
      have s56 := s5.trans s6
      have hm4 : ∀ {b : Addr}, H4 b = none → b ≠ x ∧ b ≠ d := fun {b} hb => by
        obtain ⟨_, _, _, ⟨_, ⟨_, w1⟩, w2⟩, _⟩ := W4
        exact ⟨(ne_of_none w1 hb).symm, (ne_of_none w2 hb).symm⟩
      have blN : H4 bl = none := s5.free n6
      generalize hbs : TW.tileBands n (TW.cutRows pm w h) w h = bs at b2 b3
      have hband : ∀ b ∈ bs, (∀ z ∈ b, -(2 ^ 23) ≤ z ∧ z < 2 ^ 23) ∧ b.length ≤ w * h := fun b hb => by
        rw [← hbs] at hb
        exact ⟨hP.bands hw0 hh0 hv b hb, band_le (Rect.cutRows hP.len) hw0 hh0 b hb⟩
      have hsofar : ((ms.take i).flatMap fun p => (TW.tileBands n (TW.cutRows p w h) w h).flatMap (Sp21.bandBits 16 1)).length ≤ 24000000 := Nat.le_trans (flatMap_take_le _ ms i) (Nat.le_trans hbits hbb)
      have hthis := hP.bits_le (k := n) hw0 hh0 hv harea
      rw [hbs] at hthis
      generalize hsf : ((ms.take i).flatMap fun p => (TW.tileBands n (TW.cutRows p w h) w h).flatMap (Sp21.bandBits 16 1)) = sf at W4 hsofar
      refine ⟨bl, rfl, ⟨_, SqL.of b1⟩, ?_⟩
      refine for_list (K := K) (xs := brefs.map V.ref) (fun j σ H7 => ∃ v, σ = [some (.ref a), some (.int kinds), some (.int w), some (.int h), some (.int n), some (.ref x), some (.ref r), v] ∧ Same2 x d H6 H7 ∧ WrAt C H7 x d (sf ++ (bs.take j).flatMap (Sp21.bandBits 16 1)))
        ⟨v, rfl, Same2.of (Same.refl _), by simpa using W4.same s56⟩ (fun j σ H7 _ ⟨_, _, s7, _⟩ => SqL.of (s7 _ _ (hm4 blN).1 (hm4 blN).2 b1)) ?_ ?_
      · rintro j y σ H7 hy ⟨v, rfl, s7, W7⟩
        rw [List.getElem?_map] at hy
        obtain ⟨br, ebr, rfl⟩ := Option.map_eq_some_iff.mp hy
        have hj : j < bs.length := by have := (List.getElem?_eq_some_iff.mp ebr).1; omega
        have ebs : bs[j]? = some bs[j] := List.getElem?_eq_getElem hj
        obtain ⟨bb, bN⟩ := b3 j br _ ebr ebs
        have bN4 : H4 br = none := s5.free bN
        have bb7 := s7 _ _ (hm4 bN4).1 (hm4 bN4).2 bb
        have hbd := hband bs[j] (List.mem_of_getElem? ebs)
        have hmore := Nat.le_trans (flatMap_take_le (Sp21.bandBits 16 1) bs j) hthis
        refine ⟨_, rfl, _, rfl, br, x, d, _, bs[j], rfl, bb7, (hm4 bN4).1, (hm4 bN4).2, W7, hbd.1, by omega, ?_, fun H8 W8 s8 => ?_⟩
        · rw [List.length_append]
          omega
        · refine ⟨_, rfl, s7.trans s8, ?_⟩
          rw [flatMap_take_succ ebs, ← List.append_assoc]
          exact W8
      · rintro σ H7 ⟨v, rfl, s7, W7⟩
        rw [List.length_map, b2, List.take_length] at W7
        refine ⟨_, _, rfl, fun b o n1 n2 e => s7 _ _ n1 n2 (s56 _ _ (s4 _ _ n1 n2 e)), ?_⟩
        rw [flatMap_take_succ em, hsf, hbs]
        exact W7
    · rintro σ H4 ⟨u, v, rfl, s4, W4⟩
      rw [List.length_map, g2, List.take_length] at W4
      generalize hall : (ms.flatMap fun p => (TW.tileBands n (TW.cutRows p w h) w h).flatMap (Sp21.bandBits 16 1)) = al at W4 k hbits
      refine ⟨(by show 1 ≤ sizeLine; decide), fun q hq => ?_⟩
      have t1 := same_upd (o := .lst [.int 1]) hq
      have W5 := W4.same t1
      obtain ⟨dx5, fs5, hp5, _, hno⟩ := W5.obj
      refine ⟨_, rfl, x, dx5, fs5, rfl, hp5, hno, x, d, al, rfl, W5, by omega, fun z H6 s6 n6 g6 => ?_⟩
      refine ⟨q, z, _, _, rfl, rfl, s6 _ _ upd_same, g6, ?_, fun p hp => ?_⟩
      · have : ((Sp21.ints (Sp21.bytesOf al)).map V.int).length = (al.length + 7) / 8 := by rw [List.length_map]; simp [Sp21.ints, bytesOf_length]
        rw [this]
        exact line_ge (by show 1 + (al.length + 7) / 8 ≤ 16000000; omega)
      have sF : Same H H4 := fun b o e => by
        have n1 : b ≠ x := ne_of_none e hx
        have n2 : b ≠ d := ne_of_none e hd0
        exact s4 _ _ n1 n2 ((s1.trans (s2.trans s3)) _ _ e)
      refine k p _ ((sF.trans (t1.trans s6)).new hp) ((sF.trans (t1.trans s6)).free hp) ?_
      rw [upd_same]
      rfl
theorem scTileCode : FnScope ["numbers", "kinds", "width", "height", "levels", "plain", "short"] ["numbers", "kinds", "width", "height", "levels"] (defScope sTileCode) := ⟨rfl, rfl, rfl, by decide +kernel, rfl, by decide +kernel, by decide +kernel⟩
theorem ok_tileCode (D : DefAt K mg "tile_code" sTileCode) (zLen : mg "len" = none) (oP : OkF P w K mg base CX0 1 "plain_code" ["numbers"] (spPlain K)) (oS : OkF P w K mg base CX0 5 "short_code" ["numbers", "kinds", "width", "height", "levels"] (spShort K)) : OkF P w K mg base CX0 6 "tile_code" ["numbers", "kinds", "width", "height", "levels"] (spTileCode K) := by
  refine D.ok scTileCode (fun _ _ _ _ _ _ us hl => match us, hl with | [_, _, _, _, _], _ => rfl) (fun vs H Q E h => ?_) (fun f cdv A outer s H vs Q E hr h => ?_)
  · obtain ⟨a, l, kinds, w, h, levels, rfl, _⟩ := h
    rfl
  · obtain ⟨a, l, kinds, w, h, n, rfl, hS, X, k⟩ := h
    have hr1 : Room 1 _ := hr.mono (by decide)
    refine ⟨_, pss_cons (ps_set (i := 5) scTileCode.nd rfl (Or.inl rfl) (pe_f0 oP hr1 rfl (pa_cons (pv 0) pa_nil)))
      (pss_cons (ps_set (i := 6) scTileCode.nd rfl (Or.inl rfl) (pe_f0 oS hr rfl (pa_cons (pv 0) (pa_cons (pv 1) (pa_cons (pv 2) (pa_cons (pv 3) (pa_cons (pv 4) pa_nil)))))))
      (pss_one (ps_ret (pe_ifExp (pt_cmpR op_lt (pe_callB call_len_seq (by rfl) zLen PySem.boot_len (pa_cons (pv 6) pa_nil)) (pe_callB call_len_seq (by rfl) zLen PySem.boot_len (pa_cons (pv 5) pa_nil)) rfl) (pv 6) (pv 5))))), ?_⟩
    have hll : l.length ≤ 262144 := by
      rw [X.hl, Nat.mul_assoc]
      exact Nat.mul_le_mul X.hk.2 (Nat.mul_le_mul X.hw.2 X.hh.2)
    refine ⟨_, rfl, a, l, rfl, hS, X.hn, by omega, fun p1 H1 s1 n1 g1 => ?_⟩
    refine ⟨_, rfl, _, rfl, _, rfl, _, rfl, _, rfl, a, l, kinds, w, h, n, rfl, s1.seq hS, X, fun p2 H2 s2 n2 g2 => ?_⟩
    have ec : Sp21.tileCode kinds w h n l = if (1 :: Sp21.bytesOf (TW.tileBits kinds w h n l)).length < (plainOf l).length then 1 :: Sp21.bytesOf (TW.tileBits kinds w h n l) else plainOf l := tileCode_eq (kinds := kinds) (levels := n) (l := l) X.hw.1 X.hh.1
    refine ⟨_, rfl, p2, _, rfl, .inl (SqL.of g2), _, rfl, p1, _, rfl, .inl (SqL.of (s2 _ _ g1)), _, _, rfl, rfl, _, rfl, ?_⟩
    by_cases hlt : (1 :: Sp21.bytesOf (TW.tileBits kinds w h n l)).length < (plainOf l).length
    · refine br_t (decide_eq_true (by rw [B_len, B_len]; omega)) ⟨_, rfl, k p2 H2 (s1.trans s2) (s1.free n2) ?_⟩
      rw [if_pos hlt] at ec
      rw [ec]
      exact g2
    · refine br_f (decide_eq_false (by rw [B_len, B_len]; omega)) ⟨_, rfl, k p1 H2 (s1.trans s2) n1 ?_⟩
      rw [if_neg hlt] at ec
      rw [ec]
      exact s2 _ _ g1
end

def spNumbersIn (K : PySem.W.Frag) : Sp := fun vs H Q _ => ∃ (a : Addr) (ns : List Int), vs = [.ref a] ∧ SqL K H a (ns.map V.int) ∧ Q (.bl (allIn 0 65535 ns)) H
section
variable {P : Program} {w : World} {K : PySem.W.Frag} {mg : Str → Option Value} {base : Heap}
theorem scNumbersIn : FnScope ["numbers"] ["numbers"] (defScope sNumbersIn) := ⟨rfl, rfl, rfl, by decide +kernel, rfl, by decide +kernel, by decide +kernel⟩
theorem ok_numbersIn (D : DefAt K mg "numbers_in_range" sNumbersIn) (cH : ∃ t, mg "HIGHEST" = some (.int 65535 t)) (oB : OkF P w K mg base CX0 1 "all_between" ["numbers", "lowest", "highest"] (spBetween K)) : OkF P w K mg base CX0 2 "numbers_in_range" ["numbers"] (spNumbersIn K) := by
  obtain ⟨t1, cH⟩ := cH
  refine D.ok scNumbersIn (fun _ _ _ _ _ _ us hl => match us, hl with | [_], _ => rfl) (fun vs H Q E h => ?_) (fun f cdv A outer s H vs Q E hr h => ?_)
  · obtain ⟨a, ns, rfl, _⟩ := h
    rfl
  · obtain ⟨a, ns, rfl, hS, k⟩ := h
    refine ⟨_, pss_one (ps_ret (pe_f0 oB hr rfl (pa_cons (pv 0) (pa_cons pe_int (pa_cons (pe_glob (v := .int 65535) (by rfl) cH ⟨t1, rfl⟩) pa_nil))))), ?_⟩
    exact ⟨_, rfl, a, ns, 0, 65535, rfl, hS, k⟩
end

def spCheckTile (CP CH CO : Addr) : Sp := fun vs H Q E => ∃ (t : Int) (p : Addr) (f : Sp21.Head) (l : List (List Nat)), vs = [.int t, .ref p] ∧ PartsAt CP CH H p f l ∧ (0 ≤ t ∧ t < (l.length : Int) → Q .non H) ∧ (¬ (0 ≤ t ∧ t < (l.length : Int)) → ∀ H', Same H H' → E (.ref CO) none H')
section
variable {P : Program} {w : World} {K : PySem.W.Frag} {mg : Str → Option Value} {base : Heap}
theorem scCheckTile : FnScope ["t", "parts"] ["t", "parts"] (defScope sCheckTile) := ⟨rfl, rfl, rfl, by decide +kernel, rfl, by decide +kernel, by decide +kernel⟩
theorem ok_checkTile {CP CH CO : Addr} (D : DefAt K mg "check_tile" sCheckTile) (zLen : mg "len" = none) (TP : PartsTxt K mg CP) (cO : ExcAt K mg "OutOfRange" CO) : OkF P w K mg base (CX1 P w) 1 "check_tile" ["t", "parts"] (spCheckTile CP CH CO) := by
  refine D.okx scCheckTile (fun _ _ _ _ _ _ us hl => match us, hl with | [_, _], _ => rfl) (fun vs H Q E h => ?_) (fun f cdv A outer s H vs Q E hr h X hX => ?_)
  · obtain ⟨t, p, f, l, rfl, _⟩ := h
    rfl
  · subst hX
    obtain ⟨t, p, f, l, rfl, pa, k1, k2⟩ := h
    obtain ⟨dx, hp, ca, g1, hd, L1⟩ := pa.ex
    obtain ⟨refs, r1, r2, _, _⟩ := L1
    refine ⟨_, pss_one (ps_if (pt_not (pt_chain op_le op_lt pe_int (pv 0) (pe_callB call_len_seq (by rfl) zLen PySem.boot_len (pa_cons (pe_fld (pv 1) rfl) pa_nil)))) (pss_one (ps_raise plain_cx rfl rfl cO)) pss_nil), ?_⟩
    have hlen : ((refs.map V.ref).length : Int) = (l.length : Int) := by rw [List.length_map, r2]
    refine ⟨_, rfl, _, _, rfl, rfl, _, rfl, ?_⟩
    by_cases h0 : 0 ≤ t
    · refine br_t (decide_eq_true h0) ?_
      refine ⟨_, rfl, p, CP, dx, _, _, rfl, g1, TP.cl, TP.nc, partsF_codes .., ca, _, rfl, .inl (SqL.of r1), _, _, rfl, rfl, _, rfl, ?_⟩
      rw [hlen]
      by_cases h1 : t < (l.length : Int)
      · rw [decide_eq_true h1]
        exact iteF (k1 ⟨h0, h1⟩)
      · rw [decide_eq_false h1]
        exact iteT (k2 (fun z => h1 z.2) H (Same.refl _))
    · refine br_f (decide_eq_false h0) ?_
      exact ⟨_, rfl, iteT (k2 (fun z => h0 z.1) H (Same.refl _))⟩
end

inductive Due where
  | ok (r : List Int)
  | out
  | nota
def putDue (t : Int) (b : List Nat) (n : List Int) : Due := if Sp21.numbersOk n = false then .out else match Sp21.headOf b with
  | none => .nota
  | some (f, l) => if Sp21.upTo t 0 ((f.tiles : Int) - 1) = false then .out else
    if n.length ≠ f.kinds * (f.part t.toNat).w * (f.part t.toNat).h then .out else
      .ok (((Sp21.joined f (l.set t.toNat (Sp21.tileCode f.kinds (f.part t.toNat).w (f.part t.toNat).h f.levels n))).length : Int) :: Sp21.ints (Sp21.joined f (l.set t.toNat (Sp21.tileCode f.kinds (f.part t.toNat).w (f.part t.toNat).h f.levels n))))
def Due.ans : Due → List Int
  | .ok r => r
  | .out => [-8]
  | .nota => [-2]
theorem putDue_num {t : Int} {b : List Nat} {n : List Int} (h : Sp21.numbersOk n = false) : putDue t b n = .out := by unfold putDue; rw [if_pos h]
theorem putDue_none {t : Int} {b : List Nat} {n : List Int} (h : Sp21.numbersOk n = true) (ho : Sp21.headOf b = none) : putDue t b n = .nota := by unfold putDue; rw [if_neg (by rw [h]; decide), ho]
theorem putDue_t {t : Int} {b : List Nat} {n : List Int} {f : Sp21.Head} {l : List (List Nat)} (h : Sp21.numbersOk n = true) (ho : Sp21.headOf b = some (f, l)) (ht : ¬ (0 ≤ t ∧ t < (f.tiles : Int))) : putDue t b n = .out := by
  unfold putDue
  rw [if_neg (by rw [h]; decide), ho]
  dsimp only
  rw [if_pos]
  unfold Sp21.upTo
  rw [Bool.and_eq_false_iff, decide_eq_false_iff_not, decide_eq_false_iff_not]
  omega
theorem putDue_l {t : Int} {b : List Nat} {n : List Int} {f : Sp21.Head} {l : List (List Nat)} (h : Sp21.numbersOk n = true) (ho : Sp21.headOf b = some (f, l)) (hl : n.length ≠ f.kinds * (f.part t.toNat).w * (f.part t.toNat).h) : putDue t b n = .out := by
  unfold putDue
  rw [if_neg (by rw [h]; decide), ho]
  dsimp only
  by_cases hu : Sp21.upTo t 0 ((f.tiles : Int) - 1) = false
  · rw [if_pos hu]
  · rw [if_neg hu, if_pos hl]
theorem putDue_ok {t : Int} {b : List Nat} {n : List Int} {f : Sp21.Head} {l : List (List Nat)} (h : Sp21.numbersOk n = true) (ho : Sp21.headOf b = some (f, l)) (ht : 0 ≤ t ∧ t < (f.tiles : Int)) (hl : n.length = f.kinds * (f.part t.toNat).w * (f.part t.toNat).h) :
    putDue t b n = .ok (((Sp21.joined f (l.set t.toNat (Sp21.tileCode f.kinds (f.part t.toNat).w (f.part t.toNat).h f.levels n))).length : Int) :: Sp21.ints (Sp21.joined f (l.set t.toNat (Sp21.tileCode f.kinds (f.part t.toNat).w (f.part t.toNat).h f.levels n)))) := by
  unfold putDue
  rw [if_neg (by rw [h]; decide), ho]
  dsimp only
  rw [if_neg, if_neg (fun z => z hl)]
  unfold Sp21.upTo
  rw [Bool.and_eq_false_iff, decide_eq_false_iff_not, decide_eq_false_iff_not]
  omega
theorem cutInto_mem {α : Type} : ∀ (ns : List Nat) (l : List α) {t : List α} {x : α}, t ∈ Sp21.cutInto ns l → x ∈ t → x ∈ l
  | [], l, t, x, h, _ => nomatch h
  | n :: ns, l, t, x, h, hx => by
    rcases List.mem_cons.mp h with rfl | h
    · exact List.mem_of_mem_take hx
    · exact List.mem_of_mem_drop (cutInto_mem ns (l.drop n) h hx)
theorem cutInto_flat {α : Type} : ∀ (ns : List Nat) (l : List α), (Sp21.cutInto ns l).flatten.length ≤ l.length
  | [], l => Nat.zero_le _
  | n :: ns, l => by
    have := cutInto_flat ns (l.drop n)
    show (l.take n ++ (Sp21.cutInto ns (l.drop n)).flatten).length ≤ _
    rw [List.length_append, List.length_take]
    rw [List.length_drop] at this
    omega
theorem headOf_codes {b : List Nat} {f : Sp21.Head} {l : List (List Nat)} (hb : Bytes b) (h : Sp21.headOf b = some (f, l)) : (∀ t ∈ l, Bytes t) ∧ l.flatten.length ≤ b.length := by
  rw [headOf_eq hb] at h
  cases e : headP b with
  | none => rw [e] at h; cases h
  | some g =>
    rw [e] at h
    have h : (tilesP b g).map (fun l => (g, l)) = some (f, l) := h
    cases e2 : tilesP b g with
    | none => rw [e2] at h; cases h
    | some m =>
      rw [e2] at h
      cases h
      unfold tilesP at e2
      dsimp only at e2
      split at e2
      · cases e2
      · cases e2
        refine ⟨fun t ht x hx => hb x (List.mem_of_mem_drop (cutInto_mem _ _ ht hx)), ?_⟩
        exact Nat.le_trans (cutInto_flat _ _) (by rw [List.length_drop]; omega)
theorem flatten_set_le {l : List (List Nat)} {c : List Nat} : ∀ {i : Nat}, (l.set i c).flatten.length ≤ l.flatten.length + c.length := by
  induction l with
  | nil => intro i; simp
  | cons x r ih =>
    intro i
    cases i with
    | zero => simp; omega
    | succ i =>
      have := ih (i := i)
      simp only [List.set_cons_succ, List.flatten_cons, List.length_append]
      omega
def spPutAnswer (K : PySem.W.Frag) (CO CN : Addr) : Sp := fun vs H Q E => ∃ (t : Int) (a1 a2 : Addr) (b : List Nat) (n : List Int), vs = [.int t, .ref a1, .ref a2] ∧ SqL K H a1 (B b) ∧ SqL K H a2 (n.map V.int) ∧ Bytes b ∧ b.length ≤ 1048576 ∧
  (∀ r, putDue t b n = .ok r → ∀ p H', H' p = some (.lst (r.map V.int)) → Q (.ref p) H') ∧ (putDue t b n = .out → ∀ H', E (.ref CO) none H') ∧ (putDue t b n = .nota → ∀ H', E (.ref CN) none H')
section
variable {P : Program} {w : World} {K : PySem.W.Frag} {mg : Str → Option Value} {base : Heap}
theorem ixN_of {n : Nat} {t : Int} (h0 : 0 ≤ t) (h1 : t < (n : Int)) : ixN n t = some t.toNat := by
  unfold ixN
  rw [if_pos h0, if_pos h1]
/-- one of a list of codes set -/
theorem codes_set {H : Hp} {q tc : Addr} {l : List (List Nat)} {refs : List Addr} {c : List Nat} {i : Nat} (g2 : refs.length = l.length) (g3 : ∀ (j : Nat) (r : Addr) (x : List Nat), refs[j]? = some r → l[j]? = some x → CodeAt H r x) (hn : ∀ r ∈ refs, r ≠ q) (hc : CodeAt H tc c) (htq : tc ≠ q) :
    ListOf CodeAt (upd H q (.lst ((refs.map V.ref).set i (.ref tc)))) q (l.set i c) := by
  have all : ∀ r ∈ refs.set i tc, r ≠ q := fun r hr => by
    rcases List.mem_or_eq_of_mem_set hr with h | h
    · exact hn r h
    · rw [h]; exact htq
  refine ⟨refs.set i tc, by rw [upd_same, List.map_set], by rw [List.length_set, List.length_set, g2], all, fun j r x e1 e2 => ?_⟩
  show upd _ _ _ _ = _
  rw [upd_ne (all r (List.mem_of_getElem? e1))]
  rw [List.getElem?_set] at e1 e2
  by_cases hij : i = j
  · rw [if_pos hij] at e1 e2
    split at e1
    · split at e2
      · cases e1
        cases e2
        exact hc
      · cases e2
    · cases e1
  · rw [if_neg hij] at e1 e2
    exact g3 j r x e1 e2
theorem scPut : FnScope ["t", "coded", "numbers", "parts", "kinds", "place", "codes", "fresh"] ["t", "coded", "numbers"] (defScope sPutAnswer) := ⟨rfl, rfl, rfl, by decide +kernel, rfl, by decide +kernel, by decide +kernel⟩
theorem ok_putAnswer {CPl CP CH CO CN : Addr} (D : DefAt K mg "put_answer" sPutAnswer) (zLen : mg "len" = none) (zL : mg "list" = none) (TP : PartsTxt K mg CP) (TH : HeadTxt K mg CH) (TPl : PlaceTxt K mg CPl) (cO : ExcAt K mg "OutOfRange" CO) (oC : OkF P w K mg base CX0 2 "check_bytes" ["coded"] (spCheck K)) (oN : OkF P w K mg base CX0 2 "numbers_in_range" ["numbers"] (spNumbersIn K))
    (oO : OkF P w K mg base (CX1 P w) 6 "opened" ["coded"] (spOpened K CP CH CN)) (oT : OkF P w K mg base (CX1 P w) 1 "check_tile" ["t", "parts"] (spCheckTile CP CH CO)) (oP : OkM P w K mg base CX0 4 CH "places" ["self"] (spHeadPlaces CPl CH)) (oK : OkF P w K mg base CX0 6 "tile_code" ["numbers", "kinds", "width", "height", "levels"] (spTileCode K)) (oR : OkF P w K mg base CX0 3 "framed" ["head", "tile_codes"] (spFramed CH)) :
    OkF P w K mg base (CX1 P w) 7 "put_answer" ["t", "coded", "numbers"] (spPutAnswer K CO CN) := by
  refine D.okx scPut (fun _ _ _ _ _ _ us hl => match us, hl with | [_, _, _], _ => rfl) (fun vs H Q E h => ?_) (fun f cdv A outer s H vs Q E hr h X hX => ?_)
  · obtain ⟨t, a1, a2, b, n, rfl, _⟩ := h
    rfl
  · subst hX
    obtain ⟨t, a1, a2, b, n, rfl, hS1, hS2, hb, hl, k1, k2, k3⟩ := h
    have hr1 : Room 1 _ := hr.mono (by decide)
    have hr2 : Room 2 _ := hr.mono (by decide)
    have hr3 : Room 3 _ := hr.mono (by decide)
    have hr4 : Room 4 _ := hr.mono (by decide)
    refine ⟨_, pss_cons (ps_expr (pe_f0 oC hr2 rfl (pa_cons (pv 1) pa_nil)))
      (pss_cons (ps_if (pt_not (pt_val (pe_f0 oN hr2 (by rfl) (pa_cons (pv 2) pa_nil)))) (pss_one (ps_raise plain_cx rfl rfl cO)) pss_nil)
      (pss_cons (ps_set (i := 3) scPut.nd rfl (Or.inl rfl) (pe_f oO hr rfl (passes1 plain_cx) (pa_cons (pv 1) pa_nil)))
      (pss_cons (ps_expr (pe_f oT hr1 rfl (passes1 plain_cx) (pa_cons (pv 0) (pa_cons (pv 3) pa_nil))))
      (pss_cons (ps_set (i := 4) scPut.nd rfl (Or.inl rfl) (pe_fld (pe_fld (pv 3) rfl) rfl))
      (pss_cons (ps_set (i := 5) scPut.nd rfl (Or.inl rfl) (pe_ix ix_list (pe_m0' oP TH.cl hr4 pass0 (pe_fld (pv 3) rfl)) (pv 0) (fun _ _ => rfl)))
      (pss_cons (ps_if (pt_cmpR op_ne (pe_callB call_len_seq (by rfl) zLen PySem.boot_len (pa_cons (pv 2) pa_nil)) (pe_op op_mul (pe_op op_mul (pv 4) (pe_fld (pv 5) rfl)) (pe_fld (pv 5) rfl)) (nomark _)) (pss_one (ps_raise plain_cx rfl rfl cO)) pss_nil)
      (pss_cons (ps_set (i := 6) scPut.nd rfl (Or.inl rfl) (pe_callTy call_list_of (by rfl) zL boot_list (pa_cons (pe_fld (pv 3) rfl) pa_nil)))
      (pss_cons (ps_asg (pe_f0 oK hr rfl (pa_cons (pv 2) (pa_cons (pv 4) (pa_cons (pe_fld (pv 5) rfl) (pa_cons (pe_fld (pv 5) rfl) (pa_cons (pe_fld (pe_fld (pv 3) rfl) rfl) pa_nil)))))) (pg_sub (pv 6) (pv 0) set_list))
      (pss_cons (ps_set (i := 7) scPut.nd rfl (Or.inl rfl) (pe_f0 oR hr3 rfl (pa_cons (pe_fld (pv 3) rfl) (pa_cons (pv 6) pa_nil))))
      (pss_one (ps_ret (pe_op op_cat (pe_lst (pa_cons (pe_callB call_len_seq (by rfl) zLen PySem.boot_len (pa_cons (pv 7) pa_nil)) pa_nil)) (pv 7))))))))))))), ?_⟩
    refine ⟨_, rfl, a1, b, rfl, hS1, hb, hl, ?_⟩
    refine ⟨_, rfl, a2, n, rfl, hS2, _, rfl, ?_⟩
    cases hn : allIn 0 65535 n with
    | false => exact iteT (k2 (putDue_num hn) _)
    | true =>
      have hnum : NumOk n := fun z hz => ⟨(allIn_iff.mp hn).1 z hz, (allIn_iff.mp hn).2 z hz⟩
      refine iteF ?_
      refine ⟨_, rfl, a1, b, rfl, hS1, hb, by omega, fun f l ho p H1 s1 pa => ?_, fun hno H1 s1 => k3 (putDue_none hn hno) H1⟩
      obtain ⟨fok, ltl⟩ := headOf_tiles hb ho
      obtain ⟨lby, lfl⟩ := headOf_codes hb ho
      refine ⟨_, rfl, _, rfl, t, p, f, l, rfl, pa, fun ht => ?_, fun ht H2 s2 => k2 (putDue_t hn ho (by rw [ltl] at ht; exact ht)) H2⟩
      rw [ltl] at ht
      obtain ⟨dx, hp, ca, g1, hd, L1⟩ := pa.ex
      obtain ⟨dh, gh⟩ := id hd
      refine ⟨_, rfl, p, CP, dx, _, _, rfl, g1, TP.cl, TP.nh, partsF_head .., hp, CH, dh, _, _, rfl, gh, TH.cl, TH.nk, headF_k .., ?_⟩
      refine ⟨_, rfl, p, CP, dx, _, _, rfl, g1, TP.cl, TP.nh, partsF_head .., hp, dh, _, rfl, gh, headF_no _ _ _ _ _ (by decide +kernel) (by decide +kernel) (by decide +kernel) (by decide +kernel) (by decide +kernel), hp, f, rfl, hd, fok, fun pl H2 s2 n2 L2' => ?_⟩
      obtain ⟨prefs, q1, q2, q0, q3⟩ := id L2'
      have hti : t.toNat < f.tiles := by omega
      have ep := places_get fok hti
      have hpi : t.toNat < prefs.length := by
        have := (List.getElem?_eq_some_iff.mp ep).1
        omega
      obtain ⟨dp, gp⟩ := q3 t.toNat prefs[t.toNat] _ (List.getElem?_eq_getElem hpi) ep
      have pk := part_ok fok hti
      have pw := pk.w
      have ph := pk.h
      have fk := fok.kinds
      have fv := fok.levels
      refine ⟨_, rfl, pl, _, _, _, rfl, rfl, SqL.of q1, at_of (j := t.toNat) (by omega) (by rw [List.getElem?_map, List.getElem?_eq_getElem hpi]; rfl), ?_⟩
      generalize hrp : prefs[t.toNat] = r at gp
      have sA := s1.trans s2
      refine ⟨_, rfl, a2, _, rfl, .inl (sA.seq hS2), _, rfl, _, rfl, r, CPl, dp, _, _, rfl, gp, TPl.cl, TPl.nw, placeF_w .., _, _, rfl, rfl, .inl ⟨by omega, by omega⟩, _, rfl, r, CPl, dp, _, _, rfl, gp, TPl.cl, TPl.nh, placeF_h .., _, _, rfl, rfl, .inr ⟨by omega, by omega⟩, rfl, _, rfl, ?_⟩
      have emul : (f.kinds : Int) * ((f.part t.toNat).w : Int) * ((f.part t.toNat).h : Int) = ((f.kinds * (f.part t.toNat).w * (f.part t.toNat).h : Nat) : Int) := by rw [Int.natCast_mul, Int.natCast_mul]
      by_cases hlen : n.length = f.kinds * (f.part t.toNat).w * (f.part t.toNat).h
      · refine br_f (show (!decide (V.int (((n.map V.int).length : Nat) : Int) = V.int ((f.kinds : Int) * ((f.part t.toNat).w : Int) * ((f.part t.toNat).h : Int)))) = false by rw [emul, List.length_map, hlen]; simp) ?_
        obtain ⟨refs, r1, r2, r0, r3⟩ := id L1
        refine ⟨_, rfl, p, CP, dx, _, _, rfl, s2 _ _ g1, TP.cl, TP.nc, partsF_codes .., ca, _, rfl, .inl (SqL.of (s2 _ _ r1)), fun cl hcl => ?_⟩
        have s3 := same_upd (o := .lst (refs.map V.ref)) hcl
        have gp3 := s3 _ _ gp
        have sB := s2.trans s3
        refine ⟨_, rfl, _, rfl, _, rfl, r, CPl, dp, _, _, rfl, gp3, TPl.cl, TPl.nw, placeF_w .., _, rfl, r, CPl, dp, _, _, rfl, gp3, TPl.cl, TPl.nh, placeF_h .., _, rfl, p, CP, dx, _, _, rfl, sB _ _ g1, TP.cl, TP.nh, partsF_head .., hp, CH, dh, _, _, rfl, sB _ _ gh, TH.cl, TH.nv, headF_v .., a2, n, f.kinds, (f.part t.toNat).w, (f.part t.toNat).h, f.levels, rfl, (sA.trans s3).seq hS2, ⟨fk, pw, ph, fv, hlen, hnum⟩, fun tc H4 s4 n4 g4 => ?_⟩
        refine ⟨_, rfl, _, rfl, cl, _, t, t.toNat, rfl, rfl, s4 _ _ upd_same, ixN_of ht.1 (by rw [List.length_map, r2, ltl]; exact ht.2), ?_⟩
        have sC : Same H1 H4 := sB.trans s4
        have hclN : H2 cl = none := hcl
        have clH1 : ∀ {x : Addr} {o : HO}, H1 x = some o → x ≠ cl := fun e => ne_of_none (s2 _ _ e) hcl
        have rne : ∀ y ∈ refs, y ≠ cl := fun y hy => by
          obtain ⟨i, hi, rfl⟩ := List.getElem_of_mem hy
          exact clH1 (r3 i _ _ (List.getElem?_eq_getElem hi) (List.getElem?_eq_getElem (by omega)))
        have tcne : tc ≠ cl := (ne_of_none (upd_same (H := H2) (a := cl) (o := .lst (refs.map V.ref))) n4).symm
        have L5 := codes_set (H := H4) (q := cl) (tc := tc) (i := t.toNat) (c := Sp21.tileCode f.kinds (f.part t.toNat).w (f.part t.toNat).h f.levels n) r2 (fun j r x e1 e2 => sC _ _ (r3 j r x e1 e2)) rne g4 tcne
        have keep : ∀ {x : Addr} {o : HO}, H1 x = some o → upd H4 cl (.lst ((refs.map V.ref).set t.toNat (.ref tc))) x = some o := fun e => by rw [upd_ne (clH1 e)]; exact sC _ _ e
        have g15 := keep g1
        have gh5 := keep gh
        generalize upd H4 cl (.lst ((refs.map V.ref).set t.toNat (.ref tc))) = H5 at L5 g15 gh5 ⊢
        have hbyte := tileCode_byte (kinds := f.kinds) (levels := f.levels) (l := n) pw.1 ph.1
        have hclen := tileCode_length_le (kinds := f.kinds) (levels := f.levels) (l := n) pw.1 ph.1
        have hn4 : n.length ≤ 262144 := by
          rw [hlen, Nat.mul_assoc]
          exact Nat.mul_le_mul fk.2 (Nat.mul_le_mul pw.2 ph.2)
        have hfl := flatten_set_le (l := l) (c := Sp21.tileCode f.kinds (f.part t.toNat).w (f.part t.toNat).h f.levels n) (i := t.toNat)
        have hby : ∀ x ∈ l.set t.toNat (Sp21.tileCode f.kinds (f.part t.toNat).w (f.part t.toNat).h f.levels n), Bytes x := fun x hx => by
          rcases List.mem_or_eq_of_mem_set hx with h | h
          · exact lby x h
          · rw [h]; exact hbyte
        have htl := tiles_le fok
        have due := putDue_ok hn ho ht hlen
        rw [← framed_eq fok hby] at due
        have hsl : (l.set t.toNat (Sp21.tileCode f.kinds (f.part t.toNat).w (f.part t.toNat).h f.levels n)).length ≤ 256 := by rw [List.length_set, ltl]; exact htl
        generalize hcs : l.set t.toNat (Sp21.tileCode f.kinds (f.part t.toNat).w (f.part t.toNat).h f.levels n) = cs at L5 hby hfl due hsl
        refine ⟨_, rfl, p, CP, dx, _, _, rfl, g15, TP.cl, TP.nh, partsF_head .., _, rfl, hp, cl, f, cs, rfl, ⟨dh, gh5⟩, fok, L5, hby, by omega, by omega, fun fr H6 s6 n6 g6 => ?_⟩
        have hfrl : (TW.framed f cs).length ≤ 15600000 := by
          unfold TW.framed
          dsimp only
          rw [List.length_append, List.length_append, List.length_append, lowest_len, flatMap_length_const (n := 3) (fun t _ => lowest_len _ _)]
          have : (Sp21.front f).length = 9 := rfl
          omega
        refine ⟨_, rfl, fr, _, rfl, .inl (SqL.of g6), (by show 1 ≤ sizeLine; decide), fun q hq => ?_⟩
        refine ⟨_, rfl, q, fr, _, _, rfl, rfl, upd_same, (same_upd hq) _ _ g6, ?_, fun r hr2 => k1 _ due r _ ?_⟩
        · rw [B_len]
          exact line_ge (by show 1 + _ ≤ 16000000; omega)
        · rw [upd_same, B_len]
          rfl
      · refine br_t (show (!decide (V.int (((n.map V.int).length : Nat) : Int) = V.int ((f.kinds : Int) * ((f.part t.toNat).w : Int) * ((f.part t.toNat).h : Int)))) = true by rw [emul, List.length_map, decide_eq_false (fun z => hlen (by have := V.int.inj z; omega))]; rfl) ?_
        exact k2 (putDue_l hn ho hlen) _
def spMain (K : PySem.W.Frag) : Sp := fun vs H Q _ => ∃ (t : Int) (a1 a2 : Addr) (xs n : List Int), vs = [.int t, .ref a1, .ref a2] ∧ SqL K H a1 (xs.map V.int) ∧ SqL K H a2 (n.map V.int) ∧ xs.length ≤ 100000 ∧ (∀ n ∈ xs, 0 ≤ n ∧ n ≤ 255) ∧ ∀ p H', H' p = some (.lst ((PySp21.put t xs n).map V.int)) → Q (.ref p) H'
theorem due (t : Int) (b : List Nat) (n : List Int) (hb : Bytes b) (h1 : b.length ≤ 1048576) : PySp21.put t (Sp21.ints b) n = (putDue t b n).ans := by
  show (Sp21.spec (.put (Sp21Neutral.nats (Sp21.ints b)) t n)).v :: (Sp21.spec (.put (Sp21Neutral.nats (Sp21.ints b)) t n)).out = _
  rw [nats_ints]
  unfold Sp21.spec putDue
  dsimp only
  rw [bytesOk_of hb h1, Bool.true_and]
  by_cases hn : Sp21.numbersOk n = false
  · rw [if_pos hn, if_pos hn]
    rfl
  · rw [if_neg hn, if_neg hn]
    cases e1 : Sp21.headOf b with
    | none => rfl
    | some x =>
      obtain ⟨f, l⟩ := x
      dsimp only
      by_cases ht : Sp21.upTo t 0 ((f.tiles : Int) - 1) = false
      · rw [if_pos ht, if_pos ht]
        rfl
      · rw [if_neg ht, if_neg ht]
        by_cases hl : n.length ≠ f.kinds * (f.part t.toNat).w * (f.part t.toNat).h
        · rw [if_pos hl, if_pos hl]
          rfl
        · rw [if_neg hl, if_neg hl]
          rfl
theorem scMain : FnScope ["t", "coded", "numbers"] ["t", "coded", "numbers"] (defScope sMain) := ⟨rfl, rfl, rfl, by decide +kernel, rfl, by decide +kernel, by decide +kernel⟩
theorem ok_main {f CO CN : Addr} {fd : FuncData} (F : Fun K "put" "put" sMain f fd) (cO : ExcAt K mg "OutOfRange" CO) (cN : ExcAt K mg "NotACode" CN) (e11 : PySem.W.exmOne K (.ref CO) (.ref CO) = some true) (e21 : PySem.W.exmOne K (.ref CN) (.ref CO) = some false) (e22 : PySem.W.exmOne K (.ref CN) (.ref CN) = some true)
    (oA : OkF P w K mg base (CX1 P w) 7 "put_answer" ["t", "coded", "numbers"] (spPutAnswer K CO CN)) : FnOk P w K mg base CX0 8 f fd ["t", "coded", "numbers"] (spMain K) := by
  refine Fun.ok0 F scMain (fun vs H Q E h => ?_) (fun cdv A outer s H vs Q E hr h X hX => ?_)
  · obtain ⟨t, a1, a2, xs, n, rfl, _⟩ := h
    rfl
  · subst hX
    obtain ⟨t, a1, a2, xs, n, rfl, hS1, hS2, hl1, hb1, k⟩ := h
    obtain ⟨b, rfl, hb, hlb⟩ := nat_bytes hb1
    rw [due t b n hb (by omega)] at k
    refine ⟨_, pss_try (E2 := fun cls _ _ => (cls = .ref CO ∧ putDue t b n = .out) ∨ (cls = .ref CN ∧ putDue t b n = .nota)) ⟨rfl, rfl, rfl, rfl⟩ rfl rfl rfl rfl cO.mg cN.mg e11 e21 e22 (pss_one (ps_ret (pe_f oA hr rfl (passes1 ⟨rfl, rfl, rfl, rfl⟩) (pa_cons (pv 0) (pa_cons (pv 1) (pa_cons (pv 2) pa_nil))))))
      (fun e => pss_one (ps_ret (pe_lst (pa_cons (pe_un un_neg pe_int) pa_nil)))) (fun e => pss_one (ps_ret (pe_lst (pa_cons (pe_un un_neg pe_int) pa_nil)))), ?_⟩
    refine ⟨⟨_, rfl, _, rfl, _, rfl, t, a1, a2, b, n, rfl, hS1, hS2, hb, by omega, fun r hr' p H' g => ?_, fun hn H' => .inl ⟨rfl, hn⟩, fun hn H' => .inr ⟨rfl, hn⟩⟩, fun cls d H' z => ?_⟩
    · rw [hr'] at k
      exact k p H' g
    · rcases z with ⟨e, hn⟩ | ⟨e, hn⟩
      · rw [hn] at k
        refine .inl ⟨e, _, rfl, (by show 1 ≤ sizeLine; decide), fun p hp => k p _ ?_⟩
        rw [upd_same]
        rfl
      · rw [hn] at k
        refine .inr ⟨e, _, rfl, (by show 1 ≤ sizeLine; decide), fun p hp => k p _ ?_⟩
        rw [upd_same]
        rfl
end

theorem all_mk {P : Program} {w : World} {K : PySem.W.Frag} {h : Heap} {mg : Str → Option Value} {fa : Addr} (X : K.In h) (G : h.Ns mainGlobals mg) (hfa : mg "put" = some (.ref fa))
    {fF0 : Addr} {odF0 anF0 : Option Addr} {slF0 : Array (Option Value)} {ocF0 kVF0 dcF0 pmF0 cdF0 ctF0 : Value}
    {fF1 : Addr} {odF1 anF1 : Option Addr} {slF1 : Array (Option Value)} {ocF1 kVF1 dcF1 pmF1 cdF1 ctF1 : Value}
    {fF2 : Addr} {odF2 anF2 : Option Addr} {slF2 : Array (Option Value)} {ocF2 kVF2 dcF2 pmF2 cdF2 ctF2 : Value}
    {fF3 : Addr} {odF3 anF3 : Option Addr} {slF3 : Array (Option Value)} {ocF3 kVF3 dcF3 pmF3 cdF3 ctF3 : Value}
    {fF4 : Addr} {odF4 anF4 : Option Addr} {slF4 : Array (Option Value)} {ocF4 kVF4 dcF4 pmF4 cdF4 ctF4 : Value}
    {fF5 : Addr} {odF5 anF5 : Option Addr} {slF5 : Array (Option Value)} {ocF5 kVF5 dcF5 pmF5 cdF5 ctF5 : Value}
    {fF6 : Addr} {odF6 anF6 : Option Addr} {slF6 : Array (Option Value)} {ocF6 kVF6 dcF6 pmF6 cdF6 ctF6 : Value}
    {fF7 : Addr} {odF7 anF7 : Option Addr} {slF7 : Array (Option Value)} {ocF7 kVF7 dcF7 pmF7 cdF7 ctF7 : Value}
    {fF8 : Addr} {odF8 anF8 : Option Addr} {slF8 : Array (Option Value)} {ocF8 kVF8 dcF8 pmF8 cdF8 ctF8 : Value}
    {fF9 : Addr} {odF9 anF9 : Option Addr} {slF9 : Array (Option Value)} {ocF9 kVF9 dcF9 pmF9 cdF9 ctF9 : Value}
    {fF10 : Addr} {odF10 anF10 : Option Addr} {slF10 : Array (Option Value)} {ocF10 kVF10 dcF10 pmF10 cdF10 ctF10 : Value}
    {fF11 : Addr} {odF11 anF11 : Option Addr} {slF11 : Array (Option Value)} {ocF11 kVF11 dcF11 pmF11 cdF11 ctF11 : Value}
    {fF12 : Addr} {odF12 anF12 : Option Addr} {slF12 : Array (Option Value)} {ocF12 kVF12 dcF12 pmF12 cdF12 ctF12 : Value}
    {fF13 : Addr} {odF13 anF13 : Option Addr} {slF13 : Array (Option Value)} {ocF13 kVF13 dcF13 pmF13 cdF13 ctF13 : Value}
    {fF14 : Addr} {odF14 anF14 : Option Addr} {slF14 : Array (Option Value)} {ocF14 kVF14 dcF14 pmF14 cdF14 ctF14 : Value}
    {fF15 : Addr} {odF15 anF15 : Option Addr} {slF15 : Array (Option Value)} {ocF15 kVF15 dcF15 pmF15 cdF15 ctF15 : Value}
    {fF16 : Addr} {odF16 anF16 : Option Addr} {slF16 : Array (Option Value)} {ocF16 kVF16 dcF16 pmF16 cdF16 ctF16 : Value}
    {fF17 : Addr} {odF17 anF17 : Option Addr} {slF17 : Array (Option Value)} {ocF17 kVF17 dcF17 pmF17 cdF17 ctF17 : Value}
    {fF18 : Addr} {odF18 anF18 : Option Addr} {slF18 : Array (Option Value)} {ocF18 kVF18 dcF18 pmF18 cdF18 ctF18 : Value}
    {fF19 : Addr} {odF19 anF19 : Option Addr} {slF19 : Array (Option Value)} {ocF19 kVF19 dcF19 pmF19 cdF19 ctF19 : Value}
    {fF20 : Addr} {odF20 anF20 : Option Addr} {slF20 : Array (Option Value)} {ocF20 kVF20 dcF20 pmF20 cdF20 ctF20 : Value}
    {fF21 : Addr} {odF21 anF21 : Option Addr} {slF21 : Array (Option Value)} {ocF21 kVF21 dcF21 pmF21 cdF21 ctF21 : Value}
    {fF22 : Addr} {odF22 anF22 : Option Addr} {slF22 : Array (Option Value)} {ocF22 kVF22 dcF22 pmF22 cdF22 ctF22 : Value}
    {fF23 : Addr} {odF23 anF23 : Option Addr} {slF23 : Array (Option Value)} {ocF23 kVF23 dcF23 pmF23 cdF23 ctF23 : Value}
    {fF24 : Addr} {odF24 anF24 : Option Addr} {slF24 : Array (Option Value)} {ocF24 kVF24 dcF24 pmF24 cdF24 ctF24 : Value}
    {fF25 : Addr} {odF25 anF25 : Option Addr} {slF25 : Array (Option Value)} {ocF25 kVF25 dcF25 pmF25 cdF25 ctF25 : Value}
    {fF26 : Addr} {odF26 anF26 : Option Addr} {slF26 : Array (Option Value)} {ocF26 kVF26 dcF26 pmF26 cdF26 ctF26 : Value}
    {fF27 : Addr} {odF27 anF27 : Option Addr} {slF27 : Array (Option Value)} {ocF27 kVF27 dcF27 pmF27 cdF27 ctF27 : Value}
    {fF28 : Addr} {odF28 anF28 : Option Addr} {slF28 : Array (Option Value)} {ocF28 kVF28 dcF28 pmF28 cdF28 ctF28 : Value}
    {fF29 : Addr} {odF29 anF29 : Option Addr} {slF29 : Array (Option Value)} {ocF29 kVF29 dcF29 pmF29 cdF29 ctF29 : Value}
    {fF30 : Addr} {odF30 anF30 : Option Addr} {slF30 : Array (Option Value)} {ocF30 kVF30 dcF30 pmF30 cdF30 ctF30 : Value}
    {fF31 : Addr} {odF31 anF31 : Option Addr} {slF31 : Array (Option Value)} {ocF31 kVF31 dcF31 pmF31 cdF31 ctF31 : Value}
    {fF32 : Addr} {odF32 anF32 : Option Addr} {slF32 : Array (Option Value)} {ocF32 kVF32 dcF32 pmF32 cdF32 ctF32 : Value}
    {fF33 : Addr} {odF33 anF33 : Option Addr} {slF33 : Array (Option Value)} {ocF33 kVF33 dcF33 pmF33 cdF33 ctF33 : Value}
    {fF34 : Addr} {odF34 anF34 : Option Addr} {slF34 : Array (Option Value)} {ocF34 kVF34 dcF34 pmF34 cdF34 ctF34 : Value}
    {fF35 : Addr} {odF35 anF35 : Option Addr} {slF35 : Array (Option Value)} {ocF35 kVF35 dcF35 pmF35 cdF35 ctF35 : Value}
    {fF36 : Addr} {odF36 anF36 : Option Addr} {slF36 : Array (Option Value)} {ocF36 kVF36 dcF36 pmF36 cdF36 ctF36 : Value}
    {CPlace : Addr}
    {fM37 : Addr} {odM37 anM37 : Option Addr} {slM37 : Array (Option Value)} {ocM37 kVM37 dcM37 pmM37 cdM37 ctM37 : Value}
    {CHead : Addr}
    {fM38 : Addr} {odM38 anM38 : Option Addr} {slM38 : Array (Option Value)} {ocM38 kVM38 dcM38 pmM38 cdM38 ctM38 : Value}
    {fM39 : Addr} {odM39 anM39 : Option Addr} {slM39 : Array (Option Value)} {ocM39 kVM39 dcM39 pmM39 cdM39 ctM39 : Value}
    {fM40 : Addr} {odM40 anM40 : Option Addr} {slM40 : Array (Option Value)} {ocM40 kVM40 dcM40 pmM40 cdM40 ctM40 : Value}
    {fM41 : Addr} {odM41 anM41 : Option Addr} {slM41 : Array (Option Value)} {ocM41 kVM41 dcM41 pmM41 cdM41 ctM41 : Value}
    {CParts : Addr}
    {fM42 : Addr} {odM42 anM42 : Option Addr} {slM42 : Array (Option Value)} {ocM42 kVM42 dcM42 pmM42 cdM42 ctM42 : Value}
    {CBitWriter : Addr}
    {fM43 : Addr} {odM43 anM43 : Option Addr} {slM43 : Array (Option Value)} {ocM43 kVM43 dcM43 pmM43 cdM43 ctM43 : Value}
    {fM44 : Addr} {odM44 anM44 : Option Addr} {slM44 : Array (Option Value)} {ocM44 kVM44 dcM44 pmM44 cdM44 ctM44 : Value}
    {fM45 : Addr} {odM45 anM45 : Option Addr} {slM45 : Array (Option Value)} {ocM45 kVM45 dcM45 pmM45 cdM45 ctM45 : Value}
    {CPace : Addr}
    {fM46 : Addr} {odM46 anM46 : Option Addr} {slM46 : Array (Option Value)} {ocM46 kVM46 dcM46 pmM46 cdM46 ctM46 : Value}
    {fM47 : Addr} {odM47 anM47 : Option Addr} {slM47 : Array (Option Value)} {ocM47 kVM47 dcM47 pmM47 cdM47 ctM47 : Value}
    {fM48 : Addr} {odM48 anM48 : Option Addr} {slM48 : Array (Option Value)} {ocM48 kVM48 dcM48 pmM48 cdM48 ctM48 : Value}
    {COutOfRange : Addr}
    {CNotACode : Addr}
    {tHEAD_LENGTH : Tok}
    {tCRC_LENGTH : Tok}
    {tMOST_LEVELS : Tok}
    {tALL_ONES : Tok}
    {tCRC_WORD : Tok}
    {tHIGHEST : Tok}
    {tHIGHEST_BYTE : Tok}
    {tMOST_BYTES : Tok}
    {tLONGEST : Tok}
    {AFIRST_BYTES : Addr} {odFIRST_BYTES : Option Addr} {nFIRST_BYTES : Nat} {slFIRST_BYTES : Array (Option Value)} {tFIRST_BYTES0 tFIRST_BYTES1 tFIRST_BYTES2 tFIRST_BYTES3 : Tok}
    (aF0 : PySem.W.nsIn K mainGlobals "half" = some (some (.ref fF0))) (lF0 : K.lookup fF0 = some ⟨ocF0, odF0, .func (PySem.W.fnOf "half" "half" (defArgs sHalf) (defBody sHalf) (defScope sHalf) .none kVF0 dcF0 pmF0 anF0 cdF0 ctF0), slF0⟩) (cF0 : PySem.W.codeIn K cdF0 "half" = true) (kF0 : PySem.W.keepIn K (.ref fF0) = true)
    (aF1 : PySem.W.nsIn K mainGlobals "right_of_odds" = some (some (.ref fF1))) (lF1 : K.lookup fF1 = some ⟨ocF1, odF1, .func (PySem.W.fnOf "right_of_odds" "right_of_odds" (defArgs sRight) (defBody sRight) (defScope sRight) .none kVF1 dcF1 pmF1 anF1 cdF1 ctF1), slF1⟩) (cF1 : PySem.W.codeIn K cdF1 "right_of_odds" = true) (kF1 : PySem.W.keepIn K (.ref fF1) = true)
    (aF2 : PySem.W.nsIn K mainGlobals "lifts" = some (some (.ref fF2))) (lF2 : K.lookup fF2 = some ⟨ocF2, odF2, .func (PySem.W.fnOf "lifts" "lifts" (defArgs sLifts) (defBody sLifts) (defScope sLifts) .none kVF2 dcF2 pmF2 anF2 cdF2 ctF2), slF2⟩) (cF2 : PySem.W.codeIn K cdF2 "lifts" = true) (kF2 : PySem.W.keepIn K (.ref fF2) = true)
    (aF3 : PySem.W.nsIn K mainGlobals "halve_row" = some (some (.ref fF3))) (lF3 : K.lookup fF3 = some ⟨ocF3, odF3, .func (PySem.W.fnOf "halve_row" "halve_row" (defArgs sHalveRow) (defBody sHalveRow) (defScope sHalveRow) .none kVF3 dcF3 pmF3 anF3 cdF3 ctF3), slF3⟩) (cF3 : PySem.W.codeIn K cdF3 "halve_row" = true) (kF3 : PySem.W.keepIn K (.ref fF3) = true)
    (aF4 : PySem.W.nsIn K mainGlobals "column_at" = some (some (.ref fF4))) (lF4 : K.lookup fF4 = some ⟨ocF4, odF4, .func (PySem.W.fnOf "column_at" "column_at" (defArgs sColumn) (defBody sColumn) (defScope sColumn) .none kVF4 dcF4 pmF4 anF4 cdF4 ctF4), slF4⟩) (cF4 : PySem.W.codeIn K cdF4 "column_at" = true) (kF4 : PySem.W.keepIn K (.ref fF4) = true)
    (aF5 : PySem.W.nsIn K mainGlobals "turned" = some (some (.ref fF5))) (lF5 : K.lookup fF5 = some ⟨ocF5, odF5, .func (PySem.W.fnOf "turned" "turned" (defArgs sTurned) (defBody sTurned) (defScope sTurned) .none kVF5 dcF5 pmF5 anF5 cdF5 ctF5), slF5⟩) (cF5 : PySem.W.codeIn K cdF5 "turned" = true) (kF5 : PySem.W.keepIn K (.ref fF5) = true)
    (aF6 : PySem.W.nsIn K mainGlobals "halve_corner" = some (some (.ref fF6))) (lF6 : K.lookup fF6 = some ⟨ocF6, odF6, .func (PySem.W.fnOf "halve_corner" "halve_corner" (defArgs sHalveCorner) (defBody sHalveCorner) (defScope sHalveCorner) .none kVF6 dcF6 pmF6 anF6 cdF6 ctF6), slF6⟩) (cF6 : PySem.W.codeIn K cdF6 "halve_corner" = true) (kF6 : PySem.W.keepIn K (.ref fF6) = true)
    (aF7 : PySem.W.nsIn K mainGlobals "tile_places" = some (some (.ref fF7))) (lF7 : K.lookup fF7 = some ⟨ocF7, odF7, .func (PySem.W.fnOf "tile_places" "tile_places" (defArgs sPlaces) (defBody sPlaces) (defScope sPlaces) .none kVF7 dcF7 pmF7 anF7 cdF7 ctF7), slF7⟩) (cF7 : PySem.W.codeIn K cdF7 "tile_places" = true) (kF7 : PySem.W.keepIn K (.ref fF7) = true)
    (aF8 : PySem.W.nsIn K mainGlobals "lowest_first" = some (some (.ref fF8))) (lF8 : K.lookup fF8 = some ⟨ocF8, odF8, .func (PySem.W.fnOf "lowest_first" "lowest_first" (defArgs sLowest) (defBody sLowest) (defScope sLowest) .none kVF8 dcF8 pmF8 anF8 cdF8 ctF8), slF8⟩) (cF8 : PySem.W.codeIn K cdF8 "lowest_first" = true) (kF8 : PySem.W.keepIn K (.ref fF8) = true)
    (aF9 : PySem.W.nsIn K mainGlobals "number_of" = some (some (.ref fF9))) (lF9 : K.lookup fF9 = some ⟨ocF9, odF9, .func (PySem.W.fnOf "number_of" "number_of" (defArgs sNumber) (defBody sNumber) (defScope sNumber) .none kVF9 dcF9 pmF9 anF9 cdF9 ctF9), slF9⟩) (cF9 : PySem.W.codeIn K cdF9 "number_of" = true) (kF9 : PySem.W.keepIn K (.ref fF9) = true)
    (aF10 : PySem.W.nsIn K mainGlobals "crc_table" = some (some (.ref fF10))) (lF10 : K.lookup fF10 = some ⟨ocF10, odF10, .func (PySem.W.fnOf "crc_table" "crc_table" (defArgs sCrcTable) (defBody sCrcTable) (defScope sCrcTable) .none kVF10 dcF10 pmF10 anF10 cdF10 ctF10), slF10⟩) (cF10 : PySem.W.codeIn K cdF10 "crc_table" = true) (kF10 : PySem.W.keepIn K (.ref fF10) = true)
    (aF11 : PySem.W.nsIn K mainGlobals "crc_of" = some (some (.ref fF11))) (lF11 : K.lookup fF11 = some ⟨ocF11, odF11, .func (PySem.W.fnOf "crc_of" "crc_of" (defArgs sCrcOf) (defBody sCrcOf) (defScope sCrcOf) .none kVF11 dcF11 pmF11 anF11 cdF11 ctF11), slF11⟩) (cF11 : PySem.W.codeIn K cdF11 "crc_of" = true) (kF11 : PySem.W.keepIn K (.ref fF11) = true)
    (aF12 : PySem.W.nsIn K mainGlobals "framed" = some (some (.ref fF12))) (lF12 : K.lookup fF12 = some ⟨ocF12, odF12, .func (PySem.W.fnOf "framed" "framed" (defArgs sFramed) (defBody sFramed) (defScope sFramed) .none kVF12 dcF12 pmF12 anF12 cdF12 ctF12), slF12⟩) (cF12 : PySem.W.codeIn K cdF12 "framed" = true) (kF12 : PySem.W.keepIn K (.ref fF12) = true)
    (aF13 : PySem.W.nsIn K mainGlobals "head_of" = some (some (.ref fF13))) (lF13 : K.lookup fF13 = some ⟨ocF13, odF13, .func (PySem.W.fnOf "head_of" "head_of" (defArgs sHeadOf) (defBody sHeadOf) (defScope sHeadOf) .none kVF13 dcF13 pmF13 anF13 cdF13 ctF13), slF13⟩) (cF13 : PySem.W.codeIn K cdF13 "head_of" = true) (kF13 : PySem.W.keepIn K (.ref fF13) = true)
    (aF14 : PySem.W.nsIn K mainGlobals "table_of" = some (some (.ref fF14))) (lF14 : K.lookup fF14 = some ⟨ocF14, odF14, .func (PySem.W.fnOf "table_of" "table_of" (defArgs sTable) (defBody sTable) (defScope sTable) .none kVF14 dcF14 pmF14 anF14 cdF14 ctF14), slF14⟩) (cF14 : PySem.W.codeIn K cdF14 "table_of" = true) (kF14 : PySem.W.keepIn K (.ref fF14) = true)
    (aF15 : PySem.W.nsIn K mainGlobals "tile_codes_of" = some (some (.ref fF15))) (lF15 : K.lookup fF15 = some ⟨ocF15, odF15, .func (PySem.W.fnOf "tile_codes_of" "tile_codes_of" (defArgs sTiles) (defBody sTiles) (defScope sTiles) .none kVF15 dcF15 pmF15 anF15 cdF15 ctF15), slF15⟩) (cF15 : PySem.W.codeIn K cdF15 "tile_codes_of" = true) (kF15 : PySem.W.keepIn K (.ref fF15) = true)
    (aF16 : PySem.W.nsIn K mainGlobals "opened" = some (some (.ref fF16))) (lF16 : K.lookup fF16 = some ⟨ocF16, odF16, .func (PySem.W.fnOf "opened" "opened" (defArgs sOpened) (defBody sOpened) (defScope sOpened) .none kVF16 dcF16 pmF16 anF16 cdF16 ctF16), slF16⟩) (cF16 : PySem.W.codeIn K cdF16 "opened" = true) (kF16 : PySem.W.keepIn K (.ref fF16) = true)
    (aF17 : PySem.W.nsIn K mainGlobals "all_between" = some (some (.ref fF17))) (lF17 : K.lookup fF17 = some ⟨ocF17, odF17, .func (PySem.W.fnOf "all_between" "all_between" (defArgs sBetween) (defBody sBetween) (defScope sBetween) .none kVF17 dcF17 pmF17 anF17 cdF17 ctF17), slF17⟩) (cF17 : PySem.W.codeIn K cdF17 "all_between" = true) (kF17 : PySem.W.keepIn K (.ref fF17) = true)
    (aF18 : PySem.W.nsIn K mainGlobals "numbers_in_range" = some (some (.ref fF18))) (lF18 : K.lookup fF18 = some ⟨ocF18, odF18, .func (PySem.W.fnOf "numbers_in_range" "numbers_in_range" (defArgs sNumbersIn) (defBody sNumbersIn) (defScope sNumbersIn) .none kVF18 dcF18 pmF18 anF18 cdF18 ctF18), slF18⟩) (cF18 : PySem.W.codeIn K cdF18 "numbers_in_range" = true) (kF18 : PySem.W.keepIn K (.ref fF18) = true)
    (aF19 : PySem.W.nsIn K mainGlobals "check_bytes" = some (some (.ref fF19))) (lF19 : K.lookup fF19 = some ⟨ocF19, odF19, .func (PySem.W.fnOf "check_bytes" "check_bytes" (defArgs sCheck) (defBody sCheck) (defScope sCheck) .none kVF19 dcF19 pmF19 anF19 cdF19 ctF19), slF19⟩) (cF19 : PySem.W.codeIn K cdF19 "check_bytes" = true) (kF19 : PySem.W.keepIn K (.ref fF19) = true)
    (aF20 : PySem.W.nsIn K mainGlobals "flat" = some (some (.ref fF20))) (lF20 : K.lookup fF20 = some ⟨ocF20, odF20, .func (PySem.W.fnOf "flat" "flat" (defArgs sFlat) (defBody sFlat) (defScope sFlat) .none kVF20 dcF20 pmF20 anF20 cdF20 ctF20), slF20⟩) (cF20 : PySem.W.codeIn K cdF20 "flat" = true) (kF20 : PySem.W.keepIn K (.ref fF20) = true)
    (aF21 : PySem.W.nsIn K mainGlobals "cut_rows" = some (some (.ref fF21))) (lF21 : K.lookup fF21 = some ⟨ocF21, odF21, .func (PySem.W.fnOf "cut_rows" "cut_rows" (defArgs sCutRows) (defBody sCutRows) (defScope sCutRows) .none kVF21 dcF21 pmF21 anF21 cdF21 ctF21), slF21⟩) (cF21 : PySem.W.codeIn K cdF21 "cut_rows" = true) (kF21 : PySem.W.keepIn K (.ref fF21) = true)
    (aF22 : PySem.W.nsIn K mainGlobals "corner_sizes" = some (some (.ref fF22))) (lF22 : K.lookup fF22 = some ⟨ocF22, odF22, .func (PySem.W.fnOf "corner_sizes" "corner_sizes" (defArgs sSizes) (defBody sSizes) (defScope sSizes) .none kVF22 dcF22 pmF22 anF22 cdF22 ctF22), slF22⟩) (cF22 : PySem.W.codeIn K cdF22 "corner_sizes" = true) (kF22 : PySem.W.keepIn K (.ref fF22) = true)
    (aF23 : PySem.W.nsIn K mainGlobals "three_bands" = some (some (.ref fF23))) (lF23 : K.lookup fF23 = some ⟨ocF23, odF23, .func (PySem.W.fnOf "three_bands" "three_bands" (defArgs sThree) (defBody sThree) (defScope sThree) .none kVF23 dcF23 pmF23 anF23 cdF23 ctF23), slF23⟩) (cF23 : PySem.W.codeIn K cdF23 "three_bands" = true) (kF23 : PySem.W.keepIn K (.ref fF23) = true)
    (aF24 : PySem.W.nsIn K mainGlobals "bands_of" = some (some (.ref fF24))) (lF24 : K.lookup fF24 = some ⟨ocF24, odF24, .func (PySem.W.fnOf "bands_of" "bands_of" (defArgs sBandsOf) (defBody sBandsOf) (defScope sBandsOf) .none kVF24 dcF24 pmF24 anF24 cdF24 ctF24), slF24⟩) (cF24 : PySem.W.codeIn K cdF24 "bands_of" = true) (kF24 : PySem.W.keepIn K (.ref fF24) = true)
    (aF25 : PySem.W.nsIn K mainGlobals "mixed" = some (some (.ref fF25))) (lF25 : K.lookup fF25 = some ⟨ocF25, odF25, .func (PySem.W.fnOf "mixed" "mixed" (defArgs sMixed) (defBody sMixed) (defScope sMixed) .none kVF25 dcF25 pmF25 anF25 cdF25 ctF25), slF25⟩) (cF25 : PySem.W.codeIn K cdF25 "mixed" = true) (kF25 : PySem.W.keepIn K (.ref fF25) = true)
    (aF26 : PySem.W.nsIn K mainGlobals "unsigned" = some (some (.ref fF26))) (lF26 : K.lookup fF26 = some ⟨ocF26, odF26, .func (PySem.W.fnOf "unsigned" "unsigned" (defArgs sUnsigned) (defBody sUnsigned) (defScope sUnsigned) .none kVF26 dcF26 pmF26 anF26 cdF26 ctF26), slF26⟩) (cF26 : PySem.W.codeIn K cdF26 "unsigned" = true) (kF26 : PySem.W.keepIn K (.ref fF26) = true)
    (aF27 : PySem.W.nsIn K mainGlobals "ones" = some (some (.ref fF27))) (lF27 : K.lookup fF27 = some ⟨ocF27, odF27, .func (PySem.W.fnOf "ones" "ones" (defArgs sOnes) (defBody sOnes) (defScope sOnes) .none kVF27 dcF27 pmF27 anF27 cdF27 ctF27), slF27⟩) (cF27 : PySem.W.codeIn K cdF27 "ones" = true) (kF27 : PySem.W.keepIn K (.ref fF27) = true)
    (aF28 : PySem.W.nsIn K mainGlobals "tell_number" = some (some (.ref fF28))) (lF28 : K.lookup fF28 = some ⟨ocF28, odF28, .func (PySem.W.fnOf "tell_number" "tell_number" (defArgs sTellNumber) (defBody sTellNumber) (defScope sTellNumber) .none kVF28 dcF28 pmF28 anF28 cdF28 ctF28), slF28⟩) (cF28 : PySem.W.codeIn K cdF28 "tell_number" = true) (kF28 : PySem.W.keepIn K (.ref fF28) = true)
    (aF29 : PySem.W.nsIn K mainGlobals "tell_band" = some (some (.ref fF29))) (lF29 : K.lookup fF29 = some ⟨ocF29, odF29, .func (PySem.W.fnOf "tell_band" "tell_band" (defArgs sTellBand) (defBody sTellBand) (defScope sTellBand) .none kVF29 dcF29 pmF29 anF29 cdF29 ctF29), slF29⟩) (cF29 : PySem.W.codeIn K cdF29 "tell_band" = true) (kF29 : PySem.W.keepIn K (.ref fF29) = true)
    (aF30 : PySem.W.nsIn K mainGlobals "planes_of" = some (some (.ref fF30))) (lF30 : K.lookup fF30 = some ⟨ocF30, odF30, .func (PySem.W.fnOf "planes_of" "planes_of" (defArgs sPlanesOf) (defBody sPlanesOf) (defScope sPlanesOf) .none kVF30 dcF30 pmF30 anF30 cdF30 ctF30), slF30⟩) (cF30 : PySem.W.codeIn K cdF30 "planes_of" = true) (kF30 : PySem.W.keepIn K (.ref fF30) = true)
    (aF31 : PySem.W.nsIn K mainGlobals "plain_code" = some (some (.ref fF31))) (lF31 : K.lookup fF31 = some ⟨ocF31, odF31, .func (PySem.W.fnOf "plain_code" "plain_code" (defArgs sPlainCode) (defBody sPlainCode) (defScope sPlainCode) .none kVF31 dcF31 pmF31 anF31 cdF31 ctF31), slF31⟩) (cF31 : PySem.W.codeIn K cdF31 "plain_code" = true) (kF31 : PySem.W.keepIn K (.ref fF31) = true)
    (aF32 : PySem.W.nsIn K mainGlobals "short_code" = some (some (.ref fF32))) (lF32 : K.lookup fF32 = some ⟨ocF32, odF32, .func (PySem.W.fnOf "short_code" "short_code" (defArgs sShortCode) (defBody sShortCode) (defScope sShortCode) .none kVF32 dcF32 pmF32 anF32 cdF32 ctF32), slF32⟩) (cF32 : PySem.W.codeIn K cdF32 "short_code" = true) (kF32 : PySem.W.keepIn K (.ref fF32) = true)
    (aF33 : PySem.W.nsIn K mainGlobals "tile_code" = some (some (.ref fF33))) (lF33 : K.lookup fF33 = some ⟨ocF33, odF33, .func (PySem.W.fnOf "tile_code" "tile_code" (defArgs sTileCode) (defBody sTileCode) (defScope sTileCode) .none kVF33 dcF33 pmF33 anF33 cdF33 ctF33), slF33⟩) (cF33 : PySem.W.codeIn K cdF33 "tile_code" = true) (kF33 : PySem.W.keepIn K (.ref fF33) = true)
    (aF34 : PySem.W.nsIn K mainGlobals "check_tile" = some (some (.ref fF34))) (lF34 : K.lookup fF34 = some ⟨ocF34, odF34, .func (PySem.W.fnOf "check_tile" "check_tile" (defArgs sCheckTile) (defBody sCheckTile) (defScope sCheckTile) .none kVF34 dcF34 pmF34 anF34 cdF34 ctF34), slF34⟩) (cF34 : PySem.W.codeIn K cdF34 "check_tile" = true) (kF34 : PySem.W.keepIn K (.ref fF34) = true)
    (aF35 : PySem.W.nsIn K mainGlobals "put_answer" = some (some (.ref fF35))) (lF35 : K.lookup fF35 = some ⟨ocF35, odF35, .func (PySem.W.fnOf "put_answer" "put_answer" (defArgs sPutAnswer) (defBody sPutAnswer) (defScope sPutAnswer) .none kVF35 dcF35 pmF35 anF35 cdF35 ctF35), slF35⟩) (cF35 : PySem.W.codeIn K cdF35 "put_answer" = true) (kF35 : PySem.W.keepIn K (.ref fF35) = true)
    (aF36 : PySem.W.nsIn K mainGlobals "put" = some (some (.ref fF36))) (lF36 : K.lookup fF36 = some ⟨ocF36, odF36, .func (PySem.W.fnOf "put" "put" (defArgs sMain) (defBody sMain) (defScope sMain) .none kVF36 dcF36 pmF36 anF36 cdF36 ctF36), slF36⟩) (cF36 : PySem.W.codeIn K cdF36 "put" = true) (kF36 : PySem.W.keepIn K (.ref fF36) = true)
    (aPlace : PySem.W.nsIn K mainGlobals "Place" = some (some (.ref CPlace))) (pgPlace : PySem.W.plainGet K CPlace Str.empty = true) (hdPlace : PySem.W.hasDictIn K CPlace = true) (poPlace : PySem.W.plainOver K CPlace = true) (saPlace : PySem.W.findIn K (.ref CPlace) "__setattr__" = some (some (.builtin "object.__setattr__"))) (mkPlace : PySem.W.makesIn K CPlace = true) (kcPlace : PySem.W.keepIn K (.ref CPlace) = true)
    (nPlace_x : PySem.W.findIn K (.ref CPlace) "x" = some none)
    (nPlace_y : PySem.W.findIn K (.ref CPlace) "y" = some none)
    (nPlace_width : PySem.W.findIn K (.ref CPlace) "width" = some none)
    (nPlace_height : PySem.W.findIn K (.ref CPlace) "height" = some none)
    (aM37 : PySem.W.findIn K (.ref CPlace) "__init__" = some (some (.ref fM37))) (iM37 : PySem.W.isFn K (.ref fM37) = true) (lM37 : K.lookup fM37 = some ⟨ocM37, odM37, .func (PySem.W.fnOf "__init__" "Place.__init__" (defArgs sInitPlace) (defBody sInitPlace) (defScope sInitPlace) .none kVM37 dcM37 pmM37 anM37 cdM37 ctM37), slM37⟩) (cM37 : PySem.W.codeIn K cdM37 "Place.__init__" = true) (kM37 : PySem.W.keepIn K (.ref fM37) = true)
    (aHead : PySem.W.nsIn K mainGlobals "Head" = some (some (.ref CHead))) (pgHead : PySem.W.plainGet K CHead Str.empty = true) (hdHead : PySem.W.hasDictIn K CHead = true) (poHead : PySem.W.plainOver K CHead = true) (saHead : PySem.W.findIn K (.ref CHead) "__setattr__" = some (some (.builtin "object.__setattr__"))) (mkHead : PySem.W.makesIn K CHead = true) (kcHead : PySem.W.keepIn K (.ref CHead) = true)
    (nHead_kinds : PySem.W.findIn K (.ref CHead) "kinds" = some none)
    (nHead_wide : PySem.W.findIn K (.ref CHead) "wide" = some none)
    (nHead_high : PySem.W.findIn K (.ref CHead) "high" = some none)
    (nHead_e : PySem.W.findIn K (.ref CHead) "e" = some none)
    (nHead_levels : PySem.W.findIn K (.ref CHead) "levels" = some none)
    (aM38 : PySem.W.findIn K (.ref CHead) "__init__" = some (some (.ref fM38))) (iM38 : PySem.W.isFn K (.ref fM38) = true) (lM38 : K.lookup fM38 = some ⟨ocM38, odM38, .func (PySem.W.fnOf "__init__" "Head.__init__" (defArgs sInitHead) (defBody sInitHead) (defScope sInitHead) .none kVM38 dcM38 pmM38 anM38 cdM38 ctM38), slM38⟩) (cM38 : PySem.W.codeIn K cdM38 "Head.__init__" = true) (kM38 : PySem.W.keepIn K (.ref fM38) = true)
    (aM39 : PySem.W.findIn K (.ref CHead) "in_range" = some (some (.ref fM39))) (iM39 : PySem.W.isFn K (.ref fM39) = true) (lM39 : K.lookup fM39 = some ⟨ocM39, odM39, .func (PySem.W.fnOf "in_range" "Head.in_range" (defArgs sInRange) (defBody sInRange) (defScope sInRange) .none kVM39 dcM39 pmM39 anM39 cdM39 ctM39), slM39⟩) (cM39 : PySem.W.codeIn K cdM39 "Head.in_range" = true) (kM39 : PySem.W.keepIn K (.ref fM39) = true)
    (aM40 : PySem.W.findIn K (.ref CHead) "head_bytes" = some (some (.ref fM40))) (iM40 : PySem.W.isFn K (.ref fM40) = true) (lM40 : K.lookup fM40 = some ⟨ocM40, odM40, .func (PySem.W.fnOf "head_bytes" "Head.head_bytes" (defArgs sHeadBytes) (defBody sHeadBytes) (defScope sHeadBytes) .none kVM40 dcM40 pmM40 anM40 cdM40 ctM40), slM40⟩) (cM40 : PySem.W.codeIn K cdM40 "Head.head_bytes" = true) (kM40 : PySem.W.keepIn K (.ref fM40) = true)
    (aM41 : PySem.W.findIn K (.ref CHead) "places" = some (some (.ref fM41))) (iM41 : PySem.W.isFn K (.ref fM41) = true) (lM41 : K.lookup fM41 = some ⟨ocM41, odM41, .func (PySem.W.fnOf "places" "Head.places" (defArgs sHeadPlaces) (defBody sHeadPlaces) (defScope sHeadPlaces) .none kVM41 dcM41 pmM41 anM41 cdM41 ctM41), slM41⟩) (cM41 : PySem.W.codeIn K cdM41 "Head.places" = true) (kM41 : PySem.W.keepIn K (.ref fM41) = true)
    (aParts : PySem.W.nsIn K mainGlobals "Parts" = some (some (.ref CParts))) (pgParts : PySem.W.plainGet K CParts Str.empty = true) (hdParts : PySem.W.hasDictIn K CParts = true) (poParts : PySem.W.plainOver K CParts = true) (saParts : PySem.W.findIn K (.ref CParts) "__setattr__" = some (some (.builtin "object.__setattr__"))) (mkParts : PySem.W.makesIn K CParts = true) (kcParts : PySem.W.keepIn K (.ref CParts) = true)
    (nParts_head : PySem.W.findIn K (.ref CParts) "head" = some none)
    (nParts_codes : PySem.W.findIn K (.ref CParts) "codes" = some none)
    (aM42 : PySem.W.findIn K (.ref CParts) "__init__" = some (some (.ref fM42))) (iM42 : PySem.W.isFn K (.ref fM42) = true) (lM42 : K.lookup fM42 = some ⟨ocM42, odM42, .func (PySem.W.fnOf "__init__" "Parts.__init__" (defArgs sInitParts) (defBody sInitParts) (defScope sInitParts) .none kVM42 dcM42 pmM42 anM42 cdM42 ctM42), slM42⟩) (cM42 : PySem.W.codeIn K cdM42 "Parts.__init__" = true) (kM42 : PySem.W.keepIn K (.ref fM42) = true)
    (aBitWriter : PySem.W.nsIn K mainGlobals "BitWriter" = some (some (.ref CBitWriter))) (pgBitWriter : PySem.W.plainGet K CBitWriter Str.empty = true) (hdBitWriter : PySem.W.hasDictIn K CBitWriter = true) (poBitWriter : PySem.W.plainOver K CBitWriter = true) (saBitWriter : PySem.W.findIn K (.ref CBitWriter) "__setattr__" = some (some (.builtin "object.__setattr__"))) (mkBitWriter : PySem.W.makesIn K CBitWriter = true) (kcBitWriter : PySem.W.keepIn K (.ref CBitWriter) = true)
    (nBitWriter_done : PySem.W.findIn K (.ref CBitWriter) "done" = some none)
    (nBitWriter_rest : PySem.W.findIn K (.ref CBitWriter) "rest" = some none)
    (nBitWriter_held : PySem.W.findIn K (.ref CBitWriter) "held" = some none)
    (aM43 : PySem.W.findIn K (.ref CBitWriter) "__init__" = some (some (.ref fM43))) (iM43 : PySem.W.isFn K (.ref fM43) = true) (lM43 : K.lookup fM43 = some ⟨ocM43, odM43, .func (PySem.W.fnOf "__init__" "BitWriter.__init__" (defArgs sInitWriter) (defBody sInitWriter) (defScope sInitWriter) .none kVM43 dcM43 pmM43 anM43 cdM43 ctM43), slM43⟩) (cM43 : PySem.W.codeIn K cdM43 "BitWriter.__init__" = true) (kM43 : PySem.W.keepIn K (.ref fM43) = true)
    (aM44 : PySem.W.findIn K (.ref CBitWriter) "tell" = some (some (.ref fM44))) (iM44 : PySem.W.isFn K (.ref fM44) = true) (lM44 : K.lookup fM44 = some ⟨ocM44, odM44, .func (PySem.W.fnOf "tell" "BitWriter.tell" (defArgs sTell) (defBody sTell) (defScope sTell) .none kVM44 dcM44 pmM44 anM44 cdM44 ctM44), slM44⟩) (cM44 : PySem.W.codeIn K cdM44 "BitWriter.tell" = true) (kM44 : PySem.W.keepIn K (.ref fM44) = true)
    (aM45 : PySem.W.findIn K (.ref CBitWriter) "all_bytes" = some (some (.ref fM45))) (iM45 : PySem.W.isFn K (.ref fM45) = true) (lM45 : K.lookup fM45 = some ⟨ocM45, odM45, .func (PySem.W.fnOf "all_bytes" "BitWriter.all_bytes" (defArgs sAllBytes) (defBody sAllBytes) (defScope sAllBytes) .none kVM45 dcM45 pmM45 anM45 cdM45 ctM45), slM45⟩) (cM45 : PySem.W.codeIn K cdM45 "BitWriter.all_bytes" = true) (kM45 : PySem.W.keepIn K (.ref fM45) = true)
    (aPace : PySem.W.nsIn K mainGlobals "Pace" = some (some (.ref CPace))) (pgPace : PySem.W.plainGet K CPace Str.empty = true) (hdPace : PySem.W.hasDictIn K CPace = true) (poPace : PySem.W.plainOver K CPace = true) (saPace : PySem.W.findIn K (.ref CPace) "__setattr__" = some (some (.builtin "object.__setattr__"))) (mkPace : PySem.W.makesIn K CPace = true) (kcPace : PySem.W.keepIn K (.ref CPace) = true)
    (nPace_a : PySem.W.findIn K (.ref CPace) "a" = some none)
    (nPace_c : PySem.W.findIn K (.ref CPace) "c" = some none)
    (aM46 : PySem.W.findIn K (.ref CPace) "__init__" = some (some (.ref fM46))) (iM46 : PySem.W.isFn K (.ref fM46) = true) (lM46 : K.lookup fM46 = some ⟨ocM46, odM46, .func (PySem.W.fnOf "__init__" "Pace.__init__" (defArgs sInitPace) (defBody sInitPace) (defScope sInitPace) .none kVM46 dcM46 pmM46 anM46 cdM46 ctM46), slM46⟩) (cM46 : PySem.W.codeIn K cdM46 "Pace.__init__" = true) (kM46 : PySem.W.keepIn K (.ref fM46) = true)
    (aM47 : PySem.W.findIn K (.ref CPace) "low_bits" = some (some (.ref fM47))) (iM47 : PySem.W.isFn K (.ref fM47) = true) (lM47 : K.lookup fM47 = some ⟨ocM47, odM47, .func (PySem.W.fnOf "low_bits" "Pace.low_bits" (defArgs sLowBits) (defBody sLowBits) (defScope sLowBits) .none kVM47 dcM47 pmM47 anM47 cdM47 ctM47), slM47⟩) (cM47 : PySem.W.codeIn K cdM47 "Pace.low_bits" = true) (kM47 : PySem.W.keepIn K (.ref fM47) = true)
    (aM48 : PySem.W.findIn K (.ref CPace) "take" = some (some (.ref fM48))) (iM48 : PySem.W.isFn K (.ref fM48) = true) (lM48 : K.lookup fM48 = some ⟨ocM48, odM48, .func (PySem.W.fnOf "take" "Pace.take" (defArgs sTake) (defBody sTake) (defScope sTake) .none kVM48 dcM48 pmM48 anM48 cdM48 ctM48), slM48⟩) (cM48 : PySem.W.codeIn K cdM48 "Pace.take" = true) (kM48 : PySem.W.keepIn K (.ref fM48) = true)
    (aOutOfRange : PySem.W.nsIn K mainGlobals "OutOfRange" = some (some (.ref COutOfRange))) (xOutOfRange : PySem.W.excIn K COutOfRange [.type "Exception", .type "BaseException", .type "object"] "Exception.__new__" = true)
    (aNotACode : PySem.W.nsIn K mainGlobals "NotACode" = some (some (.ref CNotACode))) (xNotACode : PySem.W.excIn K CNotACode [.type "Exception", .type "BaseException", .type "object"] "Exception.__new__" = true)
    (e11 : PySem.W.exmOne K (.ref COutOfRange) (.ref COutOfRange) = some true) (e21 : PySem.W.exmOne K (.ref CNotACode) (.ref COutOfRange) = some false) (e22 : PySem.W.exmOne K (.ref CNotACode) (.ref CNotACode) = some true)
    (vHEAD_LENGTH : PySem.W.nsIn K mainGlobals "HEAD_LENGTH" = some (some (.int 9 tHEAD_LENGTH)))
    (vCRC_LENGTH : PySem.W.nsIn K mainGlobals "CRC_LENGTH" = some (some (.int 4 tCRC_LENGTH)))
    (vMOST_LEVELS : PySem.W.nsIn K mainGlobals "MOST_LEVELS" = some (some (.int 5 tMOST_LEVELS)))
    (vALL_ONES : PySem.W.nsIn K mainGlobals "ALL_ONES" = some (some (.int 4294967295 tALL_ONES)))
    (vCRC_WORD : PySem.W.nsIn K mainGlobals "CRC_WORD" = some (some (.int 3988292384 tCRC_WORD)))
    (vHIGHEST : PySem.W.nsIn K mainGlobals "HIGHEST" = some (some (.int 65535 tHIGHEST)))
    (vHIGHEST_BYTE : PySem.W.nsIn K mainGlobals "HIGHEST_BYTE" = some (some (.int 255 tHIGHEST_BYTE)))
    (vMOST_BYTES : PySem.W.nsIn K mainGlobals "MOST_BYTES" = some (some (.int 1048576 tMOST_BYTES)))
    (vLONGEST : PySem.W.nsIn K mainGlobals "LONGEST" = some (some (.int 24 tLONGEST)))
    (vFIRST_BYTES : PySem.W.nsIn K mainGlobals "FIRST_BYTES" = some (some (.ref AFIRST_BYTES))) (uFIRST_BYTES : K.lookup AFIRST_BYTES = some ⟨.type "tuple", odFIRST_BYTES, .seq #[.int 84 tFIRST_BYTES0, .int 73 tFIRST_BYTES1, .int 76 tFIRST_BYTES2, .int 83 tFIRST_BYTES3] nFIRST_BYTES, slFIRST_BYTES⟩)
    (zlen : PySem.W.nsIn K mainGlobals "len" = some none)
    (zmin : PySem.W.nsIn K mainGlobals "min" = some none)
    (zmax : PySem.W.nsIn K mainGlobals "max" = some none)
    (zsum : PySem.W.nsIn K mainGlobals "sum" = some none)
    (zrange : PySem.W.nsIn K mainGlobals "range" = some none)
    (ztuple : PySem.W.nsIn K mainGlobals "tuple" = some none)
    (zenumerate : PySem.W.nsIn K mainGlobals "enumerate" = some none)
    (zlist : PySem.W.nsIn K mainGlobals "list" = some none)
    (zzip : PySem.W.nsIn K mainGlobals "zip" = some none)
    (zabs : PySem.W.nsIn K mainGlobals "abs" = some none) :
    ∃ fd : FuncData, (∀ (s : Shared) (us : List Value), us.length = 3 → BindsTo s fd ⟨us, []⟩ ((["t", "coded", "numbers"] : List Str).zip us)) ∧ ∀ base : Heap, K.In base → base.Ns mainGlobals mg → FnOk P w K mg base CX0 8 fa fd (["t", "coded", "numbers"] : List Str) (spMain K) := by
  have e := hfa.symm.trans (PySem.W.mg_of X G aF36)
  cases e
  have d_half : DefAt K mg "half" sHalf := ⟨fF0, _, fun_mk (st := sHalf) lF0 cF0 kF0, PySem.W.mg_of X G aF0⟩
  have d_right_of_odds : DefAt K mg "right_of_odds" sRight := ⟨fF1, _, fun_mk (st := sRight) lF1 cF1 kF1, PySem.W.mg_of X G aF1⟩
  have d_lifts : DefAt K mg "lifts" sLifts := ⟨fF2, _, fun_mk (st := sLifts) lF2 cF2 kF2, PySem.W.mg_of X G aF2⟩
  have d_halve_row : DefAt K mg "halve_row" sHalveRow := ⟨fF3, _, fun_mk (st := sHalveRow) lF3 cF3 kF3, PySem.W.mg_of X G aF3⟩
  have d_column_at : DefAt K mg "column_at" sColumn := ⟨fF4, _, fun_mk (st := sColumn) lF4 cF4 kF4, PySem.W.mg_of X G aF4⟩
  have d_turned : DefAt K mg "turned" sTurned := ⟨fF5, _, fun_mk (st := sTurned) lF5 cF5 kF5, PySem.W.mg_of X G aF5⟩
  have d_halve_corner : DefAt K mg "halve_corner" sHalveCorner := ⟨fF6, _, fun_mk (st := sHalveCorner) lF6 cF6 kF6, PySem.W.mg_of X G aF6⟩
  have d_tile_places : DefAt K mg "tile_places" sPlaces := ⟨fF7, _, fun_mk (st := sPlaces) lF7 cF7 kF7, PySem.W.mg_of X G aF7⟩
  have d_lowest_first : DefAt K mg "lowest_first" sLowest := ⟨fF8, _, fun_mk (st := sLowest) lF8 cF8 kF8, PySem.W.mg_of X G aF8⟩
  have d_number_of : DefAt K mg "number_of" sNumber := ⟨fF9, _, fun_mk (st := sNumber) lF9 cF9 kF9, PySem.W.mg_of X G aF9⟩
  have d_crc_table : DefAt K mg "crc_table" sCrcTable := ⟨fF10, _, fun_mk (st := sCrcTable) lF10 cF10 kF10, PySem.W.mg_of X G aF10⟩
  have d_crc_of : DefAt K mg "crc_of" sCrcOf := ⟨fF11, _, fun_mk (st := sCrcOf) lF11 cF11 kF11, PySem.W.mg_of X G aF11⟩
  have d_framed : DefAt K mg "framed" sFramed := ⟨fF12, _, fun_mk (st := sFramed) lF12 cF12 kF12, PySem.W.mg_of X G aF12⟩
  have d_head_of : DefAt K mg "head_of" sHeadOf := ⟨fF13, _, fun_mk (st := sHeadOf) lF13 cF13 kF13, PySem.W.mg_of X G aF13⟩
  have d_table_of : DefAt K mg "table_of" sTable := ⟨fF14, _, fun_mk (st := sTable) lF14 cF14 kF14, PySem.W.mg_of X G aF14⟩
  have d_tile_codes_of : DefAt K mg "tile_codes_of" sTiles := ⟨fF15, _, fun_mk (st := sTiles) lF15 cF15 kF15, PySem.W.mg_of X G aF15⟩
  have d_opened : DefAt K mg "opened" sOpened := ⟨fF16, _, fun_mk (st := sOpened) lF16 cF16 kF16, PySem.W.mg_of X G aF16⟩
  have d_all_between : DefAt K mg "all_between" sBetween := ⟨fF17, _, fun_mk (st := sBetween) lF17 cF17 kF17, PySem.W.mg_of X G aF17⟩
  have d_numbers_in_range : DefAt K mg "numbers_in_range" sNumbersIn := ⟨fF18, _, fun_mk (st := sNumbersIn) lF18 cF18 kF18, PySem.W.mg_of X G aF18⟩
  have d_check_bytes : DefAt K mg "check_bytes" sCheck := ⟨fF19, _, fun_mk (st := sCheck) lF19 cF19 kF19, PySem.W.mg_of X G aF19⟩
  have d_flat : DefAt K mg "flat" sFlat := ⟨fF20, _, fun_mk (st := sFlat) lF20 cF20 kF20, PySem.W.mg_of X G aF20⟩
  have d_cut_rows : DefAt K mg "cut_rows" sCutRows := ⟨fF21, _, fun_mk (st := sCutRows) lF21 cF21 kF21, PySem.W.mg_of X G aF21⟩
  have d_corner_sizes : DefAt K mg "corner_sizes" sSizes := ⟨fF22, _, fun_mk (st := sSizes) lF22 cF22 kF22, PySem.W.mg_of X G aF22⟩
  have d_three_bands : DefAt K mg "three_bands" sThree := ⟨fF23, _, fun_mk (st := sThree) lF23 cF23 kF23, PySem.W.mg_of X G aF23⟩
  have d_bands_of : DefAt K mg "bands_of" sBandsOf := ⟨fF24, _, fun_mk (st := sBandsOf) lF24 cF24 kF24, PySem.W.mg_of X G aF24⟩
  have d_mixed : DefAt K mg "mixed" sMixed := ⟨fF25, _, fun_mk (st := sMixed) lF25 cF25 kF25, PySem.W.mg_of X G aF25⟩
  have d_unsigned : DefAt K mg "unsigned" sUnsigned := ⟨fF26, _, fun_mk (st := sUnsigned) lF26 cF26 kF26, PySem.W.mg_of X G aF26⟩
  have d_ones : DefAt K mg "ones" sOnes := ⟨fF27, _, fun_mk (st := sOnes) lF27 cF27 kF27, PySem.W.mg_of X G aF27⟩
  have d_tell_number : DefAt K mg "tell_number" sTellNumber := ⟨fF28, _, fun_mk (st := sTellNumber) lF28 cF28 kF28, PySem.W.mg_of X G aF28⟩
  have d_tell_band : DefAt K mg "tell_band" sTellBand := ⟨fF29, _, fun_mk (st := sTellBand) lF29 cF29 kF29, PySem.W.mg_of X G aF29⟩
  have d_planes_of : DefAt K mg "planes_of" sPlanesOf := ⟨fF30, _, fun_mk (st := sPlanesOf) lF30 cF30 kF30, PySem.W.mg_of X G aF30⟩
  have d_plain_code : DefAt K mg "plain_code" sPlainCode := ⟨fF31, _, fun_mk (st := sPlainCode) lF31 cF31 kF31, PySem.W.mg_of X G aF31⟩
  have d_short_code : DefAt K mg "short_code" sShortCode := ⟨fF32, _, fun_mk (st := sShortCode) lF32 cF32 kF32, PySem.W.mg_of X G aF32⟩
  have d_tile_code : DefAt K mg "tile_code" sTileCode := ⟨fF33, _, fun_mk (st := sTileCode) lF33 cF33 kF33, PySem.W.mg_of X G aF33⟩
  have d_check_tile : DefAt K mg "check_tile" sCheckTile := ⟨fF34, _, fun_mk (st := sCheckTile) lF34 cF34 kF34, PySem.W.mg_of X G aF34⟩
  have d_put_answer : DefAt K mg "put_answer" sPutAnswer := ⟨fF35, _, fun_mk (st := sPutAnswer) lF35 cF35 kF35, PySem.W.mg_of X G aF35⟩
  have t_Place : PlaceTxt K mg CPlace := ⟨⟨⟨pgPlace, hdPlace, poPlace, saPlace⟩, PySem.W.mg_of X G aPlace, mkPlace, kcPlace⟩, nPlace_x, nPlace_y, nPlace_width, nPlace_height⟩
  have m_Place_init : MethAt K CPlace "__init__" "Place.__init__" sInitPlace := ⟨fM37, _, fun_mk (st := sInitPlace) lM37 cM37 kM37, ⟨aM37, iM37, kM37⟩⟩
  have t_Head : HeadTxt K mg CHead := ⟨⟨⟨pgHead, hdHead, poHead, saHead⟩, PySem.W.mg_of X G aHead, mkHead, kcHead⟩, nHead_kinds, nHead_wide, nHead_high, nHead_e, nHead_levels⟩
  have m_Head_init : MethAt K CHead "__init__" "Head.__init__" sInitHead := ⟨fM38, _, fun_mk (st := sInitHead) lM38 cM38 kM38, ⟨aM38, iM38, kM38⟩⟩
  have m_Head_in_range : MethAt K CHead "in_range" "Head.in_range" sInRange := ⟨fM39, _, fun_mk (st := sInRange) lM39 cM39 kM39, ⟨aM39, iM39, kM39⟩⟩
  have m_Head_head_bytes : MethAt K CHead "head_bytes" "Head.head_bytes" sHeadBytes := ⟨fM40, _, fun_mk (st := sHeadBytes) lM40 cM40 kM40, ⟨aM40, iM40, kM40⟩⟩
  have m_Head_places : MethAt K CHead "places" "Head.places" sHeadPlaces := ⟨fM41, _, fun_mk (st := sHeadPlaces) lM41 cM41 kM41, ⟨aM41, iM41, kM41⟩⟩
  have t_Parts : PartsTxt K mg CParts := ⟨⟨⟨pgParts, hdParts, poParts, saParts⟩, PySem.W.mg_of X G aParts, mkParts, kcParts⟩, nParts_head, nParts_codes⟩
  have m_Parts_init : MethAt K CParts "__init__" "Parts.__init__" sInitParts := ⟨fM42, _, fun_mk (st := sInitParts) lM42 cM42 kM42, ⟨aM42, iM42, kM42⟩⟩
  have t_BitWriter : WriterTxt K mg CBitWriter := ⟨⟨⟨pgBitWriter, hdBitWriter, poBitWriter, saBitWriter⟩, PySem.W.mg_of X G aBitWriter, mkBitWriter, kcBitWriter⟩, nBitWriter_done, nBitWriter_rest, nBitWriter_held⟩
  have m_BitWriter_init : MethAt K CBitWriter "__init__" "BitWriter.__init__" sInitWriter := ⟨fM43, _, fun_mk (st := sInitWriter) lM43 cM43 kM43, ⟨aM43, iM43, kM43⟩⟩
  have m_BitWriter_tell : MethAt K CBitWriter "tell" "BitWriter.tell" sTell := ⟨fM44, _, fun_mk (st := sTell) lM44 cM44 kM44, ⟨aM44, iM44, kM44⟩⟩
  have m_BitWriter_all_bytes : MethAt K CBitWriter "all_bytes" "BitWriter.all_bytes" sAllBytes := ⟨fM45, _, fun_mk (st := sAllBytes) lM45 cM45 kM45, ⟨aM45, iM45, kM45⟩⟩
  have t_Pace : PaceTxt K mg CPace := ⟨⟨⟨pgPace, hdPace, poPace, saPace⟩, PySem.W.mg_of X G aPace, mkPace, kcPace⟩, nPace_a, nPace_c⟩
  have m_Pace_init : MethAt K CPace "__init__" "Pace.__init__" sInitPace := ⟨fM46, _, fun_mk (st := sInitPace) lM46 cM46 kM46, ⟨aM46, iM46, kM46⟩⟩
  have m_Pace_low_bits : MethAt K CPace "low_bits" "Pace.low_bits" sLowBits := ⟨fM47, _, fun_mk (st := sLowBits) lM47 cM47 kM47, ⟨aM47, iM47, kM47⟩⟩
  have m_Pace_take : MethAt K CPace "take" "Pace.take" sTake := ⟨fM48, _, fun_mk (st := sTake) lM48 cM48 kM48, ⟨aM48, iM48, kM48⟩⟩
  have e_OutOfRange : ExcAt K mg "OutOfRange" COutOfRange := ⟨PySem.W.mg_of X G aOutOfRange, xOutOfRange⟩
  have e_NotACode : ExcAt K mg "NotACode" CNotACode := ⟨PySem.W.mg_of X G aNotACode, xNotACode⟩
  have c_HEAD_LENGTH : ∃ t, mg "HEAD_LENGTH" = some (.int 9 t) := ⟨_, PySem.W.mg_of X G vHEAD_LENGTH⟩
  have c_CRC_LENGTH : ∃ t, mg "CRC_LENGTH" = some (.int 4 t) := ⟨_, PySem.W.mg_of X G vCRC_LENGTH⟩
  have c_MOST_LEVELS : ∃ t, mg "MOST_LEVELS" = some (.int 5 t) := ⟨_, PySem.W.mg_of X G vMOST_LEVELS⟩
  have c_ALL_ONES : ∃ t, mg "ALL_ONES" = some (.int 4294967295 t) := ⟨_, PySem.W.mg_of X G vALL_ONES⟩
  have c_CRC_WORD : ∃ t, mg "CRC_WORD" = some (.int 3988292384 t) := ⟨_, PySem.W.mg_of X G vCRC_WORD⟩
  have c_HIGHEST : ∃ t, mg "HIGHEST" = some (.int 65535 t) := ⟨_, PySem.W.mg_of X G vHIGHEST⟩
  have c_HIGHEST_BYTE : ∃ t, mg "HIGHEST_BYTE" = some (.int 255 t) := ⟨_, PySem.W.mg_of X G vHIGHEST_BYTE⟩
  have c_MOST_BYTES : ∃ t, mg "MOST_BYTES" = some (.int 1048576 t) := ⟨_, PySem.W.mg_of X G vMOST_BYTES⟩
  have c_LONGEST : ∃ t, mg "LONGEST" = some (.int 24 t) := ⟨_, PySem.W.mg_of X G vLONGEST⟩
  have c_FIRST_BYTES : mg "FIRST_BYTES" = some (.ref AFIRST_BYTES) := PySem.W.mg_of X G vFIRST_BYTES
  have q_FIRST_BYTES : ∀ H, SqT K H AFIRST_BYTES (([84, 73, 76, 83] : List Int).map V.int) := fun H => .inr ⟨_, _, _, uFIRST_BYTES, rfl, rfl, (by show 4 ≤ sizeLine; decide), .cons ⟨_, rfl⟩ (.cons ⟨_, rfl⟩ (.cons ⟨_, rfl⟩ (.cons ⟨_, rfl⟩ (.nil))))⟩
  have z_len : mg "len" = none := PySem.W.mg_none_of X G zlen
  have z_min : mg "min" = none := PySem.W.mg_none_of X G zmin
  have z_max : mg "max" = none := PySem.W.mg_none_of X G zmax
  have z_sum : mg "sum" = none := PySem.W.mg_none_of X G zsum
  have z_range : mg "range" = none := PySem.W.mg_none_of X G zrange
  have z_tuple : mg "tuple" = none := PySem.W.mg_none_of X G ztuple
  have z_enumerate : mg "enumerate" = none := PySem.W.mg_none_of X G zenumerate
  have z_list : mg "list" = none := PySem.W.mg_none_of X G zlist
  have z_zip : mg "zip" = none := PySem.W.mg_none_of X G zzip
  have z_abs : mg "abs" = none := PySem.W.mg_none_of X G zabs
  have F := fun_mk (st := sMain) lF36 cF36 kF36
  exact ⟨_, fun s us hl => match us, hl with | [_, _, _], _ => .of_eq rfl, fun base _ _ => ok_main F e_OutOfRange e_NotACode e11 e21 e22 (ok_putAnswer d_put_answer z_len z_list t_Parts t_Head t_Place e_OutOfRange (ok_check d_check_bytes z_len c_MOST_BYTES c_HIGHEST_BYTE (ok_between d_all_between z_min z_max)) (ok_numbersIn d_numbers_in_range c_HIGHEST (ok_between d_all_between z_min z_max)) (ok_opened d_opened t_Parts (ok_initParts m_Parts_init t_Parts) (ok_headOf d_head_of z_len z_tuple c_HEAD_LENGTH c_FIRST_BYTES q_FIRST_BYTES t_Head e_NotACode (ok_initHead m_Head_init t_Head) (ok_inRange m_Head_in_range t_Head c_MOST_LEVELS)) (ok_tiles d_tile_codes_of z_len z_min z_sum c_HEAD_LENGTH c_CRC_LENGTH t_Head e_NotACode (ok_headPlaces m_Head_places t_Head (ok_places d_tile_places z_range z_min t_Place (ok_initPlace m_Place_init t_Place))) (ok_table d_table_of z_range c_HEAD_LENGTH (ok_number d_number_of z_enumerate)))) (ok_checkTile d_check_tile z_len t_Parts e_OutOfRange) (ok_headPlaces m_Head_places t_Head (ok_places d_tile_places z_range z_min t_Place (ok_initPlace m_Place_init t_Place))) (ok_tileCode d_tile_code z_len (ok_plain d_plain_code) (ok_short d_short_code t_BitWriter (ok_initWriter m_BitWriter_init t_BitWriter) (ok_allBytes m_BitWriter_all_bytes t_BitWriter z_list) (ok_planesOf d_planes_of z_range) (ok_mixed d_mixed z_len z_list z_zip) (ok_cutRows d_cut_rows z_range) (ok_bandsOf d_bands_of z_len (ok_sizes d_corner_sizes z_range (ok_half d_half)) (ok_halveCorner d_halve_corner (ok_turned d_turned z_len z_range (ok_column d_column_at)) (ok_halveRow d_halve_row z_len z_list z_zip (ok_right d_right_of_odds z_len) (ok_lifts d_lifts z_zip))) (ok_three d_three_bands (ok_flat d_flat)) (ok_flat d_flat)) (ok_tellBand d_tell_band t_Pace (ok_initPace m_Pace_init t_Pace) (ok_lowBits m_Pace_low_bits t_Pace) (ok_take m_Pace_take t_Pace z_abs) (ok_unsigned d_unsigned) (ok_tellNumber d_tell_number t_BitWriter c_LONGEST (ok_ones d_ones) (ok_tell m_BitWriter_tell t_BitWriter))))) (ok_framed d_framed z_len c_CRC_LENGTH t_Head (ok_headBytes m_Head_head_bytes t_Head z_list c_FIRST_BYTES q_FIRST_BYTES) (ok_lowest d_lowest_first z_range) (ok_crcOf d_crc_of c_ALL_ONES (ok_crcTable d_crc_table z_range c_CRC_WORD))))⟩
def topRunT (tb : String → Option Builtin) (p : Program) (w : World) (n₀ : Nat) (ann : Option Value) : Nat → PySem.W.SharedT → Thread → Option PySem.W.SharedT
  | 0, _, _ => none
  | n + 1, s, t => match PySem.W.through t with
    | true => some s
    | false => match PySem.W.stepOk n₀ ann t with
      | false => none
      | true => match PySem.W.stepT (denote tb) p w s t with
        | some (s', t') => topRunT tb p w n₀ ann n s' t'
        | none => none
theorem topRunT_of {tb : String → Option Builtin} {p : Program} {w : World} {n₀ : Nat} {ann : Option Value} : ∀ {n : Nat} {s s' : PySem.W.SharedT} {t : Thread}, topRunT tb p w n₀ ann n s t = some s' → PySem.W.topRun tb p w n₀ ann n s.abs t = some s'.abs
  | 0, _, _, _, h => by cases h
  | n + 1, s, s', t, h => by
    unfold topRunT at h
    unfold PySem.W.topRun
    cases he : PySem.W.through t with
    | true => rw [he] at h; cases h; rfl
    | false =>
      rw [he] at h
      cases hk : PySem.W.stepOk n₀ ann t with
      | false => rw [hk] at h; cases h
      | true =>
        rw [hk] at h
        cases hs : PySem.W.stepT (denote tb) p w s t with
        | none => rw [hs] at h; cases h
        | some r =>
          obtain ⟨s₂, t₂⟩ := r
          rw [hs] at h
          rw [PySem.W.stepT_spec hs]
          exact topRunT_of h
noncomputable def bootT (P : Params) : PySem.W.BT := (.node (PySem.W.boot_o_0 P) (.node (PySem.W.boot_o_1 P) (.node (PySem.W.boot_o_3 P) (.node (PySem.W.boot_o_7 P) .nil .nil) .nil) (.node (PySem.W.boot_o_5 P) (.node (PySem.W.boot_o_9 P) .nil .nil) .nil)) (.node (PySem.W.boot_o_2 P) (.node (PySem.W.boot_o_4 P) (.node (PySem.W.boot_o_8 P) .nil .nil) .nil) (.node (PySem.W.boot_o_6 P) (.node (PySem.W.boot_o_10 P) .nil .nil) .nil)))
noncomputable def lifeT (P : Params) : Life := (PySem.W.boot_heap P).life
theorem bootT_eq (P : Params) : PySem.W.absHeap (bootT P) 11 (lifeT P) = PySem.W.boot_heap P := by kernel_rfl
noncomputable def stT (w : World) (os : OsState) : PySem.W.SharedT := ⟨bootT w.params, 11, lifeT w.params, Array.mk [], PySem.W.boot_drawn, PySem.W.boot_toks, os⟩
def kept (p : Program) (h₀ : Heap) (s : Shared) : Bool := PySem.W.staticsOk (PySem.importedModules p.main.body) h₀ s.heap && PySem.W.namesBound p s.heap && PySem.W.gensDone s && PySem.W.laidKept h₀ s.heap
def atT (s : PySem.W.SharedT) (a : Nat) : Option Obj := match Nat.blt a s.n with
  | true => match s.tree.get a with
    | some o => PySem.W.alive o
    | none => none
  | false => none
theorem atT_eq (s : PySem.W.SharedT) (a : Nat) (o : Obj) (h : atT s a = some o) : s.abs.heap.get? a = some o := by
  unfold atT at h
  cases e : Nat.blt a s.n with
  | false => rw [e] at h; cases h
  | true =>
    have lt : a < s.n := Nat.le_of_ble_eq_true e
    rw [e] at h
    cases g : s.tree.get a with
    | none => rw [g] at h; cases h
    | some x =>
      rw [g] at h
      show (PySem.W.absHeap s.tree s.n s.life).get? a = some o
      rw [PySem.W.abs_get lt g]
      exact h
theorem allAt (s : PySem.W.SharedT) : ∀ (as : List Nat) (os : List Obj), as.map (atT s) = os.map some → as.map s.abs.heap.get? = os.map some
  | [], [], _ => rfl
  | a :: as, o :: os, h => by
    obtain ⟨h1, h2⟩ := List.cons.inj h
    show _ :: _ = _ :: _
    rw [atT_eq s a o h1, allAt s as os h2]
  | [], _ :: _, h => by cases h
  | _ :: _, [], h => by cases h
theorem left_tree {p q : Program} {Xt : Shared → Bool} {K : Params → PySem.W.Frag} {as : List Nat} {ea : ∀ P, as = (K P).map (·.1)} {N : Nat} {ann : Option Value}
    (open_ : ∀ w : World, (PySem.W.fencedOpening PySem.treeTable p w N).map (fun s => (s.heap, s.gens, s.drawn, s.toks)) = some (PySem.W.boot_heap w.params, Array.mk [], PySem.W.boot_drawn, PySem.W.boot_toks))
    (size : ∀ w : World, ((PySem.W.boot_heap w.params).isNs mainGlobals, (PySem.W.boot_heap w.params).objs.size, (PySem.W.boot_heap w.params).nsMap mainGlobals "__annotations__") = (true, 11, ann))
    (run1 : ∀ (w : World) (os : OsState), (topRunT PySem.treeTable p w 11 ann N (stT w os) (PySem.W.topStub p)).map (fun s => (kept p (PySem.W.boot_heap w.params) s.abs, as.map (atT s))) = some (true, (K w.params).map fun x => some x.2))
    (run2 : ∀ (w : World) (os : OsState), (topRunT PySem.treeTable p w 11 ann N (stT w os) (PySem.W.topStub p)).map (fun s => PySem.W.openSeen q [] (PySem.importedModules p.main.body) Xt true s.abs) = some (PySem.W.openGood q [])) :
    PySem.W.LeftO p q [] Xt (PySem.W.Hook.obs (PySem.W.kHook K as ea)) (PySem.W.Hook.val (PySem.W.kHook K as ea)) N := fun w => by
  obtain ⟨⟨h, gs, d, k, os⟩, e, e'⟩ := Option.map_eq_some_iff.mp (open_ w)
  obtain ⟨rfl, rfl, rfl, rfl⟩ : h = PySem.W.boot_heap w.params ∧ gs = Array.mk [] ∧ d = PySem.W.boot_drawn ∧ k = PySem.W.boot_toks := by simpa only [Prod.mk.injEq] using e'
  obtain ⟨z1, z2, z3⟩ : _ ∧ _ ∧ _ := by simpa only [Prod.mk.injEq] using size w
  obtain ⟨s, r, l⟩ := Option.map_eq_some_iff.mp (run1 w os)
  obtain ⟨s', r', l'⟩ := Option.map_eq_some_iff.mp (run2 w os)
  obtain rfl : s' = s := Option.some.inj (r'.symm.trans r)
  obtain ⟨l1, l2⟩ := Prod.mk.inj l
  have r2 := topRunT_of r
  have ab : (stT w os).abs = ⟨PySem.W.boot_heap w.params, Array.mk [], PySem.W.boot_drawn, PySem.W.boot_toks, os⟩ := congrArg (fun h => Shared.mk h (Array.mk []) PySem.W.boot_drawn PySem.W.boot_toks os) (bootT_eq w.params)
  rw [ab] at r2
  have t : PySem.W.topFrom PySem.treeTable p w N ⟨PySem.W.boot_heap w.params, Array.mk [], PySem.W.boot_drawn, PySem.W.boot_toks, os⟩ = some s'.abs := by
    unfold PySem.W.topFrom
    dsimp only
    rw [z1, z2, z3, r2]
    show (match kept p (PySem.W.boot_heap w.params) s'.abs with | true => _ | false => _) = _
    rw [l1]
  unfold PySem.W.openEnds
  rw [e]
  show (PySem.W.topFrom PySem.treeTable p w N _).map _ = _
  rw [t]
  refine congrArg some (Prod.ext l' ?_)
  have l3 : as.map (atT s') = ((K w.params).map (·.2)).map some := by rw [l2, List.map_map]; rfl
  show as.map s'.abs.heap.get? = (K w.params).map fun x => some x.2
  rw [allAt s' as _ l3, List.map_map]
  rfl

def en (P : Params) (s : Str) (t : Tok) (v : Value) : DictEntry := ⟨PyData.keyHash P s, .str s t, v⟩
def fnE (n q : Str) (st : Stmt) (pm : Value) (cd : Addr) : Obj := ⟨.type "function", none, .func (PySem.W.fnOf n q (defArgs st) (defBody st) (defScope st) .none .none .none pm none (.ref cd) .none), #[]⟩
def cdE (n q : Str) (t line k x y z a b : Nat) (u v : Value) (c d : Nat) : Obj :=
  ⟨.type "code", none, .fields #[.str n t, .str q (t + 1), .str "/claim/cut.py" (t + 2), .int (.ofNat line) 0, .int (.ofNat k) 0, .int 0 0, .int (.ofNat x) 0, .int (.ofNat y) 0, .ref a, .bool true, .int (.ofNat z) 0, .ref b, .none, u, v, .ref c, .int (.ofNat d) 0, .int (.ofNat line) 0, .str "/claim/cut.py" (d + 1)], #[]⟩
def hp : Params → PySem.W.Frag := fun P =>
  (nat_lit 2, ⟨.none, none, (.dict #[en P "type.__subclasses__.Exception.0" 310 (.int 98 0), en P "type.__subclasses__.Exception.n" 311 (.int 2 0), en P "type.__subclasses__.Exception.1" 330 (.int 111 0)] 3), #[]⟩) ::
  (nat_lit 3, ⟨(.type "dict"), none, (.dict #[en P "__name__" 165 (.str "tilewise.sheets" 780), en P "__doc__" 166 .none, en P "__package__" 167 .none, en P "__loader__" 168 (.builtin "__main__.__loader__#opaque"), en P "__spec__" 169 .none, en P "__annotations__" 170 (.ref 6), en P "__builtins__" 171 (.ref 4), en P "__file__" 173 (.str "/claim/cut.py" 172), en P "__cached__" 174 .none, en P "_wall" 193 (.ref 21), en P "half" 202 (.ref 28), en P "right_of_odds" 211 (.ref 35), en P "lifts" 217 (.ref 40), en P "halve_row" 223 (.ref 45), en P "column_at" 229 (.ref 50), en P "turned" 235 (.ref 55), en P "halve_corner" 241 (.ref 60), en P "Place" 278 (.ref 77), en P "tile_places" 291 (.ref 88), en P "OutOfRange" 313 (.ref 98), en P "NotACode" 333 (.ref 111), en P "FIRST_BYTES" 340 (.ref 115), en P "HEAD_LENGTH" 342 (.int 9 341), en P "CRC_LENGTH" 344 (.int 4 343), en P "MOST_LEVELS" 346 (.int 5 345), en P "ALL_ONES" 348 (.int 4294967295 347), en P "CRC_WORD" 350 (.int 3988292384 349), en P "Head" 415 (.ref 160), en P "Parts" 446 (.ref 181), en P "lowest_first" 452 (.ref 190), en P "number_of" 462 (.ref 197), en P "crc_table" 472 (.ref 204), en P "crc_of" 482 (.ref 211), en P "framed" 492 (.ref 218), en P "head_of" 500 (.ref 225), en P "table_of" 506 (.ref 230), en P "tile_codes_of" 519 (.ref 237), en P "opened" 527 (.ref 244), en P "HIGHEST" 531 (.int 65535 530), en P "HIGHEST_BYTE" 533 (.int 255 532), en P "MOST_BYTES" 535 (.int 1048576 534), en P "all_between" 544 (.ref 251), en P "numbers_in_range" 551 (.ref 258), en P "check_bytes" 558 (.ref 265), en P "flat" 569 (.ref 272), en P "cut_rows" 575 (.ref 277), en P "corner_sizes" 586 (.ref 284), en P "three_bands" 592 (.ref 289), en P "bands_of" 598 (.ref 294), en P "mixed" 606 (.ref 299), en P "LONGEST" 610 (.int 24 609), en P "BitWriter" 656 (.ref 330), en P "Pace" 701 (.ref 365), en P "unsigned" 708 (.ref 376), en P "ones" 715 (.ref 383), en P "tell_number" 725 (.ref 390), en P "tell_band" 735 (.ref 397), en P "planes_of" 743 (.ref 402), en P "plain_code" 752 (.ref 409), en P "short_code" 766 (.ref 416), en P "tile_code" 779 (.ref 423), en P "check_tile" 789 (.ref 430), en P "put_answer" 803 (.ref 437), en P "put" 812 (.ref 444)] 64), #[]⟩) ::
  (nat_lit 27, cdE "half" "half" 196 5 1 0 3 181 22 23 (.ref 24) (.ref 25) 26 200) ::
  (nat_lit 28, fnE "half" "half" sHalf (.str "tilewise.halving" 194) 27) ::
  (nat_lit 34, cdE "right_of_odds" "right_of_odds" 203 7 2 0 3 181 29 30 (.ref 31) (.ref 32) 33 209) ::
  (nat_lit 35, fnE "right_of_odds" "right_of_odds" sRight (.str "tilewise.halving" 194) 34) ::
  (nat_lit 39, cdE "lifts" "lifts" 212 12 1 0 3 181 36 37 .none .none 38 215) ::
  (nat_lit 40, fnE "lifts" "lifts" sLifts (.str "tilewise.halving" 194) 39) ::
  (nat_lit 44, cdE "halve_row" "halve_row" 218 16 1 0 3 181 41 42 .none .none 43 221) ::
  (nat_lit 45, fnE "halve_row" "halve_row" sHalveRow (.str "tilewise.halving" 194) 44) ::
  (nat_lit 49, cdE "column_at" "column_at" 224 25 2 0 3 181 46 47 .none .none 48 227) ::
  (nat_lit 50, fnE "column_at" "column_at" sColumn (.str "tilewise.halving" 194) 49) ::
  (nat_lit 54, cdE "turned" "turned" 230 27 1 0 3 181 51 52 .none .none 53 233) ::
  (nat_lit 55, fnE "turned" "turned" sTurned (.str "tilewise.halving" 194) 54) ::
  (nat_lit 59, cdE "halve_corner" "halve_corner" 236 29 1 0 3 181 56 57 .none .none 58 239) ::
  (nat_lit 60, fnE "halve_corner" "halve_corner" sHalveCorner (.str "tilewise.halving" 194) 59) ::
  (nat_lit 73, cdE "__init__" "Place.__init__" 256 35 5 0 3 181 68 69 (.ref 70) (.ref 71) 72 264) ::
  (nat_lit 74, fnE "__init__" "Place.__init__" sInitPlace (.str "tilewise.layout" 242) 73) ::
  (nat_lit 76, ⟨(.type "dict"), none, (.dict #[en P "__module__" 251 (.str "tilewise.layout" 242), en P "__firstlineno__" 255 (.int 33 254), en P "__init__" 266 (.ref 74), en P "__static_attributes__" 271 (.ref 75), en P "__dict__" 273 (.ref 78), en P "__weakref__" 275 (.ref 79), en P "__doc__" 276 .none] 4), #[]⟩) ::
  (nat_lit 77, ⟨(.type "type"), none, (.cls ⟨"Place", [(.type "object")], [(.ref 77), (.type "object")], 76, "Place", true, [], [], false, none, false⟩), #[none, none, (some (.str "Place" 244)), (some (.str "Place" 252)), (some (.builtin "object.__new__")), (some (.bool true))]⟩) ::
  (nat_lit 78, ⟨(.type "getset_descriptor"), none, (.fields #[(.str "__dict__" 272), (.ref 77), (.builtin "function.__dict__"), (.builtin "function.__dict__#set")]), #[]⟩) ::
  (nat_lit 79, ⟨(.type "getset_descriptor"), none, (.fields #[(.str "__weakref__" 274), (.ref 77), (.builtin "ExceptionGroup.__weakref__"), .none]), #[]⟩) ::
  (nat_lit 87, cdE "tile_places" "tile_places" 279 40 3 0 3 181 82 83 (.ref 84) (.ref 85) 86 289) ::
  (nat_lit 88, fnE "tile_places" "tile_places" sPlaces (.str "tilewise.layout" 242) 87) ::
  (nat_lit 97, ⟨(.type "dict"), none, (.dict #[en P "__module__" 301 (.str "tilewise.refusals" 292), en P "__firstlineno__" 305 (.int 48 304), en P "__static_attributes__" 306 (.ref 96), en P "__weakref__" 308 (.ref 99), en P "__doc__" 309 .none] 3), #[]⟩) ::
  (nat_lit 98, ⟨(.type "type"), none, (.cls ⟨"OutOfRange", [(.type "Exception")], [(.ref 98), (.type "Exception"), (.type "BaseException"), (.type "object")], 97, "OutOfRange", true, [], [], false, none, false⟩), #[(some (.ref 89)), none, (some (.str "OutOfRange" 294)), (some (.str "OutOfRange" 302)), (some (.builtin "Exception.__new__")), (some (.bool true))]⟩) ::
  (nat_lit 99, ⟨(.type "getset_descriptor"), none, (.fields #[(.str "__weakref__" 307), (.ref 98), (.builtin "ExceptionGroup.__weakref__"), .none]), #[]⟩) ::
  (nat_lit 110, ⟨(.type "dict"), none, (.dict #[en P "__module__" 321 (.str "tilewise.refusals" 292), en P "__firstlineno__" 325 (.int 50 324), en P "__static_attributes__" 326 (.ref 109), en P "__weakref__" 328 (.ref 112), en P "__doc__" 329 .none] 3), #[]⟩) ::
  (nat_lit 111, ⟨(.type "type"), none, (.cls ⟨"NotACode", [(.type "Exception")], [(.ref 111), (.type "Exception"), (.type "BaseException"), (.type "object")], 110, "NotACode", true, [], [], false, none, false⟩), #[(some (.ref 102)), none, (some (.str "NotACode" 314)), (some (.str "NotACode" 322)), (some (.builtin "Exception.__new__")), (some (.bool true))]⟩) ::
  (nat_lit 112, ⟨(.type "getset_descriptor"), none, (.fields #[(.str "__weakref__" 327), (.ref 111), (.builtin "ExceptionGroup.__weakref__"), .none]), #[]⟩) ::
  (nat_lit 115, ⟨(.type "tuple"), none, (.seq #[(.int 84 336), (.int 73 337), (.int 76 338), (.int 83 339)] 0), #[]⟩) ::
  (nat_lit 128, cdE "__init__" "Head.__init__" 363 61 6 0 3 181 123 124 (.ref 125) (.ref 126) 127 372) ::
  (nat_lit 129, fnE "__init__" "Head.__init__" sInitHead (.str "tilewise.frames" 334) 128) ::
  (nat_lit 135, cdE "in_range" "Head.in_range" 375 68 1 0 3 181 130 131 (.ref 132) (.ref 133) 134 379) ::
  (nat_lit 136, fnE "in_range" "Head.in_range" sInRange (.str "tilewise.frames" 334) 135) ::
  (nat_lit 142, cdE "head_bytes" "Head.head_bytes" 382 71 1 0 3 181 137 138 (.ref 139) (.ref 140) 141 386) ::
  (nat_lit 143, fnE "head_bytes" "Head.head_bytes" sHeadBytes (.str "tilewise.frames" 334) 142) ::
  (nat_lit 149, cdE "places" "Head.places" 389 74 1 0 3 181 144 145 (.ref 146) (.ref 147) 148 393) ::
  (nat_lit 150, fnE "places" "Head.places" sHeadPlaces (.str "tilewise.frames" 334) 149) ::
  (nat_lit 159, ⟨(.type "dict"), none, (.dict #[en P "__module__" 358 (.str "tilewise.frames" 334), en P "__firstlineno__" 362 (.int 59 361), en P "__init__" 374 (.ref 129), en P "in_range" 381 (.ref 136), en P "head_bytes" 388 (.ref 143), en P "places" 395 (.ref 150), en P "answer" 402 (.ref 157), en P "__static_attributes__" 408 (.ref 158), en P "__dict__" 410 (.ref 161), en P "__weakref__" 412 (.ref 162), en P "__doc__" 413 .none] 4), #[]⟩) ::
  (nat_lit 160, ⟨(.type "type"), none, (.cls ⟨"Head", [(.type "object")], [(.ref 160), (.type "object")], 159, "Head", true, [], [], false, none, false⟩), #[none, none, (some (.str "Head" 351)), (some (.str "Head" 359)), (some (.builtin "object.__new__")), (some (.bool true))]⟩) ::
  (nat_lit 161, ⟨(.type "getset_descriptor"), none, (.fields #[(.str "__dict__" 409), (.ref 160), (.builtin "function.__dict__"), (.builtin "function.__dict__#set")]), #[]⟩) ::
  (nat_lit 162, ⟨(.type "getset_descriptor"), none, (.fields #[(.str "__weakref__" 411), (.ref 160), (.builtin "ExceptionGroup.__weakref__"), .none]), #[]⟩) ::
  (nat_lit 177, cdE "__init__" "Parts.__init__" 428 81 3 0 3 181 172 173 (.ref 174) (.ref 175) 176 434) ::
  (nat_lit 178, fnE "__init__" "Parts.__init__" sInitParts (.str "tilewise.frames" 334) 177) ::
  (nat_lit 180, ⟨(.type "dict"), none, (.dict #[en P "__module__" 423 (.str "tilewise.frames" 334), en P "__firstlineno__" 427 (.int 79 426), en P "__init__" 436 (.ref 178), en P "__static_attributes__" 439 (.ref 179), en P "__dict__" 441 (.ref 182), en P "__weakref__" 443 (.ref 183), en P "__doc__" 444 .none] 4), #[]⟩) ::
  (nat_lit 181, ⟨(.type "type"), none, (.cls ⟨"Parts", [(.type "object")], [(.ref 181), (.type "object")], 180, "Parts", true, [], [], false, none, false⟩), #[none, none, (some (.str "Parts" 416)), (some (.str "Parts" 424)), (some (.builtin "object.__new__")), (some (.bool true))]⟩) ::
  (nat_lit 182, ⟨(.type "getset_descriptor"), none, (.fields #[(.str "__dict__" 440), (.ref 181), (.builtin "function.__dict__"), (.builtin "function.__dict__#set")]), #[]⟩) ::
  (nat_lit 183, ⟨(.type "getset_descriptor"), none, (.fields #[(.str "__weakref__" 442), (.ref 181), (.builtin "ExceptionGroup.__weakref__"), .none]), #[]⟩) ::
  (nat_lit 189, cdE "lowest_first" "lowest_first" 447 84 2 0 3 181 186 187 .none .none 188 450) ::
  (nat_lit 190, fnE "lowest_first" "lowest_first" sLowest (.str "tilewise.frames" 334) 189) ::
  (nat_lit 196, cdE "number_of" "number_of" 453 86 1 0 3 181 191 192 (.ref 193) (.ref 194) 195 460) ::
  (nat_lit 197, fnE "number_of" "number_of" sNumber (.str "tilewise.frames" 334) 196) ::
  (nat_lit 203, cdE "crc_table" "crc_table" 463 91 0 0 3 181 198 199 (.ref 200) (.ref 201) 202 470) ::
  (nat_lit 204, fnE "crc_table" "crc_table" sCrcTable (.str "tilewise.frames" 334) 203) ::
  (nat_lit 210, cdE "crc_of" "crc_of" 473 99 1 0 3 181 205 206 (.ref 207) (.ref 208) 209 480) ::
  (nat_lit 211, fnE "crc_of" "crc_of" sCrcOf (.str "tilewise.frames" 334) 210) ::
  (nat_lit 217, cdE "framed" "framed" 483 105 2 0 3 181 212 213 (.ref 214) (.ref 215) 216 490) ::
  (nat_lit 218, fnE "framed" "framed" sFramed (.str "tilewise.frames" 334) 217) ::
  (nat_lit 224, cdE "head_of" "head_of" 493 112 1 0 3 181 219 220 (.ref 221) (.ref 222) 223 498) ::
  (nat_lit 225, fnE "head_of" "head_of" sHeadOf (.str "tilewise.frames" 334) 224) ::
  (nat_lit 229, cdE "table_of" "table_of" 501 119 2 0 3 181 226 227 .none .none 228 504) ::
  (nat_lit 230, fnE "table_of" "table_of" sTable (.str "tilewise.frames" 334) 229) ::
  (nat_lit 236, cdE "tile_codes_of" "tile_codes_of" 507 122 2 0 3 181 231 232 (.ref 233) (.ref 234) 235 517) ::
  (nat_lit 237, fnE "tile_codes_of" "tile_codes_of" sTiles (.str "tilewise.frames" 334) 236) ::
  (nat_lit 243, cdE "opened" "opened" 520 133 1 0 3 181 238 239 (.ref 240) (.ref 241) 242 525) ::
  (nat_lit 244, fnE "opened" "opened" sOpened (.str "tilewise.frames" 334) 243) ::
  (nat_lit 250, cdE "all_between" "all_between" 536 140 3 0 3 181 245 246 (.ref 247) (.ref 248) 249 542) ::
  (nat_lit 251, fnE "all_between" "all_between" sBetween (.str "tilewise.ranges" 528) 250) ::
  (nat_lit 257, cdE "numbers_in_range" "numbers_in_range" 545 142 1 0 3 181 252 253 (.ref 254) (.ref 255) 256 549) ::
  (nat_lit 258, fnE "numbers_in_range" "numbers_in_range" sNumbersIn (.str "tilewise.ranges" 528) 257) ::
  (nat_lit 264, cdE "check_bytes" "check_bytes" 552 144 1 0 3 181 259 260 (.ref 261) (.ref 262) 263 556) ::
  (nat_lit 265, fnE "check_bytes" "check_bytes" sCheck (.str "tilewise.ranges" 528) 264) ::
  (nat_lit 271, cdE "flat" "flat" 561 148 1 0 3 181 266 267 (.ref 268) (.ref 269) 270 567) ::
  (nat_lit 272, fnE "flat" "flat" sFlat (.str "tilewise.bands" 559) 271) ::
  (nat_lit 276, cdE "cut_rows" "cut_rows" 570 153 3 0 3 181 273 274 .none .none 275 573) ::
  (nat_lit 277, fnE "cut_rows" "cut_rows" sCutRows (.str "tilewise.bands" 559) 276) ::
  (nat_lit 283, cdE "corner_sizes" "corner_sizes" 576 155 3 0 3 181 278 279 (.ref 280) (.ref 281) 282 584) ::
  (nat_lit 284, fnE "corner_sizes" "corner_sizes" sSizes (.str "tilewise.bands" 559) 283) ::
  (nat_lit 288, cdE "three_bands" "three_bands" 587 160 3 0 3 181 285 286 .none .none 287 590) ::
  (nat_lit 289, fnE "three_bands" "three_bands" sThree (.str "tilewise.bands" 559) 288) ::
  (nat_lit 293, cdE "bands_of" "bands_of" 593 165 2 0 3 181 290 291 .none .none 292 596) ::
  (nat_lit 294, fnE "bands_of" "bands_of" sBandsOf (.str "tilewise.bands" 559) 293) ::
  (nat_lit 298, cdE "mixed" "mixed" 601 174 1 0 3 181 295 296 .none .none 297 604) ::
  (nat_lit 299, fnE "mixed" "mixed" sMixed (.str "tilewise.mixing" 599) 298) ::
  (nat_lit 312, cdE "__init__" "BitWriter.__init__" 623 186 1 0 3 181 307 308 (.ref 309) (.ref 310) 311 627) ::
  (nat_lit 313, fnE "__init__" "BitWriter.__init__" sInitWriter (.str "tilewise.telling" 607) 312) ::
  (nat_lit 319, cdE "tell" "BitWriter.tell" 630 191 3 0 3 181 314 315 (.ref 316) (.ref 317) 318 636) ::
  (nat_lit 320, fnE "tell" "BitWriter.tell" sTell (.str "tilewise.telling" 607) 319) ::
  (nat_lit 326, cdE "all_bytes" "BitWriter.all_bytes" 639 199 1 0 3 181 321 322 (.ref 323) (.ref 324) 325 643) ::
  (nat_lit 327, fnE "all_bytes" "BitWriter.all_bytes" sAllBytes (.str "tilewise.telling" 607) 326) ::
  (nat_lit 329, ⟨(.type "dict"), none, (.dict #[en P "__module__" 618 (.str "tilewise.telling" 607), en P "__firstlineno__" 622 (.int 184 621), en P "__init__" 629 (.ref 313), en P "tell" 638 (.ref 320), en P "all_bytes" 645 (.ref 327), en P "__static_attributes__" 649 (.ref 328), en P "__dict__" 651 (.ref 331), en P "__weakref__" 653 (.ref 332), en P "__doc__" 654 .none] 4), #[]⟩) ::
  (nat_lit 330, ⟨(.type "type"), none, (.cls ⟨"BitWriter", [(.type "object")], [(.ref 330), (.type "object")], 329, "BitWriter", true, [], [], false, none, false⟩), #[none, none, (some (.str "BitWriter" 611)), (some (.str "BitWriter" 619)), (some (.builtin "object.__new__")), (some (.bool true))]⟩) ::
  (nat_lit 331, ⟨(.type "getset_descriptor"), none, (.fields #[(.str "__dict__" 650), (.ref 330), (.builtin "function.__dict__"), (.builtin "function.__dict__#set")]), #[]⟩) ::
  (nat_lit 332, ⟨(.type "getset_descriptor"), none, (.fields #[(.str "__weakref__" 652), (.ref 330), (.builtin "ExceptionGroup.__weakref__"), .none]), #[]⟩) ::
  (nat_lit 347, cdE "__init__" "Pace.__init__" 669 205 1 0 3 181 342 343 (.ref 344) (.ref 345) 346 673) ::
  (nat_lit 348, fnE "__init__" "Pace.__init__" sInitPace (.str "tilewise.telling" 607) 347) ::
  (nat_lit 354, cdE "low_bits" "Pace.low_bits" 676 209 1 0 3 181 349 350 (.ref 351) (.ref 352) 353 681) ::
  (nat_lit 355, fnE "low_bits" "Pace.low_bits" sLowBits (.str "tilewise.telling" 607) 354) ::
  (nat_lit 361, cdE "take" "Pace.take" 684 215 2 0 3 181 356 357 (.ref 358) (.ref 359) 360 689) ::
  (nat_lit 362, fnE "take" "Pace.take" sTake (.str "tilewise.telling" 607) 361) ::
  (nat_lit 364, ⟨(.type "dict"), none, (.dict #[en P "__module__" 664 (.str "tilewise.telling" 607), en P "__firstlineno__" 668 (.int 203 667), en P "__init__" 675 (.ref 348), en P "low_bits" 683 (.ref 355), en P "take" 691 (.ref 362), en P "__static_attributes__" 694 (.ref 363), en P "__dict__" 696 (.ref 366), en P "__weakref__" 698 (.ref 367), en P "__doc__" 699 .none] 4), #[]⟩) ::
  (nat_lit 365, ⟨(.type "type"), none, (.cls ⟨"Pace", [(.type "object")], [(.ref 365), (.type "object")], 364, "Pace", true, [], [], false, none, false⟩), #[none, none, (some (.str "Pace" 657)), (some (.str "Pace" 665)), (some (.builtin "object.__new__")), (some (.bool true))]⟩) ::
  (nat_lit 366, ⟨(.type "getset_descriptor"), none, (.fields #[(.str "__dict__" 695), (.ref 365), (.builtin "function.__dict__"), (.builtin "function.__dict__#set")]), #[]⟩) ::
  (nat_lit 367, ⟨(.type "getset_descriptor"), none, (.fields #[(.str "__weakref__" 697), (.ref 365), (.builtin "ExceptionGroup.__weakref__"), .none]), #[]⟩) ::
  (nat_lit 375, cdE "unsigned" "unsigned" 702 221 1 0 3 181 370 371 (.ref 372) (.ref 373) 374 706) ::
  (nat_lit 376, fnE "unsigned" "unsigned" sUnsigned (.str "tilewise.telling" 607) 375) ::
  (nat_lit 382, cdE "ones" "ones" 709 223 1 0 3 181 377 378 (.ref 379) (.ref 380) 381 713) ::
  (nat_lit 383, fnE "ones" "ones" sOnes (.str "tilewise.telling" 607) 382) ::
  (nat_lit 389, cdE "tell_number" "tell_number" 716 225 3 0 3 181 384 385 (.ref 386) (.ref 387) 388 723) ::
  (nat_lit 390, fnE "tell_number" "tell_number" sTellNumber (.str "tilewise.telling" 607) 389) ::
  (nat_lit 396, cdE "tell_band" "tell_band" 726 233 2 0 3 181 391 392 (.ref 393) (.ref 394) 395 733) ::
  (nat_lit 397, fnE "tell_band" "tell_band" sTellBand (.str "tilewise.telling" 607) 396) ::
  (nat_lit 401, cdE "planes_of" "planes_of" 738 239 2 0 3 181 398 399 .none .none 400 741) ::
  (nat_lit 402, fnE "planes_of" "planes_of" sPlanesOf (.str "tilewise.tiles" 736) 401) ::
  (nat_lit 408, cdE "plain_code" "plain_code" 744 241 1 0 3 181 403 404 (.ref 405) (.ref 406) 407 750) ::
  (nat_lit 409, fnE "plain_code" "plain_code" sPlainCode (.str "tilewise.tiles" 736) 408) ::
  (nat_lit 415, cdE "short_code" "short_code" 753 247 5 0 3 181 410 411 (.ref 412) (.ref 413) 414 764) ::
  (nat_lit 416, fnE "short_code" "short_code" sShortCode (.str "tilewise.tiles" 736) 415) ::
  (nat_lit 422, cdE "tile_code" "tile_code" 767 253 5 0 3 181 417 418 (.ref 419) (.ref 420) 421 777) ::
  (nat_lit 423, fnE "tile_code" "tile_code" sTileCode (.str "tilewise.tiles" 736) 422) ::
  (nat_lit 429, cdE "check_tile" "check_tile" 782 258 2 0 3 181 424 425 (.ref 426) (.ref 427) 428 787) ::
  (nat_lit 430, fnE "check_tile" "check_tile" sCheckTile (.str "tilewise.sheets" 780) 429) ::
  (nat_lit 436, cdE "put_answer" "put_answer" 790 261 3 0 3 181 431 432 (.ref 433) (.ref 434) 435 801) ::
  (nat_lit 437, fnE "put_answer" "put_answer" sPutAnswer (.str "tilewise.sheets" 780) 436) ::
  (nat_lit 443, cdE "put" "put" 804 275 3 0 3 181 438 439 (.ref 440) (.ref 441) 442 810) ::
  (nat_lit 444, fnE "put" "put" sMain (.str "tilewise.sheets" 780) 443) ::
  []
def hpAt : List Addr := [2, 3, 27, 28, 34, 35, 39, 40, 44, 45, 49, 50, 54, 55, 59, 60, 73, 74, 76, 77, 78, 79, 87, 88, 97, 98, 99, 110, 111, 112, 115, 128, 129, 135, 136, 142, 143, 149, 150, 159, 160, 161, 162, 177, 178, 180, 181, 182, 183, 189, 190, 196, 197, 203, 204, 210, 211, 217, 218, 224, 225, 229, 230, 236, 237, 243, 244, 250, 251, 257, 258, 264, 265, 271, 272, 276, 277, 283, 284, 288, 289, 293, 294, 298, 299, 312, 313, 319, 320, 326, 327, 329, 330, 331, 332, 347, 348, 354, 355, 361, 362, 364, 365, 366, 367, 375, 376, 382, 383, 389, 390, 396, 397, 401, 402, 408, 409, 415, 416, 422, 423, 429, 430, 436, 437, 443, 444]
theorem hp_at (P : Params) : hpAt = (hp P).map (·.1) := by kernel_rfl
abbrev pw : Program := PySem.Challenge.pw_tilewise_s06_put
def view : Program := { pw with main := { pw.main with body := ([0, 2, 3, 4, 5, 6, 7, 8, 10, 11, 13, 14, 16, 17, 18, 19, 20, 21, 22, 23, 24, 25, 26, 27, 28, 29, 30, 31, 32, 34, 35, 36, 37, 38, 39, 41, 42, 43, 44, 45, 47, 49, 50, 51, 52, 53, 54, 55, 57, 58, 59, 60, 62, 63, 64] : List Nat).map top } }
def Xs (s : Shared) : Bool := PySem.W.xlAt view [] s && PySem.W.recOk [] s
abbrev hk : PySem.W.Hook := PySem.W.kHook hp hpAt hp_at
def annT : Option Value := some (.ref 6)
noncomputable def run1L (w : World) (os : OsState) := (topRunT PySem.treeTable pw w 11 annT 6304 (stT w os) (PySem.W.topStub pw)).map (fun s => (kept pw (PySem.W.boot_heap w.params) s.abs, hpAt.map (atT s)))
noncomputable def run1R (w : World) (_ : OsState) := some (true, (hp w.params).map fun x => some x.2)
noncomputable def run2L (w : World) (os : OsState) := (topRunT PySem.treeTable pw w 11 annT 6304 (stT w os) (PySem.W.topStub pw)).map (fun s => PySem.W.openSeen view [] (PySem.importedModules pw.main.body) Xs true s.abs)
noncomputable def run2R (_ : World) (_ : OsState) := some (PySem.W.openGood view [])
theorem run1L_eq : run1L = run1L := rfl
theorem run1R_eq : run1R = run1R := rfl
theorem run2L_eq : run2L = run2L := rfl
theorem run2R_eq : run2R = run2R := rfl
name_quick T06_1L for run1L by run1L_eq
name_quick T06_1R for run1R by run1R_eq
name_quick T06_2L for run2L by run2L_eq
name_quick T06_2R for run2R by run2R_eq
theorem runQ1 (w : World) (os : OsState) : PySem.W.Fast.T06_1L w os = PySem.W.Fast.T06_1R w os := by kernel_rfl
theorem runQ2 (w : World) (os : OsState) : PySem.W.Fast.T06_2L w os = PySem.W.Fast.T06_2R w os := by kernel_rfl
theorem run1 (w : World) (os : OsState) : run1L w os = run1R w os := (congrFun (congrFun PySem.W.Fast.T06_1L_eq w) os).trans ((runQ1 w os).trans (congrFun (congrFun PySem.W.Fast.T06_1R_eq w) os).symm)
theorem run2 (w : World) (os : OsState) : run2L w os = run2R w os := (congrFun (congrFun PySem.W.Fast.T06_2L_eq w) os).trans ((runQ2 w os).trans (congrFun (congrFun PySem.W.Fast.T06_2R_eq w) os).symm)
theorem opened_ : PySem.W.opening pw = PySem.W.plainProg pw.main.scope.names := by kernel_rfl
theorem fenced_ (s : Shared) : fenceModules? pw s = some s := by kernel_rfl
theorem sized_ (w : World) : ((PySem.W.boot_heap w.params).isNs mainGlobals, (PySem.W.boot_heap w.params).objs.size, (PySem.W.boot_heap w.params).nsMap mainGlobals "__annotations__") = (true, 11, annT) := by kernel_rfl
theorem left_ : PySem.W.LeftO pw view [] (fun s => PySem.W.xlAt view [] s && PySem.W.recOk [] s) (PySem.W.Hook.obs hk) (PySem.W.Hook.val hk) 6304 :=
  left_tree (PySem.W.boot_open opened_ (by decide) fenced_) sized_ run1 run2
abbrev rw_ : PySem.W.OpenSpec := PySem.Challenge.rw_tilewise_s06_put
theorem said : rw_.wellSaid = true := by decide +kernel
theorem req (args : List PySem.W.WData) (h : rw_.pre args = true) : ∃ (xs : List TW.Arg) (ans : List Int), args = xs.map TW.Arg.data ∧ xs.length = 3 ∧ (∀ l, TW.Arg.nums l ∈ xs → l.length ≤ sizeLine) ∧ rw_.post args (.list (ans.map .int)) = true ∧
    ∀ (K : PySem.W.Frag) (H : Hp) (vs : List V), Only H → TW.ArgsH K H xs vs → spMain K vs H (fun v H' => ∃ p, v = .ref p ∧ SqL K H' p (ans.map V.int)) fun _ _ _ => False := by
  obtain ⟨⟨t, xs, ys, _⟩, hw, _, rfl⟩ := (PySem.W.OpenSpec.pre_iff said args).mp h
  have hw' : (PySem.W.Codec.inInt (-2147483648) 2147483647 t && ((PySem.W.Codec.inNat 0 100000 xs.length && xs.all (PySem.W.Codec.inInt 0 255)) && ((PySem.W.Codec.inNat 0 30000 ys.length && ys.all (PySem.W.Codec.inInt (-2147483648) 2147483647)) && true))) = true := hw
  have h0 := PySem.W.Codec.and_of (PySem.W.Codec.and_of hw').2
  have h2 := PySem.W.Codec.and_of (PySem.W.Codec.and_of h0.2).1
  have h1 := PySem.W.Codec.and_of h0.1
  have hl1 : xs.length ≤ 100000 := (PySem.W.Codec.inNat_iff.mp h1.1).2
  have hl2 : ys.length ≤ 30000 := (PySem.W.Codec.inNat_iff.mp h2.1).2
  have hi1 : ∀ n ∈ xs, 0 ≤ n ∧ n ≤ 255 := fun n hn => PySem.W.Codec.inInt_iff.mp (List.all_eq_true.mp h1.2 n hn)
  refine ⟨[.int t, .nums xs, .nums ys], PySp21.put t xs ys, rfl, rfl, fun l hl => ?_, (PySem.W.OpenSpec.post_iff said hw _ []).mpr rfl, fun K H vs hO hA => ?_⟩
  · have e : TW.Arg.nums l = TW.Arg.nums xs ∨ TW.Arg.nums l = TW.Arg.nums ys := by simpa using hl
    rcases e with e | e <;> (injection e with e; rw [e]; exact line_ge (by omega))
  · cases hA with
    | cons a1 hA =>
      cases hA with
      | cons a2 hA =>
        cases hA with
        | cons a3 hA =>
          cases hA
          obtain ⟨a, rfl, hq⟩ := a2
          obtain ⟨b, rfl, hq2⟩ := a3
          cases a1
          exact ⟨t, a, b, xs, ys, rfl, hq, hq2, hl1, hi1, fun p H' g => ⟨p, rfl, .of g⟩⟩

theorem walk {q : Program} {loose : List Str} {XP : (Str → Option Value) → Heap → Prop} {YP : World → Heap → Prop} {d : DefRec} {K : Params → PySem.W.Frag} (hdf : d.params.defaults = [])
    (hY : ∀ (w : World) (h : Heap), YP w h → (K w.params).In h)
    (F : ∀ (w : World) (mg : Str → Option Value) (fa : Addr) (h : Heap), (K w.params).In h → h.Ns mainGlobals mg → mg d.name = some (.ref fa) →
      ∃ fd : FuncData, (∀ (s : Shared) (us : List Value), us.length = 3 → BindsTo s fd ⟨us, []⟩ ((["t", "coded", "numbers"] : List Str).zip us)) ∧ ∀ base : Heap, (K w.params).In base → base.Ns mainGlobals mg → FnOk rw_.prog w (K w.params) mg base CX0 8 fa fd (["t", "coded", "numbers"] : List Str) (spMain (K w.params))) :
    PySem.W.WalkOS q loose XP YP rw_ d [] (fun f vs => PySem.call f vs) :=
  TW.walk_spec (r := rw_) (k := 8) (ps := (["t", "coded", "numbers"] : List Str)) (CX := CX0) (sp := spMain) hdf ⟨rfl, by decide, by decide⟩ hY F req fun _ _ _ _ z => z
end T06
open PySem PySem.W PyProof.Rows
set_option maxRecDepth 100000 in
set_option maxHeartbeats 0 in
theorem PySem.Challenge.cw_tilewise_s06_put_holds : PySem.Challenge.rw_tilewise_s06_put.Holds := by
  refine holds_os (q := T06.view) (loose := []) (Xt := fun s => xlAt T06.view [] s && recOk [] s) (XP := XL T06.view []) (Yf := Hook.obs (kHook T06.hp T06.hpAt T06.hp_at)) (Ya := Hook.val (kHook T06.hp T06.hpAt T06.hp_at)) (YP := Hook.says (kHook T06.hp T06.hpAt T06.hp_at)) T06.left_ (Hook.of (kHook T06.hp T06.hpAt T06.hp_at)) (Hook.keeps (kHook T06.hp T06.hpAt T06.hp_at)) (fun s e => xl_of s (Bool.and_eq_true_iff.mp e).1) XL.keeps (by rfl) (by rfl) (by rfl) (fun s e => recFacts_of (Bool.and_eq_true_iff.mp e).2) os_shapes (by decide +kernel) (by decide +kernel) ⟨rfl, rfl, rfl, rfl, rfl, by decide +kernel⟩ ⟨[.int 0, .list [], .list []], by decide +kernel, by decide +kernel⟩ ?_
  k_fillS
  refine T06.walk rfl (fun w h Y => PySem.W.kIn_of Y) ?F
  case F =>
    intro w mg fa h KX G hmg
    refine' T06.all_mk KX G hmg ?aF0 ?lF0 ?cF0 ?kF0 ?aF1 ?lF1 ?cF1 ?kF1 ?aF2 ?lF2 ?cF2 ?kF2 ?aF3 ?lF3 ?cF3 ?kF3 ?aF4 ?lF4 ?cF4 ?kF4 ?aF5 ?lF5 ?cF5 ?kF5 ?aF6 ?lF6 ?cF6 ?kF6 ?aF7 ?lF7 ?cF7 ?kF7 ?aF8 ?lF8 ?cF8 ?kF8 ?aF9 ?lF9 ?cF9 ?kF9 ?aF10 ?lF10 ?cF10 ?kF10 ?aF11 ?lF11 ?cF11 ?kF11 ?aF12 ?lF12 ?cF12 ?kF12 ?aF13 ?lF13 ?cF13 ?kF13 ?aF14 ?lF14 ?cF14 ?kF14 ?aF15 ?lF15 ?cF15 ?kF15 ?aF16 ?lF16 ?cF16 ?kF16 ?aF17 ?lF17 ?cF17 ?kF17 ?aF18 ?lF18 ?cF18 ?kF18 ?aF19 ?lF19 ?cF19 ?kF19 ?aF20 ?lF20 ?cF20 ?kF20 ?aF21 ?lF21 ?cF21 ?kF21 ?aF22 ?lF22 ?cF22 ?kF22 ?aF23 ?lF23 ?cF23 ?kF23 ?aF24 ?lF24 ?cF24 ?kF24 ?aF25 ?lF25 ?cF25 ?kF25 ?aF26 ?lF26 ?cF26 ?kF26 ?aF27 ?lF27 ?cF27 ?kF27 ?aF28 ?lF28 ?cF28 ?kF28 ?aF29 ?lF29 ?cF29 ?kF29 ?aF30 ?lF30 ?cF30 ?kF30 ?aF31 ?lF31 ?cF31 ?kF31 ?aF32 ?lF32 ?cF32 ?kF32 ?aF33 ?lF33 ?cF33 ?kF33 ?aF34 ?lF34 ?cF34 ?kF34 ?aF35 ?lF35 ?cF35 ?kF35 ?aF36 ?lF36 ?cF36 ?kF36 ?aPlace ?pgPlace ?hdPlace ?poPlace ?saPlace ?mkPlace ?kcPlace ?nPlace_x ?nPlace_y ?nPlace_width ?nPlace_height ?aM37 ?iM37 ?lM37 ?cM37 ?kM37 ?aHead ?pgHead ?hdHead ?poHead ?saHead ?mkHead ?kcHead ?nHead_kinds ?nHead_wide ?nHead_high ?nHead_e ?nHead_levels ?aM38 ?iM38 ?lM38 ?cM38 ?kM38 ?aM39 ?iM39 ?lM39 ?cM39 ?kM39 ?aM40 ?iM40 ?lM40 ?cM40 ?kM40 ?aM41 ?iM41 ?lM41 ?cM41 ?kM41 ?aParts ?pgParts ?hdParts ?poParts ?saParts ?mkParts ?kcParts ?nParts_head ?nParts_codes ?aM42 ?iM42 ?lM42 ?cM42 ?kM42 ?aBitWriter ?pgBitWriter ?hdBitWriter ?poBitWriter ?saBitWriter ?mkBitWriter ?kcBitWriter ?nBitWriter_done ?nBitWriter_rest ?nBitWriter_held ?aM43 ?iM43 ?lM43 ?cM43 ?kM43 ?aM44 ?iM44 ?lM44 ?cM44 ?kM44 ?aM45 ?iM45 ?lM45 ?cM45 ?kM45 ?aPace ?pgPace ?hdPace ?poPace ?saPace ?mkPace ?kcPace ?nPace_a ?nPace_c ?aM46 ?iM46 ?lM46 ?cM46 ?kM46 ?aM47 ?iM47 ?lM47 ?cM47 ?kM47 ?aM48 ?iM48 ?lM48 ?cM48 ?kM48 ?aOutOfRange ?xOutOfRange ?aNotACode ?xNotACode ?e11 ?e21 ?e22 ?vHEAD_LENGTH ?vCRC_LENGTH ?vMOST_LEVELS ?vALL_ONES ?vCRC_WORD ?vHIGHEST ?vHIGHEST_BYTE ?vMOST_BYTES ?vLONGEST ?vFIRST_BYTES ?uFIRST_BYTES ?zlen ?zmin ?zmax ?zsum ?zrange ?ztuple ?zenumerate ?zlist ?zzip ?zabs
    (case aF0 => k_is)
    (case lF0 => k_is)
    (case cF0 => k_is)
    (case kF0 => k_is)
    (case aF1 => k_is)
    (case lF1 => k_is)
    (case cF1 => k_is)
    (case kF1 => k_is)
    (case aF2 => k_is)
    (case lF2 => k_is)
    (case cF2 => k_is)
    (case kF2 => k_is)
    (case aF3 => k_is)
    (case lF3 => k_is)
    (case cF3 => k_is)
    (case kF3 => k_is)
    (case aF4 => k_is)
    (case lF4 => k_is)
    (case cF4 => k_is)
    (case kF4 => k_is)
    (case aF5 => k_is)
    (case lF5 => k_is)
    (case cF5 => k_is)
    (case kF5 => k_is)
    (case aF6 => k_is)
    (case lF6 => k_is)
    (case cF6 => k_is)
    (case kF6 => k_is)
    (case aF7 => k_is)
    (case lF7 => k_is)
    (case cF7 => k_is)
    (case kF7 => k_is)
    (case aF8 => k_is)
    (case lF8 => k_is)
    (case cF8 => k_is)
    (case kF8 => k_is)
    (case aF9 => k_is)
    (case lF9 => k_is)
    (case cF9 => k_is)
    (case kF9 => k_is)
    (case aF10 => k_is)
    (case lF10 => k_is)
    (case cF10 => k_is)
    (case kF10 => k_is)
    (case aF11 => k_is)
    (case lF11 => k_is)
    (case cF11 => k_is)
    (case kF11 => k_is)
    (case aF12 => k_is)
    (case lF12 => k_is)
    (case cF12 => k_is)
    (case kF12 => k_is)
    (case aF13 => k_is)
    (case lF13 => k_is)
    (case cF13 => k_is)
    (case kF13 => k_is)
    (case aF14 => k_is)
    (case lF14 => k_is)
    (case cF14 => k_is)
    (case kF14 => k_is)
    (case aF15 => k_is)
    (case lF15 => k_is)
    (case cF15 => k_is)
    (case kF15 => k_is)
    (case aF16 => k_is)
    (case lF16 => k_is)
    (case cF16 => k_is)
    (case kF16 => k_is)
    (case aF17 => k_is)
    (case lF17 => k_is)
    (case cF17 => k_is)
    (case kF17 => k_is)
    (case aF18 => k_is)
    (case lF18 => k_is)
    (case cF18 => k_is)
    (case kF18 => k_is)
    (case aF19 => k_is)
    (case lF19 => k_is)
    (case cF19 => k_is)
    (case kF19 => k_is)
    (case aF20 => k_is)
    (case lF20 => k_is)
    (case cF20 => k_is)
    (case kF20 => k_is)
    (case aF21 => k_is)
    (case lF21 => k_is)
    (case cF21 => k_is)
    (case kF21 => k_is)
    (case aF22 => k_is)
    (case lF22 => k_is)
    (case cF22 => k_is)
    (case kF22 => k_is)
    (case aF23 => k_is)
    (case lF23 => k_is)
    (case cF23 => k_is)
    (case kF23 => k_is)
    (case aF24 => k_is)
    (case lF24 => k_is)
    (case cF24 => k_is)
    (case kF24 => k_is)
    (case aF25 => k_is)
    (case lF25 => k_is)
    (case cF25 => k_is)
    (case kF25 => k_is)
    (case aF26 => k_is)
    (case lF26 => k_is)
    (case cF26 => k_is)
    (case kF26 => k_is)
    (case aF27 => k_is)
    (case lF27 => k_is)
    (case cF27 => k_is)
    (case kF27 => k_is)
    (case aF28 => k_is)
    (case lF28 => k_is)
    (case cF28 => k_is)
    (case kF28 => k_is)
    (case aF29 => k_is)
    (case lF29 => k_is)
    (case cF29 => k_is)
    (case kF29 => k_is)
    (case aF30 => k_is)
    (case lF30 => k_is)
    (case cF30 => k_is)
    (case kF30 => k_is)
    (case aF31 => k_is)
    (case lF31 => k_is)
    (case cF31 => k_is)
    (case kF31 => k_is)
    (case aF32 => k_is)
    (case lF32 => k_is)
    (case cF32 => k_is)
    (case kF32 => k_is)
    (case aF33 => k_is)
    (case lF33 => k_is)
    (case cF33 => k_is)
    (case kF33 => k_is)
    (case aF34 => k_is)
    (case lF34 => k_is)
    (case cF34 => k_is)
    (case kF34 => k_is)
    (case aF35 => k_is)
    (case lF35 => k_is)
    (case cF35 => k_is)
    (case kF35 => k_is)
    (case aF36 => k_is)
    (case lF36 => k_is)
    (case cF36 => k_is)
    (case kF36 => k_is)
    (case aPlace => k_is)
    (case pgPlace => k_is)
    (case hdPlace => k_is)
    (case poPlace => k_is)
    (case saPlace => k_is)
    (case mkPlace => k_is)
    (case kcPlace => k_is)
    (case nPlace_x => k_is)
    (case nPlace_y => k_is)
    (case nPlace_width => k_is)
    (case nPlace_height => k_is)
    (case aM37 => k_is)
    (case iM37 => k_is)
    (case lM37 => k_is)
    (case cM37 => k_is)
    (case kM37 => k_is)
    (case aHead => k_is)
    (case pgHead => k_is)
    (case hdHead => k_is)
    (case poHead => k_is)
    (case saHead => k_is)
    (case mkHead => k_is)
    (case kcHead => k_is)
    (case nHead_kinds => k_is)
    (case nHead_wide => k_is)
    (case nHead_high => k_is)
    (case nHead_e => k_is)
    (case nHead_levels => k_is)
    (case aM38 => k_is)
    (case iM38 => k_is)
    (case lM38 => k_is)
    (case cM38 => k_is)
    (case kM38 => k_is)
    (case aM39 => k_is)
    (case iM39 => k_is)
    (case lM39 => k_is)
    (case cM39 => k_is)
    (case kM39 => k_is)
    (case aM40 => k_is)
    (case iM40 => k_is)
    (case lM40 => k_is)
    (case cM40 => k_is)
    (case kM40 => k_is)
    (case aM41 => k_is)
    (case iM41 => k_is)
    (case lM41 => k_is)
    (case cM41 => k_is)
    (case kM41 => k_is)
    (case aParts => k_is)
    (case pgParts => k_is)
    (case hdParts => k_is)
    (case poParts => k_is)
    (case saParts => k_is)
    (case mkParts => k_is)
    (case kcParts => k_is)
    (case nParts_head => k_is)
    (case nParts_codes => k_is)
    (case aM42 => k_is)
    (case iM42 => k_is)
    (case lM42 => k_is)
    (case cM42 => k_is)
    (case kM42 => k_is)
    (case aBitWriter => k_is)
    (case pgBitWriter => k_is)
    (case hdBitWriter => k_is)
    (case poBitWriter => k_is)
    (case saBitWriter => k_is)
    (case mkBitWriter => k_is)
    (case kcBitWriter => k_is)
    (case nBitWriter_done => k_is)
    (case nBitWriter_rest => k_is)
    (case nBitWriter_held => k_is)
    (case aM43 => k_is)
    (case iM43 => k_is)
    (case lM43 => k_is)
    (case cM43 => k_is)
    (case kM43 => k_is)
    (case aM44 => k_is)
    (case iM44 => k_is)
    (case lM44 => k_is)
    (case cM44 => k_is)
    (case kM44 => k_is)
    (case aM45 => k_is)
    (case iM45 => k_is)
    (case lM45 => k_is)
    (case cM45 => k_is)
    (case kM45 => k_is)
    (case aPace => k_is)
    (case pgPace => k_is)
    (case hdPace => k_is)
    (case poPace => k_is)
    (case saPace => k_is)
    (case mkPace => k_is)
    (case kcPace => k_is)
    (case nPace_a => k_is)
    (case nPace_c => k_is)
    (case aM46 => k_is)
    (case iM46 => k_is)
    (case lM46 => k_is)
    (case cM46 => k_is)
    (case kM46 => k_is)
    (case aM47 => k_is)
    (case iM47 => k_is)
    (case lM47 => k_is)
    (case cM47 => k_is)
    (case kM47 => k_is)
    (case aM48 => k_is)
    (case iM48 => k_is)
    (case lM48 => k_is)
    (case cM48 => k_is)
    (case kM48 => k_is)
    (case aOutOfRange => k_is)
    (case xOutOfRange => k_exc)
    (case aNotACode => k_is)
    (case xNotACode => k_exc)
    (case e11 => kts_exm)
    (case e21 => kts_exm)
    (case e22 => kts_exm)
    (case vHEAD_LENGTH => k_is)
    (case vCRC_LENGTH => k_is)
    (case vMOST_LEVELS => k_is)
    (case vALL_ONES => k_is)
    (case vCRC_WORD => k_is)
    (case vHIGHEST => k_is)
    (case vHIGHEST_BYTE => k_is)
    (case vMOST_BYTES => k_is)
    (case vLONGEST => k_is)
    (case vFIRST_BYTES => k_is)
    (case uFIRST_BYTES => k_is)
    (case zlen => k_is)
    (case zmin => k_is)
    (case zmax => k_is)
    (case zsum => k_is)
    (case zrange => k_is)
    (case ztuple => k_is)
    (case zenumerate => k_is)
    (case zlist => k_is)
    (case zzip => k_is)
    (case zabs => k_is)
#print axioms PySem.Challenge.cw_tilewise_s06_put_holds

